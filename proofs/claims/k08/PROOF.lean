import PyProof.Rows.All
import Wide.All
import OpenK.AllK
import Wide.FinOn
import KE.KStateDown
import Lean
import PyProof.ReprRoads
import HandS.ForMost
import HandS.More
import HandS.Exc
import HandS.ExcOwn
import HandS.ExcIs
import HandS.TryOnly
import HandS.WordsExc
import HandS.Defaults
import HandS.Wide
import HandS.StrMore
import HandS.Replace
import HandS.Style
import HandS.Flow
import HandS.Zip
import HandS.Walk
import HandS.Evl
import HandS.Sort
import HandS.TupAny
import HandS.Head0
import HandS.Head1
import HandS.Head2
import HandS.HeadEnd
import HandS.HeadHook1
import HandS.HeadHook2
import KE.GoesMore
import KE.GoesEnum
import PyProof.CollectStr
import PyProof.ListStr
import HandS.Set
import HandS.TupMul
import KE.KRevSl
import PyProof.StrOps2
import PyProof.ReprLen
import HandS.HeadHook3
import HandS.HeadHook4
import HandS.HeadNt
import HandS.Conv
import HandS.MakeKwOnly
import PySem.Challenge.RW_soundturns_k08_traces_and_pieces
set_option Elab.async false
set_option linter.all false
set_option maxRecDepth 100000
set_option maxHeartbeats 4000000
/-! General words of mine over the layer: a def called by its name, whatever it may raise. -/
namespace Sv
open PySem PySem.Spec PyProof.Rows L2

/-- the def that the module's name x holds keeps the promise sp; it may raise -/
structure CalX (P : Program) (w : World) (K : PySem.W.Frag) (mg : Str → Option Value) (base : Heap) (k : Nat) (x : Str) (sp : Sp) : Prop where
  ex : ∃ (f : Addr) (fd : FuncData) (ps : List Str), FnOk P w K mg base (L2.CX P w) k f fd ps sp ∧ mg x = some (.ref f) ∧ PySem.W.keepIn K (.ref f) = true ∧ Binds K fd ps []
section
variable {X : Cx} {k : Nat} {sp : Sp} {x : Str} {p pos : Pos} {e : Expr} {es : List Expr} {t : TA} {E : XK}
theorem pe_cx (c : CalX X.prog X.w X.K X.mg X.base k x sp) (hr : Room k X.A) (hg : Gl X x) (hx : Passes (L2.CX X.prog X.w) X E) (ha : PA X (e :: es) t) (hdb : (x == ("__debug__" : Str)) = false := by decide)
    (he : starEach (e :: es) X.env = (false, eval e X.env) :: starEach es X.env := by rfl) (hpl : (backTo pos (starEach es X.env)).any (·.1) = false := by rfl) : PE X (.Call (.Name x p) (e :: es) [] pos) (tCall sp [] E t) := by
  obtain ⟨f, fd, ps, F, hm, hk, hb⟩ := c.ex
  exact pe_call F hr hg hm hk hb .nil hx ha hdb he hpl
/-- the same within a try: what is raised is wished for at the slots -/
theorem pe_cxS {W : WX} (c : CalX X.prog X.w X.K X.mg X.base k x sp) (hr : Room k X.A) (hg : Gl X x) (tk : Takes X W) (ha : PA X (e :: es) t) (hdb : (x == ("__debug__" : Str)) = false := by decide)
    (he : starEach (e :: es) X.env = (false, eval e X.env) :: starEach es X.env := by rfl) (hpl : (backTo pos (starEach es X.env)).any (·.1) = false := by rfl) : PE X (.Call (.Name x p) (e :: es) [] pos) (tCallS sp (WE W) t) := by
  obtain ⟨f, fd, ps, F, hm, hk, hb⟩ := c.ex
  exact pe_callS F hr hg hm hk hb (fun σ => passAt tk σ) ha hdb he hpl
theorem pe_gl {y : Str} {v : V} {q : Pos} (hg : Gl X y) (h : ∃ u, X.mg y = some u ∧ RelV v u) (hdb : (y == ("__debug__" : Str)) = false := by decide) : PE X (.Name y q) (tC v) := by
  obtain ⟨u, hm, r⟩ := h
  exact pe_glob hg hm r hdb
end
theorem gS {mg : Str → Option Value} {x z : Str} (h : ∃ t, mg x = some (.str z t)) : ∃ u, mg x = some u ∧ RelV (.str z) u := h.elim fun t e => ⟨_, e, ⟨t, rfl⟩⟩
theorem gI {mg : Str → Option Value} {x : Str} {i : Int} (h : ∃ t, mg x = some (.int i t)) : ∃ u, mg x = some u ∧ RelV (.int i) u := h.elim fun t e => ⟨_, e, ⟨t, rfl⟩⟩
end Sv

set_option Elab.async false
set_option linter.all false
set_option maxRecDepth 100000
set_option maxHeartbeats 4000000
/-! Texts as lists of signs; errors as results. -/
namespace Sv
open PySem PySem.Spec PyProof.Rows L2

/-- the text with these signs -/
abbrev tx (l : List Nat) : Str := ⟨l.toArray⟩
theorem tx_len (l : List Nat) : (tx l).length = l.length := by simp [Str.length]
theorem tx_list (l : List Nat) : (tx l).cps.toList = l := by simp
theorem tx_inj {l m : List Nat} (h : tx l = tx m) : l = m := by
  have e := congrArg (fun s : Str => s.cps.toList) h
  simpa using e
theorem tx_of (s : Str) : s = tx s.cps.toList := by
  cases s
  simp
theorem tx_app (l m : List Nat) : tx l ++ tx m = tx (l ++ m) := by
  show (⟨l.toArray ++ m.toArray⟩ : Str) = _
  simp
/-- the kinds of errors -/
inductive Er where
  | word | rule | machine | number | large
  deriving DecidableEq
def Er.nm : Er → Str
  | .word => "NotWord"
  | .rule => "NotRule"
  | .machine => "NotMachine"
  | .number => "BadNumber"
  | .large => "TooLarge"
/-- what a call has as its end: a value that stands for the data, or an error of this kind; what was there stays -/
def Out (K : PySem.W.Frag) (H : Hp) (Q : VK) (E : XK) : Except Er PyData → Prop
  | .ok d => ∀ v H', Same H H' → Dp K H' v d → Q v H'
  | .error e => ∀ H', Same H H' → E (.ref (He.ga K e.nm)) none H'
theorem Out.mono {K : PySem.W.Frag} {H H1 : Hp} {Q : VK} {E : XK} {r : Except Er PyData} (h : Out K H Q E r) (s : Same H H1) : Out K H1 Q E r := by
  cases r with
  | ok d => exact fun v H' s' hd => h v H' (s.trans s') hd
  | error e => exact fun H' s' => h H' (s.trans s')
theorem Same.new {H : Hp} {p : Addr} {o : HO} (h : H p = none) : Same H (upd H p o) := Evl.Ex.new h
theorem same_t {K : PySem.W.Frag} {H H' : Hp} {a : Addr} {xs : List V} (e : Same H H') (h : SqT K H a xs) : SqT K H' a xs := Evl.ex_t e h
theorem same_l {K : PySem.W.Frag} {H H' : Hp} {a : Addr} {xs : List V} (e : Same H H') (h : SqL K H a xs) : SqL K H' a xs := Evl.ex_l e h
mutual
theorem Dp.same {K : PySem.W.Frag} {H H' : Hp} (e : Same H H') : ∀ {d : PyData} {v : V}, Dp K H v d → Dp K H' v d
  | .none, _, .non => .non
  | .bool _, _, .bl b => .bl b
  | .int _, _, .int i => .int i
  | .str _, _, .str x => .str x
  | .list _, _, .lst h a => .lst (same_l e h) (DpAll.same e a)
  | .tuple _, _, .tup h a => .tup (same_t e h) (DpAll.same e a)
theorem DpAll.same {K : PySem.W.Frag} {H H' : Hp} (e : Same H H') : ∀ {ds : List PyData} {vs : List V}, DpAll K H vs ds → DpAll K H' vs ds
  | [], _, .nil => .nil
  | _ :: _, _, .cons h a => .cons (Dp.same e h) (DpAll.same e a)
end
/-- an error class of the program, as the top has left it -/
structure ExcF (K : PySem.W.Frag) (mg : Str → Option Value) (x : Str) : Prop where
  g : mg x = some (.ref (He.ga K x))
  q : PySem.W.excIn K (He.ga K x) He.veBase "ValueError.__new__" = true
  kp : PySem.W.keepIn K (.ref (He.ga K x)) = true
  sb : PySem.W.subIn K (.ref (He.ga K x)) (.type "BaseException") = some true
  ty : PySem.W.typeIn K (.ref (He.ga K x)) = some (.type "type")
theorem gX {K : PySem.W.Frag} {mg : Str → Option Value} {x : Str} (e : ExcF K mg x) : ∃ u, mg x = some u ∧ RelV (.ref (He.ga K x)) u := ⟨_, e.g, rfl⟩
section
variable {X : Cx} {x m : Str} {j : Nat} {p p2 pos pos2 : Pos} {W : WX}
def tRaiseC (a : Addr) (W : WX) : TS := fun _ σ H => W (.ref a) none σ H
theorem ps_raiseC (c : ExcF X.K X.mg x) (hc : X.calm = true) (tk : Takes X W) (hg : Gl X x) (hdb : (x == ("__debug__" : Str)) = false := by decide) :
    PS X (.Raise (some (.Call (.Name x p) [.Constant (.str m) j p2] [] pos)) none pos2) (tRaiseC (He.ga X.K x) W) :=
  ps_raise hc tk (pmk_own PySem.F.excBase_ValueError c.q c.g c.kp (raises_own c.sb c.ty) hg hdb)
end
/-- E as a wish with slots -/
abbrev WX0 (E : XK) : WX := fun cls d _ H => E cls d H
end Sv

set_option Elab.async false
set_option linter.all false
set_option maxRecDepth 100000
set_option maxHeartbeats 4000000
/-! enumerate of tuples and of texts, over whatever draws. -/
namespace Sv
open PySem PySem.Spec PyProof.Rows L2

/-- n turns, the i-th yields a new pair of i and f i; G stands at each -/
def ItEn (G : Hp → Prop) (n : Nat) (f : Nat → V) : It :=
  ⟨fun i H => G H ∧ i < n, fun i H v H' => ∃ T, v = .ref T ∧ H T = none ∧ H' = upd H T (.tup [.int (i : Nat), f i]), fun i H => G H ∧ i = n⟩
/-- what draws the items, found in each state -/
structure EnSrc (P : Program) (w : World) (K : PySem.W.Frag) (G : Hp → Prop) (n : Nat) (f : Nat → V) (e it : Addr) (Si : Nat → Heap → Prop) : Prop where
  live : ∀ i h, Si i h → ∃ o, h.get? it = some o ∧ ∀ v, o.data ≠ .cell v
  frame : ∀ i h h', Si i h → (∀ o, h.get? it = some o → h'.get? it = some o) → Si i h'
  src : ∀ (X : Cx), X.prog = P → X.w = w → X.K = K → ∀ (pins : List (Addr × Obj)) (s : Shared) (σ : L2.St) (H : Hp), Inv X pins σ H s → G H → ∀ (i : Nat) (old : Value), Si i s.heap → IsEnum s.heap e it ((i : Nat) : Int) old →
    ∃ (fp : List Addr) (Pt : Nat → Value → Prop) (St : Nat → Heap → Prop), (∀ A : Around, A.handled = none → Draws P w A it fp n Pt St) ∧ e ∉ fp ∧ St i s.heap ∧ (∀ j h, St j h → Si j h) ∧ ∀ j x, Pt j x → RelV (f j) x
theorem turn_en {P : Program} {w : World} {K : PySem.W.Frag} {elts : List Expr} {kk : Nat} {tpos : Pos} {G : Hp → Prop} {n : Nat} {f : Nat → V} {e it : Addr} {Si : Nat → Heap → Prop} (S : EnSrc P w K G n f e it Si) :
    Turn P w K (.Tuple elts kk tpos) (ItEn G n f) [e, it] e (fun i h => (∃ old, IsEnum h e it ((i : Nat) : Int) old) ∧ Si i h ∧ e ≠ it) where
  mem := List.mem_cons_self
  obj := fun i h st b hb => by
    obtain ⟨⟨old, hen⟩, hs, _⟩ := st
    rcases List.mem_cons.mp hb with z | z
    · exact ⟨_, z ▸ hen, fun v q => by cases q⟩
    · exact (List.mem_singleton.mp z) ▸ S.live i h hs
  keep := fun i h h' st k => by
    obtain ⟨⟨old, hen⟩, hs, hne⟩ := st
    exact ⟨⟨old, k e List.mem_cons_self _ hen⟩, S.frame i h h' hs (k it (List.mem_cons_of_mem _ List.mem_cons_self)), hne⟩
  item := by
    rintro X rfl rfl rfl calm i pins s σ H E I hfp ⟨⟨old, hen⟩, hs, hne⟩ ⟨hG, hlt⟩
    obtain ⟨fp, Pt, St, D, hef, hst, back, rel⟩ := S.src X rfl rfl rfl pins s σ H I hG i old hs hen
    obtain ⟨oi, hoi, _⟩ := S.live i s.heap hs
    have lE : e < s.heap.objs.size := Heap.lt_size hen
    have lI : it < s.heap.objs.size := Heap.lt_size hoi
    refine wpAny_pyNext_enum_itemD (D X.A.in1 (I.ok.hd calm)) hen hst hlt hne hef fun x h1 tk hx out1 st1 tup1 _ keep1 => ⟨_, rfl, ?_⟩
    refine wpAny_letOwnedTupleGo_enum (s := { s with heap := h1, toks := tk + 1 }) out1 fun h2 en2 same2 => ?_
    have tup2 := (same2.2 s.heap.objs.size (Nat.ne_of_gt lE)).trans tup1
    have fr : H s.heap.objs.size = none := I.hok.fresh (Nat.le_refl _)
    have ob : ObjOk X.prog X.w (upd H s.heap.objs.size (.tup [.int (i : Nat), f i])) h2 s.heap.objs.size (.tup [.int (i : Nat), f i]) :=
      ⟨(by decide : 2 ≤ sizeLine), [.int i tk, x], .cons ⟨_, rfl⟩ (.cons (rel i x hx) .nil), ⟨_, tup2, rfl, _, rfl⟩⟩
    have stays : ∀ (b : Addr) (o : Obj), b ∉ [e, it] → s.heap.get? b = some o → h2.get? b = some o := fun b o hb q => by
      have b1 : b ≠ e := fun z => hb (z ▸ List.mem_cons_self)
      have b2 : b ≠ it := fun z => hb (z ▸ List.mem_cons_of_mem _ List.mem_cons_self)
      exact (same2.2 b b1).trans (keep1 b o b1 b2 q)
    refine ⟨.ref s.heap.objs.size, _, I.turnedNew (t' := tk + 1) stays hfp (Nat.le_refl _) ob, rfl, ⟨_, rfl, fr, rfl⟩, ⟨⟨x, ?_⟩, ?_, hne⟩, fun b hb => ?_⟩
    · rw [Int.natCast_add]
      exact en2
    · exact S.frame (i + 1) h1 h2 (back _ _ st1) fun o q => (same2.2 it (Ne.symm hne)).trans q
    · have hlt' : b < s.heap.objs.size := by
        rcases List.mem_cons.mp hb with z | z
        · exact z ▸ lE
        · exact (List.mem_singleton.mp z) ▸ lI
      exact (upd_ne (Nat.ne_of_lt hlt')).trans (hfp b hb).1
  done := by
    rintro X rfl rfl rfl calm i pins s σ H E I hfp ⟨⟨old, hen⟩, hs, hne⟩ ⟨hG, hle⟩
    obtain ⟨fp, Pt, St, D, hef, hst, back, rel⟩ := S.src X rfl rfl rfl pins s σ H I hG i old hs hen
    obtain ⟨f0, f1, f2, f3, f4, f5⟩ := hfp it (List.mem_cons_of_mem _ List.mem_cons_self)
    rw [hle] at hst
    exact wpAny_pyNext_enum_endD (D X.A.in1 (I.ok.hd calm)) hen hst fun h1 ext => ⟨rfl, I.turned (t' := s.toks) (fun b o hb q => ext b o hb q) f0 f1 f3 f4 f5⟩
  self := fun A i s Q E st h => by
    obtain ⟨⟨old, hen⟩, _⟩ := st
    exact wpAny_pyIter_enum hen h
/-! ### enumerate(v) begins -/
theorem enum_new1 {v : Value} {o : Obj} {Hs : Heap → Prop} (B : Begins v o Hs) :
    Meets (Builtin.«enumerate.__new__» ⟨[.type "enumerate", v], []⟩) (fun _ R s => Hs s.heap ∧
      R (.ok (.ret (.ref (s.heap.push o).objs.size))) { s with heap := (s.heap.push o).push { cls := .type "enumerate", data := .fields #[.none, .bool false, .ref s.heap.objs.size, rawInt 0, .none, .none] } }) :=
  .of_wp fun prog w A R s hyp => by
    obtain ⟨hp, g, d, tk, os⟩ := s
    obtain ⟨start, goal⟩ := hyp
    have sub := sub_enumerate
    have again : ∀ {B' : Around} {E' : Value → Shared → Prop} {Q' : Value → Shared → Prop}, Q' (.ref hp.objs.size) ⟨hp.push o, g, d, tk, os⟩ → wpAny (model prog w) B' (pyIter v) Q' E' ⟨hp, g, d, tk, os⟩ :=
      fun q => B.iter prog w _ _ ⟨hp, g, d, tk, os⟩ _ start q
    wp_walk using again
    refine wpAny_stack_any fun stk => wpAny_pure ?_
    split
    · rename_i c _ _ _ _ _
      cases (c == Value.type "enumerate") <;> (wp_walk using again; exact ⟨_, rfl, goal⟩)
    · wp_walk using again
      exact ⟨_, rfl, goal⟩
section
variable {prog : Program} {w : World} {A : Around} {E : Value → Shared → Prop} {s : Shared}
theorem enum_starts {v : Value} {o : Obj} {Hs : Heap → Prop} {Q : Value → Shared → Prop} (B : Begins v o Hs) (start : Hs s.heap)
    (goal : ∀ h', IsEnum h' (s.heap.objs.size + 1) s.heap.objs.size 0 .none → h'.get? s.heap.objs.size = some o →
      (∀ b u, s.heap.get? b = some u → h'.get? b = some u) → Q (.ref (s.heap.objs.size + 1)) { s with heap := h' }) : wpAny (model prog w) A (call (.type "enumerate") [v]) Q E s := by
  refine callType_new F.called_enumerate (by decide) (F.typeCall_enumerate_1 _) (F.newCall_enumerate_1 _) (fun obj => F.args_object_init_2 obj _) F.entry_enumerate_new (enum_new1 B) ⟨start, ?_⟩
  have size1 : (s.heap.push o).objs.size = s.heap.objs.size + 1 := Heap.size_push ..
  have made := Heap.get?_push_size (s.heap.push o) (o := { cls := .type "enumerate", data := .fields #[.none, .bool false, .ref s.heap.objs.size, rawInt 0, .none, .none] }) rfl
  rw [size1] at made ⊢
  refine ⟨⟨_, made, rfl⟩, goal _ made (Heap.get?_push_of_some _ (Heap.get?_push_size _ B.free)) fun b u q => Heap.get?_push_of_some _ (Heap.get?_push_of_some _ q)⟩
end
section
variable {X : Cx} {e : Expr} {ta : TA} {p pos tpos : Pos} {elts : List Expr} {kk : Nat}
/-- what a value must be to be enumerated: a tuple that is read, a text -/
def iEnumT (K : PySem.W.Frag) (ta : TA) : TI := fun σ H R => ta σ H fun vs H1 => ∃ (a : Addr) (xs : List V), vs = [.ref a] ∧ SqT K H1 a xs ∧ R (ItEn (fun H => SqT K H a xs) xs.length (fun i => xs.getD i .non)) H1
def iEnumS (ta : TA) : TI := fun σ H R => ta σ H fun vs H1 => ∃ x : Str, vs = [.str x] ∧ R (ItEn (fun _ => True) x.cps.size (fun i => .str ⟨#[x.cps.getD i 0]⟩)) H1
theorem src_tup {P : Program} {w : World} {K : PySem.W.Frag} {a e it : Addr} {xs : List V} (hne : e ≠ it) : EnSrc P w K (fun H => SqT K H a xs) xs.length (fun i => xs.getD i .non) e it (fun i h => h.IsTupleIter it a i) where
  live := fun i h st => by
    obtain ⟨o, ho, _, hd⟩ := st
    exact ⟨o, ho, fun v q => by rw [hd] at q; cases q⟩
  frame := fun i h h' st k => by
    obtain ⟨o, ho, r⟩ := st
    exact ⟨o, k o ho, r⟩
  src := by
    rintro X rfl rfl rfl pins s σ H I hG i old st hen
    obtain ⟨its, rv, tup, _⟩ := I.tuple hG
    obtain ⟨o1, h1, c1, _⟩ := id tup
    obtain ⟨o2, h2, c2, _⟩ := id st
    have ne1 : a ≠ it := fun z => by
      rw [z, h2] at h1
      rw [← Option.some.inj h1, c2] at c1
      exact absurd c1 (by decide)
    have ne2 : e ≠ a := fun z => by
      have q : s.heap.get? a = some _ := z ▸ hen
      rw [h1] at q
      rw [Option.some.inj q] at c1
      exact absurd (show Value.type "enumerate" = Value.type "tuple" from c1) (by decide)
    have size : its.toArray.size = xs.length := by rw [List.size_toArray, rv.length]
    refine ⟨[it, a], fun j v => its.toArray[j]? = some v, fun j h => h.IsTupleIter it a j ∧ h.IsTuple a its.toArray, fun A hh => size ▸ Draws.tuple hh it a ne1 its.toArray, ?_, ⟨st, tup⟩, fun j h st => st.1, fun j x q => ?_⟩
    · simp [hne, ne2]
    · have q' : its[j]? = some x := by simpa using q
      have lt : j < xs.length := by
        rw [rv.length]
        exact (List.getElem?_eq_some_iff.mp q').1
      obtain ⟨u, hu, ru⟩ := rv.get (i := j) (x := xs[j]) (by simp [lt])
      rw [q'] at hu
      rw [Option.some.inj hu, List.getD_eq_getElem?_getD, List.getElem?_eq_getElem lt]
      exact ru
theorem src_str {P : Program} {w : World} {K : PySem.W.Frag} {x : Str} {t : Tok} {e it : Addr} (hne : e ≠ it) : EnSrc P w K (fun _ => True) x.cps.size (fun i => .str ⟨#[x.cps.getD i 0]⟩) e it (fun i h => h.IsStrIter it (strIterType x) x t i) where
  live := fun i h st => by
    obtain ⟨o, ho, _, hd⟩ := st
    exact ⟨o, ho, fun v q => by rw [hd] at q; cases q⟩
  frame := fun i h h' st k => by
    obtain ⟨o, ho, r⟩ := st
    exact ⟨o, k o ho, r⟩
  src := by
    rintro X rfl rfl rfl pins s σ H I hG i old st hen
    refine ⟨[it], _, _, fun A hh => Draws.text hh it x t, ?_, st, fun j h st => st, fun j v q => ?_⟩
    · simp [hne]
    · obtain ⟨c, u, hc, rfl⟩ := q
      refine ⟨u, ?_⟩
      rw [Array.getD_eq_getD_getElem?, hc]
      rfl
theorem pi_enumT (hg : Gl X "enumerate") (hm : X.mg "enumerate" = none) (ha : PA X [e] ta) (hs : starEach [e] X.env = [(false, eval e X.env)] := by rfl) : PI X (.Tuple elts kk tpos) (.Call (.Name "enumerate" p) [e] [] pos) (iEnumT X.K ta) := by
  refine ⟨fun pins s σ H R I h => ?_⟩
  refine Call_ (ld_blt I hg hm boot_enumerate (callWith_type1 (thn (ha.run pos pins s σ H _ I h) fun us s1 ⟨vs, H1, I1, r1, a, xs, ev, hq, q⟩ => ?_) hs rfl))
  subst ev
  cases r1 with
  | cons r rr =>
    cases rr
    cases r
    obtain ⟨its, rv, tup, _⟩ := I1.tuple hq
    refine enum_starts (begins_tuple a its.toArray) tup fun h1 hen hit keep => wpAny_pyIter_enum hen ?_
    have ne : s1.heap.objs.size + 1 ≠ s1.heap.objs.size := Nat.succ_ne_self _
    refine ⟨_, _, _, _, H1, rfl, I1.kept (t' := s1.toks) keep, turn_en (src_tup ne), ⟨⟨_, hen⟩, ⟨_, hit, rfl, rfl⟩, ne⟩, fun b hb => ?_, q⟩
    have ge : s1.heap.objs.size ≤ b := by
      rcases List.mem_cons.mp hb with z | z
      · exact z ▸ Nat.le_succ _
      · exact Nat.le_of_eq (List.mem_singleton.mp z).symm
    exact I1.fpOk ge (I1.hok.fresh ge)
theorem pi_enumS (hg : Gl X "enumerate") (hm : X.mg "enumerate" = none) (ha : PA X [e] ta) (hs : starEach [e] X.env = [(false, eval e X.env)] := by rfl) : PI X (.Tuple elts kk tpos) (.Call (.Name "enumerate" p) [e] [] pos) (iEnumS ta) := by
  refine ⟨fun pins s σ H R I h => ?_⟩
  refine Call_ (ld_blt I hg hm boot_enumerate (callWith_type1 (thn (ha.run pos pins s σ H _ I h) fun us s1 ⟨vs, H1, I1, r1, x, ev, q⟩ => ?_) hs rfl))
  subst ev
  cases r1 with
  | cons r rr =>
    cases rr
    obtain ⟨t, rfl⟩ := r
    refine enum_starts (begins_text x t) trivial fun h1 hen hit keep => wpAny_pyIter_enum hen ?_
    have ne : s1.heap.objs.size + 1 ≠ s1.heap.objs.size := Nat.succ_ne_self _
    refine ⟨_, _, _, _, H1, rfl, I1.kept (t' := s1.toks) keep, turn_en (src_str (t := t) ne), ⟨⟨_, hen⟩, ⟨_, hit, rfl, rfl⟩, ne⟩, fun b hb => ?_, q⟩
    have ge : s1.heap.objs.size ≤ b := by
      rcases List.mem_cons.mp hb with z | z
      · exact z ▸ Nat.le_succ _
      · exact Nat.le_of_eq (List.mem_singleton.mp z).symm
    exact I1.fpOk ge (I1.hok.fresh ge)
end
end Sv

set_option Elab.async false
set_option linter.all false
set_option maxRecDepth 100000
set_option maxHeartbeats 4000000
/-! repr of data; list and sorted of a text; isinstance of a caught error. -/
namespace Sv
open PySem PySem.Spec PyProof.Rows L2

/-- what can be shown: ints of bounded size, no dict, not too deep, not too long -/
structure ShowOk (d : PyData) : Prop where
  sh : d.showable = true
  nd : d.hasDict = false
  dp : d.depth ≤ 50
  sz : d.shown.length ≤ sizeLine
section
variable {X : Cx}
theorem call_repr (hg : X.A.guards = some []) (hu : X.A.units + 64 < cLine) : CallR X (.builtin "repr") (fun xs H Q => ∃ x d, xs = [x] ∧ Dp X.K H x d ∧ ShowOk d ∧ Q (.str d.shown) H) := by
  intro pins s σ H xs us Q I r h
  obtain ⟨x, d, rfl, hd, ok, q⟩ := h
  cases r with
  | cons rx rr =>
    rename_i u us'
    cases rr
    have fl : ∀ tk, EP X pins σ Q (.str d.shown s.toks) { s with toks := tk } := fun tk => ⟨.str _, H, I.tok _, ⟨_, rfl⟩, q⟩
    cases hd with
    | non =>
      cases rx
      have e : PyData.shown .none = "None" := by simp only [PyData.shown]
      rw [e] at fl
      exact PySem.P.repr_of_none (fl _)
    | bl b =>
      cases rx
      have e : PyData.shown (.bool b) = (if b = true then Str.ofString "True" else Str.ofString "False") := by simp only [PyData.shown]
      rw [e] at fl
      exact PySem.P.repr_of_bool (fl _)
    | int i =>
      obtain ⟨t, rfl⟩ := rx
      have e : PyData.shown (.int i) = (toString i : String) := by simp only [PyData.shown]
      have s1 := ok.sh
      simp only [PyData.showable] at s1
      rw [e] at fl
      exact PySem.P.repr_of_int (of_decide_eq_true s1) (fl _)
    | str z =>
      obtain ⟨t, rfl⟩ := rx
      have e : PyData.shown (.str z) = reprText z := by simp only [PyData.shown]
      have s1 := ok.sz
      rw [e] at fl s1
      exact PySem.P.repr_of_str (fl _) s1
    | lst h1 h2 =>
      obtain ⟨as, rd⟩ := Dp.reads I _ _ u (.lst h1 h2) rx
      cases rx
      have dp := ok.dp
      exact repr_of_reads' rd ok.sh (fun z => absurd (ok.nd.symm.trans z) Bool.false_ne_true) hg (by omega) (fun _ _ e => e)
        (fun h' u' tk k => ⟨.str _, H, I.kept k, ⟨_, rfl⟩, q⟩) ok.sz
    | tup h1 h2 =>
      obtain ⟨as, rd⟩ := Dp.reads I _ _ u (.tup h1 h2) rx
      cases rx
      have dp := ok.dp
      exact repr_of_reads' rd ok.sh (fun z => absurd (ok.nd.symm.trans z) Bool.false_ne_true) hg (by omega) (fun _ _ e => e)
        (fun h' u' tk k => ⟨.str _, H, I.kept k, ⟨_, rfl⟩, q⟩) ok.sz

/-- the signs of a text, each a text -/
def signs (x : Str) : List Str := x.cps.toList.map fun c => tx [c]
theorem signs_len (x : Str) : (signs x).length = x.cps.size := by simp [signs]
theorem vals_of : ∀ {xs : List V} {us : List Value}, xs.length = us.length → (∀ (i : Nat) (x : V) (u : Value), xs[i]? = some x → us[i]? = some u → RelV x u) → Vals xs us
  | [], [], _, _ => .nil
  | [], _ :: _, h, _ => by simp at h
  | _ :: _, [], h, _ => by simp at h
  | x :: xs, u :: us, h, f => .cons (f 0 x u rfl rfl) (vals_of (by simpa using h) fun i y v h1 h2 => f (i + 1) y v (by simpa using h1) (by simpa using h2))
theorem vals_signs {x : Str} {acc : Array Value} (h : ItemsOf (SignAt x) acc x.cps.size) : Vals ((signs x).map V.str) acc.toList := by
  refine vals_of (by rw [List.length_map, signs_len, Array.length_toList, h.1]) fun i v u h1 h2 => ?_
  obtain ⟨c, k, hc, rfl⟩ := h.2 i u (by simpa using h2)
  have e : x.cps.toList[i]? = some c := by simpa using hc
  unfold signs at h1
  rw [List.getElem?_map, List.getElem?_map, e] at h1
  cases h1
  exact ⟨k, rfl⟩
theorem strs_of_vals : ∀ {ys : List Str} {us : List Value}, Vals (ys.map V.str) us → StrsAre us ys
  | [], _, h => by cases h; exact .nil
  | y :: ys, _, h => by
    cases h with
    | cons r rr =>
      obtain ⟨t, rfl⟩ := r
      exact .cons _ _ (strs_of_vals rr)
theorem vals_of_strs : ∀ {ys : List Str} {us : List Value}, StrsAre us ys → Vals (ys.map V.str) us
  | _, _, .nil => .nil
  | _, _, .cons y t h => .cons ⟨t, rfl⟩ (vals_of_strs h)
theorem call_list_text (hc : X.calm = true) : CallR X (.type "list") (fun xs H Q => ∃ x : Str, xs = [.str x] ∧ x.length ≤ sizeLine ∧ ∀ p, H p = none → Q (.ref p) (upd H p (.lst ((signs x).map V.str)))) := by
  intro pins s σ H xs us Q I r h
  obtain ⟨x, rfl, hz, q⟩ := h
  cases r with
  | cons rx rr =>
    cases rr
    obtain ⟨t, rfl⟩ := rx
    refine call_list_str (I.ok.hd hc) x t (fun h' tk acc c k made its => ?_) hz
    have new : ObjOk X.prog X.w (upd H s.heap.objs.size (.lst ((signs x).map V.str))) h' s.heap.objs.size (.lst ((signs x).map V.str)) :=
      ⟨by rw [List.length_map, signs_len]; exact hz, acc.toList, c, vals_signs its, by simpa using made⟩
    exact ⟨.ref _, _, I.laid k (Nat.le_refl _) new, rfl, q _ (I.hok.fresh (Nat.le_refl _))⟩
theorem sorted_text {prog : Program} {w : World} {A : Around} {E : Value → Shared → Prop} {s : Shared} {x : Str} {t : Tok} {Q : Value → Shared → Prop} (hh : A.handled = none) (h64 : x.cps.size < 64)
    (goal : ∀ (s1 : Shared) (h' : Heap) (out : Array Value) (c : Nat) (ys : List Str), (∀ b o, s.heap.get? b = some o → s1.heap.get? b = some o) → s1.gens = s.gens → s1.os = s.os → (∀ b o, s1.heap.get? b = some o → h'.get? b = some o) →
      h'.get? s1.heap.objs.size = some (seqObj "list" out c) → StrsAre out.toList ys → ys.Perm (signs x) → sortedS ys = true → Q (.ref s1.heap.objs.size) { s1 with heap := h' }) : wpAny (model prog w) A (call (.builtin "sorted") [.str x t]) Q E s := by
  refine Calls.call_function_entry kind_sorted plain_sorted entry_sorted (args_sorted1 _) ?_
  unfold Builtin.«sorted»
  refine wpAny_bind (m := checkCount "sorted" 1 1 _) (wpAny_pure ?_)
  refine wpAny_bind (wpAny_collect_str (A := A.in1) hh x t (fun s1 acc keep g1 d1 o1 its => ?_) (by rw [sizeLine_eq]; omega))
  have vs := vals_signs its
  have st := strs_of_vals vs
  have few : acc.toList.length < 64 := by rw [Array.length_toList, its.1]; exact h64
  refine wpAny_bind (wpAny_newList ?_ (by rw [sizeLine_eq]; omega))
  have at1 : (s1.heap.push (seqObj "list" acc.toList.toArray 0)).get? s1.heap.objs.size = some (seqObj "list" acc.toList.toArray 0) := Heap.get?_push_size _ rfl
  refine wpAny_bind (wpAny_holding (wpAny_call_entry slot_list_sort ⟨_, at1, rfl⟩ entry_list_sort (list_sort_treeK strKind_oneLt at1 st.keysOf (fun v1 v2 rest e => keyKind_strs (by rw [← e]; exact st)) few fun st' a1 a2 => ⟨_, rfl, ?_⟩) (args_list_sort _)))
  obtain ⟨ys, y1, y2, y3⟩ := sorted_out_str st a1 a2
  obtain ⟨c, hc⟩ := sortedHeap_at (vs := acc.toList) (out := (arrOf st').map (·.2)) at1
  refine wpAny_pure ⟨_, rfl, goal s1 _ _ c ys keep g1 o1 (fun b u q => ?_) hc y1 (y2.trans (by exact List.Perm.refl _)) y3⟩
  have lt := Heap.lt_size q
  show (sortedHeap (s1.heap.push (seqObj "list" acc.toList.toArray 0)) s1.heap.objs.size acc.toList _).get? b = some u
  rw [sortedHeap_old (Nat.ne_of_lt lt) (by rw [size_push']; exact Nat.lt_succ_of_lt lt)]
  exact Heap.get?_push_of_some _ q
theorem call_sorted_text (hc : X.calm = true) : CallR X (.builtin "sorted") (fun xs H Q => ∃ x : Str, xs = [.str x] ∧ x.length < 64 ∧ ∀ ys p, ys.Perm (signs x) → sortedS ys = true → H p = none → Q (.ref p) (upd H p (.lst (ys.map V.str)))) := by
  intro pins s σ H xs us Q I r h
  obtain ⟨x, rfl, hz, q⟩ := h
  cases r with
  | cons rx rr =>
    cases rr
    obtain ⟨t, rfl⟩ := rx
    refine sorted_text (I.ok.hd hc) hz fun s1 h' out c ys k g o k2 hg hs pm so => ?_
    have len : (ys.map V.str).length ≤ sizeLine := by
      have z : x.cps.size < 64 := hz
      rw [List.length_map, pm.length_eq, signs_len, sizeLine_eq]
      omega
    have I1 : Inv X pins σ H s1 := I.call' (ch := []) o (Un.kept k) (I.hok.kept k) (by rw [g]; exact I.bare) (fun _ z => nomatch z)
    have ob : ObjOk X.prog X.w (upd H s1.heap.objs.size (.lst (ys.map V.str))) h' s1.heap.objs.size (.lst (ys.map V.str)) := ⟨len, out.toList, c, vals_of_strs hs, hg⟩
    exact ⟨.ref _, _, I1.laid (t' := s1.toks) k2 (Nat.le_refl _) ob, rfl, q ys _ pm so (I1.hok.fresh (Nat.le_refl _))⟩
/-- isinstance of the error that the suite holds -/
theorem call_isEx {K : PySem.W.Frag} {a : Addr} {oe : Obj} {cls : Value} {d : Option Addr} {pn : List (Addr × Obj)} (hK : X.K = K) (hz : Zc cls d oe) (hf : ∃ vs, oe.data = .fields vs) :
    CallR (X.suite a ((a, oe) :: pn)) (.builtin "isinstance") (fun xs H Q => ∃ D, cls = .ref D ∧ d = none ∧ ExcC K D ∧ rIsE K D a xs H Q) := by
  subst hK
  intro pins s σ H xs us Q I r h
  obtain ⟨D, rfl, rfl, c, h⟩ := h
  exact call_isE c hz hf pins s σ H xs us Q I r h
end
theorem hu64 {k : Nat} {A : Around} (hr : Room k A) : A.units + 64 < cLine := hr.units
end Sv

set_option Elab.async false
set_option linter.all false
set_option maxRecDepth 100000
set_option maxHeartbeats 4000000
/-! Texts and tuples turned about; text * int. -/
namespace Sv
open PySem PySem.Spec PyProof.Rows L2 HT
/-- the text turned about -/
def revS (z : Str) : Str := tx z.cps.toList.reverse
theorem strIdx_rev (n : Nat) : Builtin.Str.strSliceIndices none none (-1) n = (List.range n).reverse := by
  show sliceRange ((n : Int) - 1) (-1) (-1) = _
  rw [PySem.W.krv_sliceRange, PySem.W.krv_range]
theorem getStr_rev {x : Str} : (((List.range x.length).reverse).filterMap (x.cps[·]?)).toArray = (revS x).cps := by
  rw [List.filterMap_reverse]
  show ((List.filterMap (fun k => x.cps[k]?) (List.range x.cps.size)).reverse).toArray = _
  rw [PySem.W.krv_all]
  rfl
section
variable {prog : Program} {w : World} {A : Around} {E : Value → Shared → Prop} {s : Shared}
theorem adjust_rev (n : Nat) : Builtin.Slice.sliceAdjust none none (-1) (n : Int) = ((n : Int) - 1, -1) := rfl
theorem places_rev (n : Nat) : Builtin.Slice.slicePlaces ((n : Int) - 1) (-1) (-1) = n := by
  unfold Builtin.Slice.slicePlaces
  have h1 : ¬ ((-1 : Int) > 0) := by decide
  simp only [h1, if_false]
  by_cases h : (n : Int) - 1 > -1
  · rw [if_pos h, show (- -1 : Int) = 1 by decide, Int.ediv_one]
    omega
  · rw [if_neg h]
    omega
theorem sliceApplied_rev {sl : Addr} {vl vu vs : Value} {n : Nat} {Q : Int × Int × Nat → Shared → Prop} (hs : s.heap.IsSliceOf sl vl vu vs) (pl : IsPart vl none) (pu : IsPart vu none) (ps : IsPart vs (some (-1)))
    (h : Q ((n : Int) - 1, -1, n) s) : wpAny (model prog w) A (Builtin.Slice.sliceApplied (.ref sl) (pure (n : Int))) Q E s := by
  obtain ⟨os, hos, hcs, hds⟩ := id hs
  unfold Builtin.Slice.sliceApplied Builtin.Slice.sliceFields
  refine wpAny_bind (wpAny_bind (wpAny_field hos hds (x := vl) rfl (wpAny_bind (wpAny_field hos hds (x := vu) rfl (wpAny_bind (wpAny_field hos hds (x := vs) rfl (wpAny_pure ?_)))))))
  refine wpAny_bind (slicePart_ ps ?_)
  show wpAny _ _ (if ((-1 : Int) == 0) = true then _ else _) _ _ s
  rw [if_neg (by decide)]
  refine wpAny_bind (slicePart_ pl (wpAny_bind (slicePart_ pu (wpAny_bind (wpAny_pure ?_)))))
  show wpAny _ _ (match Builtin.Slice.sliceAdjust none none (-1) (n : Int) with | (lo, hi) => pure (lo, (-1 : Int), Builtin.Slice.slicePlaces lo hi (-1))) _ _ s
  rw [adjust_rev n]
  show wpAny _ _ (pure ((n : Int) - 1, (-1 : Int), Builtin.Slice.slicePlaces ((n : Int) - 1) (-1) (-1))) _ _ s
  rw [places_rev]
  exact wpAny_pure h
theorem pick_rev (xs : Array Value) : ((List.range xs.size).filterMap fun (m : Nat) => xs[(((xs.size : Nat) : Int) - 1 + (m : Int) * (-1)).toNat]?).toArray = xs.toList.reverse.toArray := by
  have e : (List.range xs.size).filterMap (fun (m : Nat) => xs[(((xs.size : Nat) : Int) - 1 + (m : Int) * (-1)).toNat]?) = ((List.range xs.size).map (fun k => xs.size - 1 - k)).filterMap (xs[·]?) := by
    rw [List.filterMap_map]
    refine congrArg (fun f => List.filterMap f (List.range xs.size)) (funext fun m => ?_)
    have e2 : (((xs.size : Nat) : Int) - 1 + (m : Int) * (-1)).toNat = xs.size - 1 - m := by omega
    show xs[(((xs.size : Nat) : Int) - 1 + (m : Int) * (-1)).toNat]? = xs[xs.size - 1 - m]?
    rw [e2]
  rw [e, PySem.W.krv_range, List.filterMap_reverse, PySem.W.krv_all]
theorem getItem_tuple_rev {t sl : Addr} {items : Array Value} {vl vu vs : Value} {Q : Value → Shared → Prop} (ht : IsTup s.heap t items) (hs : s.heap.IsSliceOf sl vl vu vs) (pl : IsPart vl none) (pu : IsPart vu none) (ps : IsPart vs (some (-1)))
    (h : Q (.ref s.heap.objs.size) { s with heap := s.heap.push { cls := .type "tuple", data := .seq items.toList.reverse.toArray } })
    (hsz : items.size ≤ sizeLine) : wpAny (model prog w) A (getItem (.ref t) (.ref sl)) Q E s := by
  have htake : sizeOk (.seq items.toList.reverse.toArray) := by
    show items.toList.reverse.toArray.size ≤ sizeLine
    rw [List.size_toArray, List.length_reverse, Array.length_toList]
    exact hsz
  obtain ⟨os, hos, hcs, hds⟩ := id hs
  have hTs : s.TypeIs (.ref sl) "slice" := ⟨os, hos, hcs⟩
  unfold getItem
  try with_reducible refine wpAny_holding ?_
  first | refine wpAny_bind (wpAny_pure ?_) | skip
  refine wpAny_bind (wpAny_sequenceKey ht.typeIs (by decide) ?_)
  refine wpAny_bind (wpAny_callSpecial?_slot (name := Str.ofString "__getitem__") ht.typeIs PyProof.Rows.slot_tuple_getitem
    (wpAny_call_entry PyProof.Rows.slot_tuple_getitem ht.typeIs entry_tuple_getitem ?_ (args_tuple_getitem _ _)))
  show wpAny _ _ (Builtin.Tuple.tupleItemsOf (.ref t) >>= _) _ _ s
  refine wpAny_bind (tupleItemsOf_ ht ?_)
  refine wpAny_bind (wpAny_typeOf hTs ?_)
  rw [if_pos (by decide)]
  refine wpAny_bind (sliceApplied_rev hs pl pu ps ?_)
  have hno : ¬ ((((((items.size : Nat) : Int) - 1) == 0) && ((-1 : Int) == 1) && (items.size == items.size)) = true) := by
    rw [show ((-1 : Int) == 1) = false by decide, Bool.and_false, Bool.false_and]
    exact Bool.false_ne_true
  show wpAny _ _ (if ((((((items.size : Nat) : Int) - 1) == 0) && ((-1 : Int) == 1) && (items.size == items.size)) = true) then _ else _) _ _ s
  rw [if_neg hno, pick_rev]
  first
    | exact wpAny_bind (m := Builtin.Tuple.tupleExact _) (wpAny_newObj_type (wpAny_pure ⟨_, rfl, wpAny_pure h⟩) htake)
    | exact wpAny_bind (m := Builtin.Tuple.tupleExact _) (wpAny_newObj_type (wpAny_bind (wpAny_pure (wpAny_pure ⟨_, rfl, wpAny_pure h⟩))) htake)
    | exact wpAny_bind (wpAny_bind (m := Builtin.Tuple.tupleExact _) (wpAny_newObj_type (wpAny_pure (wpAny_pure ⟨_, rfl, wpAny_pure h⟩)) htake))
    | exact wpAny_bind (wpAny_bind (m := Builtin.Tuple.tupleExact _) (wpAny_newObj_type (wpAny_pure ⟨_, rfl, wpAny_pure h⟩) htake))
end
section
variable {X : Cx}
def tRevS (te : TE) : TE := fun σ H Q => te σ H fun x H1 => ∃ z, x = .str z ∧ z.length ≤ sizeLine ∧ Q (.str (revS z)) H1
theorem pe_rev_str {e : Expr} {te : TE} {k : Nat} {p1 p2 p3 pos : Pos} (he : PE X e te) : PE X (.Subscript e (.Slice none none (some (.UnaryOp .USub (.Constant (.int 1) k p1) p2)) p3) pos) (tRevS te) := by
  refine ⟨fun pins s σ H Q I h => ?_⟩
  refine Subscript_ (thn (he.run pins s σ H _ I h) fun v s1 ⟨x, H1, I1, r1, q1⟩ => ?_)
  obtain ⟨z, ex, hz, q⟩ := q1
  subst ex
  obtain ⟨t, rfl⟩ := r1
  have hst : PO X (some (.UnaryOp .USub (.Constant (.int 1) k p1) p2)) (tPart (tUn (rU fun i => .int (-i)) (tC (.int 1)))) := po_some (pe_un un_neg pe_int)
  refine wpAny_Slice (thn (po_none.run pins s1 σ H1 (fun o H2 => o = none ∧ H2 = H1) I1 ⟨rfl, rfl⟩) fun vl s2 ⟨l, H2, I2, pl, el, e2⟩ => ?_)
  subst el e2
  refine thn (po_none.run pins s2 σ H2 (fun o H3 => o = none ∧ H3 = H2) I2 ⟨rfl, rfl⟩) fun vu s3 ⟨u, H3, I3, pu, eu, e3⟩ => ?_
  subst eu e3
  refine thn (hst.run pins s3 σ H3 (fun o H4 => o = some (-1) ∧ H4 = H3) I3 ⟨1, rfl, -1, rfl, rfl, rfl⟩) fun vs s4 ⟨o, H4, I4, ps, eo, e4⟩ => ?_
  subst eo e4
  have I5 : Inv X pins σ H4 { s4 with heap := s4.heap.push { cls := .type "slice", data := .fields #[vl, vu, vs] } } := I4.kept (t' := s4.toks) fun b ob q => Heap.get?_push_of_some _ q
  show wpAny (model X.prog X.w) X.A (subscriptTail e (.Slice none none (some (.UnaryOp .USub (.Constant (.int 1) k p1) p2)) p3) (.str z t) (.ref s4.heap.objs.size)) (EP X pins σ Q) X.xe { s4 with heap := s4.heap.push { cls := .type "slice", data := .fields #[vl, vu, vs] } }
  refine tail_any (ops := [.str z t, .ref s4.heap.objs.size]) (typeIs_str _ _ _) (F.slot_str_getitem.lookup) ?_ (by with_unfolding_all rfl)
  obtain ⟨l, rfl, hl⟩ := IsPart.raw pl
  obtain ⟨u, rfl, hu⟩ := IsPart.raw pu
  obtain ⟨st, rfl, hs⟩ := IsPart.raw ps
  refine wpAny_getItem_str_slice (l := l) (u := u) (st := st) ⟨_, Heap.get?_push_size _ rfl, rfl, rfl⟩ (by rw [hs]; rfl) ?_
  unfold sliceMade slicePicked
  rw [hl, hu, hs]
  show Made.post (if ((-1 : Int) == 1 && (Builtin.Str.strSliceIndices none none (-1) z.length).length == z.length) = true then Made.val (.str z t)
    else Made.str ⟨((Builtin.Str.strSliceIndices none none (-1) z.length).filterMap (z.cps[·]?)).toArray⟩) (EP X pins σ Q) _
  rw [if_neg (by rw [show ((-1 : Int) == 1) = false by decide, Bool.false_and]; exact Bool.false_ne_true), strIdx_rev, getStr_rev]
  refine ⟨?_, .str _, H4, I5.tok _, ⟨_, rfl⟩, q⟩
  show (revS z).length ≤ sizeLine
  unfold revS
  rw [tx_len, List.length_reverse, Array.length_toList]
  exact hz
def tRevT (K : PySem.W.Frag) (te : TE) : TE := fun σ H Q => te σ H fun x H1 => ∃ a xs, x = .ref a ∧ SqT K H1 a xs ∧ ∀ p, H1 p = none → Q (.ref p) (upd H1 p (.tup xs.reverse))
theorem pe_rev_tup {e : Expr} {te : TE} {k : Nat} {p1 p2 p3 pos : Pos} (he : PE X e te) : PE X (.Subscript e (.Slice none none (some (.UnaryOp .USub (.Constant (.int 1) k p1) p2)) p3) pos) (tRevT X.K te) := by
  refine ⟨fun pins s σ H Q I h => ?_⟩
  refine Subscript_ (thn (he.run pins s σ H _ I h) fun v s1 ⟨x, H1, I1, r1, q1⟩ => ?_)
  obtain ⟨a, xs, ex, hx, q⟩ := q1
  subst ex
  cases r1
  have hst : PO X (some (.UnaryOp .USub (.Constant (.int 1) k p1) p2)) (tPart (tUn (rU fun i => .int (-i)) (tC (.int 1)))) := po_some (pe_un un_neg pe_int)
  refine wpAny_Slice (thn (po_none.run pins s1 σ H1 (fun o H2 => o = none ∧ H2 = H1) I1 ⟨rfl, rfl⟩) fun vl s2 ⟨l, H2, I2, pl, el, e2⟩ => ?_)
  subst el e2
  refine thn (po_none.run pins s2 σ H2 (fun o H3 => o = none ∧ H3 = H2) I2 ⟨rfl, rfl⟩) fun vu s3 ⟨u, H3, I3, pu, eu, e3⟩ => ?_
  subst eu e3
  refine thn (hst.run pins s3 σ H3 (fun o H4 => o = some (-1) ∧ H4 = H3) I3 ⟨1, rfl, -1, rfl, rfl, rfl⟩) fun vs s4 ⟨o, H4, I4, ps, eo, e4⟩ => ?_
  subst eo e4
  have I5 : Inv X pins σ H4 { s4 with heap := s4.heap.push { cls := .type "slice", data := .fields #[vl, vu, vs] } } := I4.kept (t' := s4.toks) fun b ob q => Heap.get?_push_of_some _ q
  obtain ⟨its, r, ht, hz⟩ := I5.tuple hx
  have hlen := r.length
  show wpAny (model X.prog X.w) X.A (subscriptTail e (.Slice none none (some (.UnaryOp .USub (.Constant (.int 1) k p1) p2)) p3) (.ref a) (.ref s4.heap.objs.size)) (EP X pins σ Q) X.xe { s4 with heap := s4.heap.push { cls := .type "slice", data := .fields #[vl, vu, vs] } }
  refine tail_any (ops := [.ref a, .ref s4.heap.objs.size]) ht.typeIs (PyProof.Rows.slot_tuple_getitem.lookup) ?_ (by with_unfolding_all rfl)
  refine getItem_tuple_rev ht (Heap.IsSliceOf.new _ vl vu vs) pl pu ps ?_ (by rw [List.size_toArray]; omega)
  refine ⟨.ref _, _, I5.laid (t' := s4.toks) (o := .tup xs.reverse) (fun b ob q => Heap.get?_push_of_some _ q) (Nat.le_refl _) ?_, rfl, q _ (I5.hok.fresh (Nat.le_refl _))⟩
  exact ⟨by rw [List.length_reverse]; exact hz, _, r.reverse, IsTup.new _ _⟩
/-- z, n times -/
def repS (z : Str) (n : Nat) : Str := tx (List.replicate n z.cps.toList).flatten
theorem foldl_rep1 (z : Array Nat) : ∀ (n : Nat) (a : Array Nat), ((List.replicate n z).foldl (· ++ ·) a) = a ++ ((List.replicate n z.toList).flatten).toArray
  | 0, a => by simp
  | n + 1, a => by
    rw [List.replicate_succ, List.foldl_cons, foldl_rep1 z n, List.replicate_succ, List.flatten_cons]
    apply Array.ext'
    simp
theorem repS_eq (z : Str) (n : Nat) : (⟨(List.replicate n z.cps).foldl (· ++ ·) #[]⟩ : Str) = repS z n := by
  rw [foldl_rep1]
  unfold repS tx
  simp
theorem repS_len (z : Str) (n : Nat) : (repS z n).length = n * z.length := by
  unfold repS
  rw [tx_len]
  simp [Str.length]
theorem op_mul_str : OpR X (binaryOp .Mult) (fun x y H Q => ∃ (z : Str) (n : Int), x = .str z ∧ y = .int n ∧ 0 ≤ n ∧ n ≤ 1000 ∧ z.length ≤ 1000 ∧ Q (.str (repS z n.toNat)) H) := by
  intro pins s σ H x y v u Q I rx ry h
  obtain ⟨z, n, rfl, rfl, h0, h1, hz, q⟩ := h
  obtain ⟨t, rfl⟩ := rx
  obtain ⟨t', rfl⟩ := ry
  have hle : z.length * n.toNat ≤ 1000000 := by
    have : z.length * n.toNat ≤ 1000 * 1000 := Nat.mul_le_mul hz (by omega)
    omega
  refine PySem.P.mul_str ?_ (fun a b => ?_) (fun a b => ?_) ?_
  · rw [decide_eq_false (by omega), decide_eq_false (by omega)]
    rfl
  · have : (9223372036854775807 : Int) / n ≥ 1000 := by
      rw [ge_iff_le, Int.le_ediv_iff_mul_le (by omega)]
      omega
    have e : ((2 : Int) ^ 63 - 1) = 9223372036854775807 := by decide
    rw [e]
    omega
  · unfold Builtin.Str.tooLong
    rw [sizeLine_eq]
    exact decide_eq_false (by omega)
  · by_cases c : n < 1
    · rw [if_pos c]
      have e : n.toNat = 0 := by omega
      rw [e] at q
      exact ⟨by decide, .str _, H, I.tok _, ⟨_, rfl⟩, q⟩
    · rw [if_neg c]
      by_cases d : (n == 1 || z.length == 0) = true
      · rw [if_pos d]
        have e : repS z n.toNat = z := by
          rw [Bool.or_eq_true] at d
          rcases d with d | d
          · have : n = 1 := eq_of_beq d
            subst this
            show tx (List.replicate 1 z.cps.toList).flatten = z
            rw [tx_of z]
            simp
          · have d : z.length = 0 := eq_of_beq d
            have e0 : (repS z n.toNat).length = 0 := by rw [repS_len, d, Nat.mul_zero]
            have f : ∀ s : Str, s.length = 0 → s = tx [] := by
              intro s hs
              rw [tx_of s]
              have : s.cps.toList.length = 0 := by rw [Array.length_toList]; exact hs
              rw [List.eq_nil_of_length_eq_zero this]
            rw [f _ e0, f _ d]
        rw [e] at q
        exact ⟨.str z, H, I, ⟨t, rfl⟩, q⟩
      · rw [if_neg d, repS_eq]
        refine ⟨?_, .str _, H, I.tok _, ⟨_, rfl⟩, q⟩
        show (repS z n.toNat).length ≤ sizeLine
        rw [repS_len, sizeLine_eq, Nat.mul_comm]
        omega
end
end Sv

set_option Elab.async false
set_option linter.all false
set_option maxRecDepth 100000
set_option maxHeartbeats 4000000
/-! Walks over enumerate; comprehensions that only make; texts. -/
namespace Sv
open PySem PySem.Spec PyProof.Rows L2

theorem same_new {H : Hp} {p : Addr} {o : HO} (h : H p = none) : Same H (upd H p o) := Evl.Ex.new h
/-- the i-th turn of an enumerate -/
def YEn (f : Nat → V) : Nat → Hp → V → Hp → Prop := fun i H v H' => ∃ T, v = .ref T ∧ H T = none ∧ H' = upd H T (.tup [.int (i : Nat), f i])
theorem walk_en {G : Hp → Prop} {n : Nat} {f : Nat → V} : Walk (ItEn G n f) n G (YEn f) :=
  ⟨fun i H hi h => ⟨h, hi⟩, fun H h => ⟨h, rfl⟩, fun i H x H' _ _ y => y⟩
theorem walk_sign {z : Str} : Walk (Its z) z.cps.size (fun _ => True) (YFn fun i => .str (tx [z.cps.getD i 0])) :=
  walk_str.mono (fun _ h => h) fun i H x H' hi _ y => by
    obtain ⟨e, c, hc, rfl⟩ := y
    refine ⟨e, ?_⟩
    have : z.cps.getD i 0 = c := by rw [Array.getD_eq_getD_getElem?, hc]; rfl
    show V.str (tx [c]) = V.str (tx [z.cps.getD i 0])
    rw [this]
/-- a comprehension that only makes: the i-th turn gives res i, or nothing -/
theorem lc_pure {J : It} {n : Nat} {G : Hp → Prop} {Y : Nat → Hp → V → Hp → Prop} (w : Walk J n G Y) {g : TG} {tt : TT} {te : TE} {vs : List Nat} {σ : L2.St} {H1 : Hp} {D : Addr} {Qd : Hp → Prop} (res : Nat → Option V) (hD : H1 D = none) (hn : n ≤ sizeLine)
    (hG : ∀ H, Same H1 H → G H) (hY : ∀ i H x H', Y i H x H' → Same H H')
    (hs : ∀ i x H H' (N : Hp → Prop) (C : V → Hp → Prop), i < n → Same H1 H → Y i H x H' → (res i = none → ∀ H3, Same H' H3 → N H3) → (∀ y, res i = some y → ∀ H3, Same H' H3 → C y H3) →
      g x (wipe σ vs) H' fun σ2 H2 => wipe σ2 vs = wipe σ vs ∧ tt σ2 H2 fun b H3 => if b = true then te σ2 H3 C else N H3)
    (hd : ∀ H, Same H1 H → H D = some (.lst ((List.range n).filterMap res)) → Qd H) :
    ∃ W : Nat → Nat → Hp → Prop, (∃ m, W 0 m (upd H1 D (.lst []))) ∧ ∀ i m H, W i m H →
      (J.stop i H ∧ Qd H) ∨ (J.go i H ∧ ∃ Nx : Hp → Prop, (∀ H', Nx H' → ∃ m', m' < m ∧ W (i + 1) m' H') ∧ ∀ x H', J.yld i H x H' → g x (wipe σ vs) H' fun σ2 H2 => wipe σ2 vs = wipe σ vs ∧ tt σ2 H2 fun b H3 =>
        if b = true then te σ2 H3 fun y H4 => ∃ acc, H4 D = some (.lst acc) ∧ acc.length < sizeLine ∧ Nx (upd H4 D (.lst (acc ++ [y]))) else Nx H3) := by
  refine lc_it w (fun i H => Same H1 H ∧ H D = some (.lst ((List.range i).filterMap res))) ⟨same_new hD, upd_same⟩ (fun i H _ h => hG H h.1) (fun i x H H' hi p y => ?_) (fun H p => hd H p.1 p.2)
  refine hs i x H H' _ _ hi p.1 y (fun e H3 s3 => ?_) (fun z e H3 s3 => ?_)
  · refine ⟨p.1.trans ((hY i H x H' y).trans s3), ?_⟩
    rw [List.range_succ, List.filterMap_append]
    simp only [List.filterMap_cons, List.filterMap_nil, e, List.append_nil]
    exact s3 _ _ (hY i H x H' y _ _ p.2)
  · have hl := List.length_filterMap_le res (List.range i)
    rw [List.length_range] at hl
    refine ⟨_, s3 _ _ (hY i H x H' y _ _ p.2), by omega, fun b o q => ?_, ?_⟩
    · rw [upd_ne (fun e => by rw [e, hD] at q; cases q)]
      exact s3 _ _ (hY i H x H' y _ _ (p.1 _ _ q))
    · rw [upd_same, List.range_succ, List.filterMap_append]
      simp only [List.filterMap_cons, List.filterMap_nil, e]
/-! ### texts -/
theorem strjoin_nil : ∀ ys : List Str, Str.join ⟨#[]⟩ ys = tx (ys.map fun y => y.cps.toList).flatten
  | [] => rfl
  | y :: ys => by
    rw [join_nil_cons, strjoin_nil ys, List.map_cons, List.flatten_cons]
    conv => lhs; rw [tx_of y]
    rw [tx_app]
theorem glued_foldl (r : List Str) : ∀ a : Array Nat, r.foldl (fun acc p => acc ++ (#[] : Array Nat) ++ p.cps) a = a ++ ((r.map fun y => y.cps.toList).flatten).toArray := by
  induction r with
  | nil => intro a; simp
  | cons y r ih =>
    intro a
    rw [List.foldl_cons, ih, List.map_cons, List.flatten_cons]
    apply Array.ext'
    simp
/-- the texts, one behind the other -/
def jn (ys : List Str) : Str := tx (ys.map fun y => y.cps.toList).flatten
theorem join_jn (ys : List Str) : Txt.join "" ys = jn ys := by
  show (⟨(ys.drop 1).foldl (fun acc p => acc ++ (#[] : Array Nat) ++ p.cps) (ys.headD Str.empty).cps⟩ : Str) = _
  rw [glued_foldl]
  cases ys with
  | nil => rfl
  | cons y ys =>
    unfold jn tx
    simp
theorem jn_len (ys : List Str) : (jn ys).length = (ys.map (·.length)).sum := by
  unfold jn
  rw [tx_len, List.length_flatten, List.map_map]
  rfl
theorem jn_signs (l : List Nat) : jn (l.map fun c => tx [c]) = tx l := by
  unfold jn
  rw [List.map_map]
  congr 1
  congr 1
  induction l with
  | nil => rfl
  | cons a l ih => rw [List.map_cons, List.flatten_cons, ih]; rfl
theorem sum_signs (l : List Nat) : ((l.map fun c => tx [c]).map (·.length)).sum = l.length := by
  induction l with
  | nil => rfl
  | cons a l ih => rw [List.map_cons, List.map_cons, List.sum_cons, ih, List.length_cons, Nat.add_comm]; rfl
theorem takeWhile_whole {p : Nat → Bool} : ∀ {l : List Nat}, (∀ c ∈ l, p c = true) → l.takeWhile p = l
  | [], _ => rfl
  | a :: l, h => by rw [List.takeWhile_cons, if_pos (h a List.mem_cons_self), takeWhile_whole fun c m => h c (List.mem_cons_of_mem _ m)]
/-- every sign of it stands among these -/
theorem strip_all {w l : Str} (h : ∀ c ∈ w.cps.toList, c ∈ l.cps.toList) : Txt.stripChars w l = "" := by
  have hc : ∀ c ∈ w.cps.toList, l.cps.contains c = true := fun c hm => by
    have := h c hm
    rw [Array.mem_toList_iff] at this
    exact Array.contains_iff_mem.mpr this
  have lo : stripLo l.cps.contains true w = w.length := by
    show (w.cps.toList.takeWhile l.cps.contains).length = w.cps.size
    rw [show w.cps.toList.takeWhile l.cps.contains = w.cps.toList from takeWhile_whole hc, Array.length_toList]
  have hi : stripHi l.cps.contains true w w.length = w.length := by
    show w.length - ((w.cps.toList.drop w.length).reverse.takeWhile l.cps.contains).length = w.length
    rw [List.drop_of_length_le (by rw [Array.length_toList]; exact Nat.le_refl _)]
    rfl
  show (if stripSame l.cps.contains true true w then w else stripped l.cps.contains true true w) = _
  by_cases e : stripSame l.cps.contains true true w = true
  · rw [if_pos e]
    unfold stripSame at e
    rw [lo, Bool.and_eq_true] at e
    have z : w.length = 0 := eq_of_beq e.1
    rw [tx_of w, List.eq_nil_of_length_eq_zero (show w.cps.toList.length = 0 by rw [Array.length_toList]; exact z)]
    rfl
  · rw [if_neg e]
    unfold stripped
    rw [lo, hi]
    show (⟨w.cps.extract w.length w.length⟩ : Str) = _
    have : w.cps.extract w.length w.length = #[] := by simp [Str.length]
    rw [this]
    rfl
/-- the letters from one another's place on -/
theorem takeWhile_lt {p : Nat → Bool} : ∀ {l : List Nat} {c : Nat}, c ∈ l → p c = false → (l.takeWhile p).length < l.length
  | [], _, h, _ => by cases h
  | a :: l, c, h, hp => by
    rw [List.takeWhile_cons]
    by_cases ha : p a = true
    · rw [if_pos ha, List.length_cons, List.length_cons]
      rcases List.mem_cons.mp h with e | h
      · rw [e, ha] at hp
        cases hp
      · have := takeWhile_lt h hp
        omega
    · rw [if_neg ha]
      exact Nat.succ_pos _
theorem mem_drop_takeWhile {p : Nat → Bool} : ∀ {l : List Nat} {c : Nat}, c ∈ l → p c = false → c ∈ l.drop (l.takeWhile p).length
  | [], _, h, _ => by cases h
  | a :: l, c, h, hp => by
    rw [List.takeWhile_cons]
    by_cases ha : p a = true
    · rw [if_pos ha, List.length_cons, List.drop_succ_cons]
      rcases List.mem_cons.mp h with e | h
      · rw [e, ha] at hp
        cases hp
      · exact mem_drop_takeWhile h hp
    · rw [if_neg ha]
      exact h
theorem strip_not {w l : Str} {c : Nat} (h : c ∈ w.cps.toList) (hn : c ∉ l.cps.toList) : Txt.stripChars w l ≠ "" := by
  have hp : l.cps.contains c = false := by
    cases e : l.cps.contains c with
    | false => rfl
    | true => exact absurd (Array.mem_toList_iff.mpr (Array.contains_iff_mem.mp e)) hn
  have h0 : w.length ≠ 0 := fun z => by
    rw [List.eq_nil_of_length_eq_zero (show w.cps.toList.length = 0 by rw [Array.length_toList]; exact z)] at h
    cases h
  show (if stripSame l.cps.contains true true w then w else stripped l.cps.contains true true w) ≠ _
  by_cases e : stripSame l.cps.contains true true w = true
  · rw [if_pos e]
    intro z
    rw [z] at h0
    exact h0 rfl
  · rw [if_neg e]
    intro z
    have ll : w.cps.toList.length = w.cps.size := Array.length_toList
    have lt := takeWhile_lt (l := w.cps.toList) h hp
    have md := mem_drop_takeWhile (l := w.cps.toList) h hp
    have lt2 := takeWhile_lt (l := (w.cps.toList.drop (w.cps.toList.takeWhile l.cps.contains).length).reverse) (List.mem_reverse.mpr md) hp
    rw [List.length_reverse, List.length_drop] at lt2
    have zl := congrArg Str.length z
    have e2 : (stripped l.cps.contains true true w).length = min (w.cps.size - ((w.cps.toList.drop (w.cps.toList.takeWhile l.cps.contains).length).reverse.takeWhile l.cps.contains).length) w.cps.size - (w.cps.toList.takeWhile l.cps.contains).length := by
      show (w.cps.extract _ _).size = _
      rw [Array.size_extract]
      rfl
    rw [e2] at zl
    have z0 : ("" : Str).length = 0 := rfl
    rw [z0] at zl
    omega
theorem strip_iff (w l : Str) : decide (Txt.stripChars w l = "") = w.cps.toList.all fun c => decide (c ∈ l.cps.toList) := by
  by_cases h : ∀ c ∈ w.cps.toList, c ∈ l.cps.toList
  · rw [decide_eq_true (strip_all h)]
    exact (List.all_eq_true.mpr fun c m => decide_eq_true (h c m)).symm
  · have ⟨c, hc⟩ := Classical.not_forall.mp h
    have ⟨m, n⟩ := Classical.not_imp.mp hc
    rw [decide_eq_false (strip_not m n)]
    exact (List.all_eq_false.mpr ⟨c, m, by simpa using n⟩).symm
/-! ### items by place -/
def keep (b : Bool) (v : V) : Option V := if b = true then some v else none
theorem keep_t {b : Bool} {v : V} (h : b = true) : keep b v = some v := if_pos h
theorem keep_f {b : Bool} {v : V} (h : b = false) : keep b v = none := by rw [h]; rfl
theorem range_map (a : Array Nat) : (List.range a.size).map (fun i => a.getD i 0) = a.toList := by
  apply List.ext_getElem
  · simp
  · intro i h1 h2
    have hi : i < a.size := by simpa using h1
    rw [List.getElem_map, List.getElem_range, Array.getElem_toList, Array.getD_eq_getD_getElem?, Array.getElem?_eq_getElem hi]
    rfl
theorem keep_map (l : List Nat) (P : Nat → Bool) (g : Nat → V) : l.filterMap (fun i => keep (P i) (g i)) = (l.filter P).map g := by
  induction l with
  | nil => rfl
  | cons a l ih =>
    rw [List.filterMap_cons, List.filter_cons]
    cases h : P a
    · rw [keep_f rfl, if_neg Bool.false_ne_true]
      exact ih
    · rw [keep_t rfl, if_pos rfl, List.map_cons, ← ih]
theorem range_keep (a : Array Nat) (P : Nat → Bool) (g : Nat → V) : (List.range a.size).filterMap (fun i => keep (P (a.getD i 0)) (g (a.getD i 0))) = (a.toList.filter P).map g := by
  rw [← keep_map, ← range_map, List.filterMap_map]
  rfl
theorem range_some (n : Nat) (g : Nat → V) : (List.range n).filterMap (fun i => some (g i)) = (List.range n).map g := by
  rw [← List.filterMap_eq_map]
  rfl
theorem range_signs (a : Array Nat) (g : Nat → V) : (List.range a.size).filterMap (fun i => some (g (a.getD i 0))) = a.toList.map g := by
  rw [← range_map, List.map_map, range_some]
  rfl
theorem range_list {α : Type} (xs : List α) (d : α) : (List.range xs.length).map (fun i => xs.getD i d) = xs := by
  apply List.ext_getElem
  · simp
  · intro i h1 h2
    rw [List.getElem_map, List.getElem_range, List.getD_eq_getElem?_getD, List.getElem?_eq_getElem h2]
    rfl
/-! ### sorted signs -/
def sortN (l : List Nat) : List Nat := l.mergeSort fun a b => decide (a ≤ b)
theorem sortN_perm (l : List Nat) : (sortN l).Perm l := List.mergeSort_perm _ _
theorem sortN_le (l : List Nat) : (sortN l).Pairwise (· ≤ ·) := by
  have := List.pairwise_mergeSort (le := fun a b : Nat => decide (a ≤ b)) (fun a b c h1 h2 => decide_eq_true (Nat.le_trans (of_decide_eq_true h1) (of_decide_eq_true h2)))
    (fun a b => by rw [Bool.or_eq_true, decide_eq_true_eq, decide_eq_true_eq]; omega) l
  exact this.imp fun h => of_decide_eq_true h
theorem sortN_uniq {l m : List Nat} (h : m.Perm l) (s : m.Pairwise (· ≤ ·)) : m = sortN l :=
  List.Perm.eq_of_pairwise (le := (· ≤ ·)) (fun a b _ _ h1 h2 => Nat.le_antisymm h1 h2) s (sortN_le l) (h.trans (sortN_perm l).symm)
theorem rising_signs : ∀ (l : List Nat) (a : Nat), risingS (tx [a]) (l.map fun c => tx [c]) = true → (a :: l).Pairwise (· ≤ ·)
  | [], a, _ => List.pairwise_singleton _ _
  | b :: l, a, h => by
    have h' : (!ltCps [b] [a] && risingS (tx [b]) (l.map fun c => tx [c])) = true := h
    rw [Bool.and_eq_true, Bool.not_eq_true', ltCps_eq] at h'
    have p := rising_signs l b h'.2
    have ab : a ≤ b := by
      have := of_decide_eq_false h'.1
      refine Nat.le_of_not_lt fun lt => this ?_
      exact List.Lex.rel lt
    refine List.pairwise_cons.mpr ⟨fun c hc => ?_, p⟩
    rcases List.mem_cons.mp hc with e | hc
    · rw [e]; exact ab
    · exact Nat.le_trans ab ((List.pairwise_cons.mp p).1 c hc)
theorem sorted_signs {l : List Nat} (h : sortedS (l.map fun c => tx [c]) = true) : l.Pairwise (· ≤ ·) := by
  cases l with
  | nil => exact .nil
  | cons a l => exact rising_signs l a h
theorem perm_signs {ys : List Str} {l : List Nat} (h : ys.Perm (l.map fun c => tx [c])) : ∃ m : List Nat, ys = m.map (fun c => tx [c]) ∧ m.Perm l := by
  have e : ys = (ys.map fun y => y.cps.toList.headD 0).map fun c => tx [c] := by
    rw [List.map_map]
    have : ∀ y ∈ ys, ((fun c => tx [c]) ∘ fun y : Str => y.cps.toList.headD 0) y = id y := fun y hy => by
      obtain ⟨c, _, rfl⟩ := List.mem_map.mp (h.mem_iff.mp hy)
      rfl
    rw [List.map_congr_left this, List.map_id]
  refine ⟨_, e, ?_⟩
  have := h.map fun y => y.cps.toList.headD 0
  rw [List.map_map] at this
  have e2 : l.map ((fun y : Str => y.cps.toList.headD 0) ∘ fun c => tx [c]) = l := by
    have : ∀ c ∈ l, ((fun y : Str => y.cps.toList.headD 0) ∘ fun c => tx [c]) c = id c := fun _ _ => rfl
    rw [List.map_congr_left this, List.map_id]
  rw [e2] at this
  exact this
/-- sorted signs, joined -/
theorem sorted_jn {ys : List Str} {l : List Nat} (h : ys.Perm (l.map fun c => tx [c])) (s : sortedS ys = true) : ys = (sortN l).map fun c => tx [c] := by
  obtain ⟨m, rfl, p⟩ := perm_signs h
  rw [sortN_uniq p (sorted_signs s)]
theorem signs_map (x : Str) : signs x = x.cps.toList.map fun c => tx [c] := rfl
theorem iT {c : Bool} {A B : Prop} (h : c = true) (a : A) : if c = true then A else B := by rw [if_pos h]; exact a
theorem iF {c : Bool} {A B : Prop} (h : c = false) (b : B) : if c = true then A else B := by rw [if_neg (by rw [h]; exact Bool.false_ne_true)]; exact b
theorem dF {p : Prop} [Decidable p] (h : ¬ p) : decide p = false := decide_eq_false h
theorem dT {p : Prop} [Decidable p] (h : p) : decide p = true := decide_eq_true h
/-! ### places -/
theorem decS {a b : Str} : decide (V.str a = V.str b) = decide (a = b) := by
  rw [Bool.eq_iff_iff]
  simp
theorem decI {a b : Int} : decide (V.int a = V.int b) = decide (a = b) := by
  rw [Bool.eq_iff_iff]
  simp
theorem at_str {w : Str} {i : Int} (h0 : 0 ≤ i) (h1 : i < ((w.length : Nat) : Int)) : atI w.cps.toList i = some (w.cps.getD i.toNat 0) := by
  have e : i = ((i.toNat : Nat) : Int) := by omega
  have hi : i.toNat < w.cps.size := by
    have : w.cps.size = w.length := rfl
    omega
  rw [e]
  refine atI_nat ?_
  show w.cps.toList[i.toNat]? = _
  rw [Array.getElem?_toList, Array.getElem?_eq_getElem hi, Int.toNat_natCast, Array.getD_eq_getD_getElem?, Array.getElem?_eq_getElem hi]
  rfl
theorem getD_strs {ps : List Str} {i : Nat} (h : i < ps.length) : (ps.map V.str).getD i .non = V.str (ps.getD i "") := by
  rw [List.getD_eq_getElem?_getD, List.getElem?_map, List.getD_eq_getElem?_getD, List.getElem?_eq_getElem h]
  rfl
theorem oneS {z : Str} (h : z.length = 1) : z = tx [z.cps.getD 0 0] := by
  have hl : z.cps.toList.length = 1 := by rw [Array.length_toList]; exact h
  obtain ⟨a, e⟩ := List.length_eq_one_iff.mp hl
  have e2 : z.cps.getD 0 0 = a := by
    rw [Array.getD_eq_getD_getElem?, ← Array.getElem?_toList, e]
    rfl
  rw [e2, ← e]
theorem all_range_succ {n : Nat} {p : Nat → Bool} (h : ∀ j, j < n → p j = true) : (List.range n).all p = true := List.all_eq_true.mpr fun j m => h j (List.mem_range.mp m)
theorem all_range_not {n i : Nat} {p : Nat → Bool} (hi : i < n) (h : p i = false) : (List.range n).all p = false := List.all_eq_false.mpr ⟨i, List.mem_range.mpr hi, by rw [h]; exact Bool.false_ne_true⟩
/-! ### the same within a comprehension: the fragment told -/
section
variable {X : Cx} {K : PySem.W.Frag} {pos apos cpos p2 : Pos} {e o : Expr} {es : List Expr} {to te : TE} {t : TA} {name : Str} {id T : String} {r : V → List V → Hp → VK → Prop}
theorem pg_tupK (hK : X.K = K) {k : Nat} {t : TGs} {n : Nat} (hc : X.calm = true) (h : PGs X es t)
    (hn : (assignEach es X.env).length = n := by rfl) (hst : (assignEach es X.env).findIdx? (·.1) = none := by rfl) : PG X (.Tuple es k pos) (gTup K n t) := by
  subst hK
  exact pg_tup hc h hn hst
theorem call_len_seqK (hK : X.K = K) : CallR X (.builtin "len") (fun xs H Q => ∃ p ys, xs = [.ref p] ∧ (SqL K H p ys ∨ SqT K H p ys) ∧ Q (.int ys.length) H) := by
  subst hK
  exact call_len_seq
theorem ix_listK (hK : X.K = K) : IxR X (rIxL K) := by
  subst hK
  exact ix_list
theorem ix_tupK (hK : X.K = K) : IxR X (rIxT K) := by
  subst hK
  exact ix_tup
theorem sl_listK (hK : X.K = K) : SlR X (rSlL K) := by
  subst hK
  exact sl_list
theorem sl_tupAK (hK : X.K = K) : SlR X (rSlA K) := by
  subst hK
  exact sl_tupA
theorem call_tuple_ofK (hK : X.K = K) : CallR X (.type "tuple") (fun xs H Q => ∃ p ys, xs = [.ref p] ∧ ((SqL K H p ys ∧ ∀ l, H l = none → Q (.ref l) (upd H l (.tup ys))) ∨ (SqT K H p ys ∧ Q (.ref p) H))) := by
  subst hK
  exact call_tuple_of
theorem cr_sortedSK (hK : X.K = K) : CallR X (.builtin "sorted") (rSortedS K) := by
  subst hK
  exact cr_sortedS
theorem op_in_seqK (hK : X.K = K) : OpR X (compareOp .In) (rIn K false) := by
  subst hK
  exact op_in_seq
theorem pe_joinK (hK : X.K = K) (ho : PE X o to) (he : PE X e te) (hs : starEach [e] X.env = [(false, eval e X.env)] := by rfl) (hbase : attributeBase o "join" X.env (eval o X.env) = eval o X.env := by rfl) (hline : (apos.endLine == pos.line) = true := by rfl) :
    PE X (.Call (.Attribute o "join" apos) [e] [] pos) (tM1 (fun x xs H Q => ∃ a p, ∃ ys : List Str, x = .str a ∧ xs = [.ref p] ∧ (SqL K H p (ys.map V.str) ∨ SqT K H p (ys.map V.str)) ∧
      (ys.map (·.length)).sum + ys.length * a.length ≤ 16777216 ∧ Q (.str (Txt.join a ys)) H) to te) := by
  subst hK
  exact pe_join ho he hs hbase hline
theorem pe_bmK (hK : X.K = K) (pa : PlainAttrs T) (slot : Slot T name id) (hty : typeOf (.builtin id) = pure (.type "method_descriptor")) (hm : MtR X id r) (ho : PE X o to) (ha : PA X (e :: es) t)
    (hbase : attributeBase o name X.env (eval o X.env) = eval o X.env := by rfl)
    (hfew : ((backTo cpos (starEach (e :: es) X.env)).all (fun x => !x.1) && (backToKw cpos (keywordEach [] X.env)).all (fun x => x.1.isSome)
      && decide ((e :: es).length + ([] : List Keyword).length + (if ([] : List Keyword).isEmpty then 0 else 1) < 30)) = true := by rfl)
    (hline : (apos.endLine == cpos.line) = true := by rfl) (hs : starEach (e :: es) X.env = (false, eval e X.env) :: starEach es X.env := by rfl) (hplain : (backTo cpos (starEach es X.env)).any (·.1) = false := by rfl) :
    PE X (.Call (.Attribute o name apos) (e :: es) [] cpos) (tBM K T r to t) := by
  subst hK
  exact pe_bm pa slot hty hm ho ha hbase hfew hline hs hplain
end
end Sv

set_option Elab.async false
set_option linter.all false
set_option maxRecDepth 100000
set_option maxHeartbeats 4000000
/-! A law's draws: a list of small ints that is eaten up. -/
namespace Sv
open PySem PySem.Spec PyProof.Rows L2

/-- a list of draws stands at d -/
def Dw (H : Hp) (d : Addr) : Prop := ∃ ns : List Int, H d = some (.lst (ns.map V.int)) ∧ ∀ n ∈ ns, 0 ≤ n ∧ n < 1000
/-- all but d stays -/
def KeepX (d : Addr) (H H' : Hp) : Prop := ∀ b o, b ≠ d → H b = some o → H' b = some o
theorem KeepX.refl {d : Addr} (H : Hp) : KeepX d H H := fun _ _ _ h => h
theorem KeepX.trans {d : Addr} {H H1 H2 : Hp} (a : KeepX d H H1) (b : KeepX d H1 H2) : KeepX d H H2 := fun c o n h => b c o n (a c o n h)
theorem KeepX.of {d : Addr} {H H' : Hp} (s : Same H H') : KeepX d H H' := fun b o _ h => s b o h
theorem KeepX.free {d D : Addr} {H H' : Hp} (k : KeepX d H H') (n : D ≠ d) (h : H' D = none) : H D = none := by
  cases e : H D with
  | none => rfl
  | some o => rw [k _ _ n e] at h; cases h
theorem Dw.same {d : Addr} {H H' : Hp} (h : Dw H d) (s : Same H H') : Dw H' d := h.elim fun ns z => ⟨ns, s _ _ z.1, z.2⟩
theorem Dw.ne {d D : Addr} {H : Hp} (h : Dw H d) (hD : H D = none) : D ≠ d := fun e => by
  obtain ⟨ns, z, _⟩ := h
  rw [← e, hD] at z
  cases z
theorem KeepX.rd {d b : Addr} {H H' : Hp} {u : HO} (k : KeepX d H H') (n : b ≠ d) (h : Rd H b u) : Rd H' b u := by
  rcases h with z | ⟨o, z⟩
  · exact .inl (k _ _ n z)
  · exact .inr ⟨o, k _ _ n z⟩
theorem KeepX.sqT {K : PySem.W.Frag} {d a : Addr} {H H' : Hp} {xs : List V} (k : KeepX d H H') (h : SqT K H a xs) (hd : Dw H d) : SqT K H' a xs := by
  rcases h with z | z
  · refine .inl (k.rd (fun e => ?_) z)
    subst e
    obtain ⟨ns, y, _⟩ := hd
    rcases z with z | ⟨o, z⟩
    · rw [y] at z; cases z
    · rw [y] at z; cases z
  · exact .inr z
/-- a comprehension that eats draws: each turn gives a value with P -/
theorem lc_draw {J : It} {n : Nat} {G : Hp → Prop} {Y : Nat → Hp → V → Hp → Prop} (w : Walk J n G Y) {g : TG} {tt : TT} {te : TE} {vs : List Nat} {σ : L2.St} {H1 : Hp} {D : Addr} {Qd : Hp → Prop} {d : Addr} (P : V → Prop) (hD : H1 D = none) (h1 : Dw H1 d) (hn : n ≤ sizeLine)
    (hG : ∀ H, KeepX d H1 H → G H) (hY : ∀ i H x H', Y i H x H' → H' = H)
    (hs : ∀ i x H (N : Hp → Prop) (C : V → Hp → Prop), i < n → Dw H d → KeepX d H1 H → Y i H x H → (∀ y H3, P y → Dw H3 d → KeepX d H H3 → C y H3) →
      g x (wipe σ vs) H fun σ2 H2 => wipe σ2 vs = wipe σ vs ∧ tt σ2 H2 fun b H3 => if b = true then te σ2 H3 C else N H3)
    (hd : ∀ H ys, ys.length = n → (∀ y ∈ ys, P y) → H D = some (.lst ys) → Dw H d → KeepX d H1 H → Qd H) :
    ∃ W : Nat → Nat → Hp → Prop, (∃ m, W 0 m (upd H1 D (.lst []))) ∧ ∀ i m H, W i m H →
      (J.stop i H ∧ Qd H) ∨ (J.go i H ∧ ∃ Nx : Hp → Prop, (∀ H', Nx H' → ∃ m', m' < m ∧ W (i + 1) m' H') ∧ ∀ x H', J.yld i H x H' → g x (wipe σ vs) H' fun σ2 H2 => wipe σ2 vs = wipe σ vs ∧ tt σ2 H2 fun b H3 =>
        if b = true then te σ2 H3 fun y H4 => ∃ acc, H4 D = some (.lst acc) ∧ acc.length < sizeLine ∧ Nx (upd H4 D (.lst (acc ++ [y]))) else Nx H3) := by
  have hne := h1.ne hD
  refine lc_it w (fun i H => KeepX d H1 H ∧ Dw H d ∧ ∃ ys, ys.length = i ∧ (∀ y ∈ ys, P y) ∧ H D = some (.lst ys)) ⟨.of (same_new hD), h1.same (same_new hD), [], rfl, fun _ h => (nomatch h), upd_same⟩ (fun i H _ h => hG H h.1)
    (fun i x H H' hi p y => ?_) (fun H p => ?_)
  · obtain ⟨k, dw, ys, hl, hp, hy⟩ := p
    have e := hY i H x H' y
    subst e
    refine hs i x H' _ _ hi dw k y fun z H3 pz dw3 k3 => ⟨ys, k3 _ _ hne hy, by omega, fun b o nb q => ?_, ?_, ys ++ [z], ?_, fun u m => ?_, upd_same⟩
    · rw [upd_ne (fun e => by rw [e, hD] at q; cases q)]
      exact k3 _ _ nb (k _ _ nb q)
    · obtain ⟨ns, q, r⟩ := dw3
      exact ⟨ns, by rw [upd_ne (Ne.symm hne)]; exact q, r⟩
    · rw [List.length_append, hl]
      rfl
    · rcases List.mem_append.mp m with m | m
      · exact hp u m
      · rw [List.mem_singleton.mp m]
        exact pz
  · obtain ⟨k, dw, ys, hl, hp, hy⟩ := p
    exact hd H ys hl hp hy dw k
theorem mod_in {n m : Int} (h : 0 < m) : 0 ≤ n % m ∧ n % m < m := ⟨Int.emod_nonneg _ (by omega), Int.emod_lt_of_pos _ h⟩
theorem at_list {α : Type} {xs : List α} {i : Int} (d : α) (h0 : 0 ≤ i) (h1 : i < ((xs.length : Nat) : Int)) : atI xs i = some (xs.getD i.toNat d) := by
  have e : i = ((i.toNat : Nat) : Int) := by omega
  have hi : i.toNat < xs.length := by omega
  rw [e]
  refine atI_nat ?_
  rw [Int.toNat_natCast, List.getD_eq_getElem?_getD, List.getElem?_eq_getElem hi]
  rfl
end Sv

set_option Elab.async false
set_option linter.all false
set_option maxRecDepth 100000
set_option maxHeartbeats 4000000
/-! The law's own def, called by the claim itself: nothing is under repr there. -/
namespace Sv
open PySem PySem.Spec PyProof.Rows L2

/-- the law's def keeps sp where the claim calls it -/
def LawGoes (P : Program) (w : World) (K : PySem.W.Frag) (mg : Str → Option Value) (base : Heap) (f : Addr) (fd : FuncData) (x : Str) (sp : Sp) : Prop :=
  ∀ (s : Shared) (H : Hp) (u : Value) (v : V) (Q : VK) (E : XK), Env0 P w K mg base callerA [] s H → BindsTo s fd ⟨[u], []⟩ [(x, u)] → RelV v u → sp [v] H Q E →
    codeAny (model P w) callerA (.call (.ref f) ⟨[u], []⟩) (CR (L2.CX P w) [] P w H s Q E) s
theorem room_claim {k : Nat} (h : k ≤ 20) : Room k callerA := (show Room 20 callerA from ⟨rfl, by decide, by decide⟩).mono h
theorem law_goes {P : Program} {w : World} {K : PySem.W.Frag} {mg : Str → Option Value} {base : Heap} {nm q x : Str} {st : Stmt} {f : Addr} {fd : FuncData} {N : List Str} {sp : Sp} (F : Fun K nm q st f fd) (S : FnScope N [x] (defScope st))
    (hb : ∀ (c : Value) (s : Shared) (H : Hp) (v : V) (Q : VK) (E : XK), Room 19 (callerA.deeper (envOfC q (defScope st) s.heap.objs.size f c)) → sp [v] H Q E →
      ∃ t, PSs (cxOf (L2.CX P w) P w K mg base N q (defScope st) f c callerA [] s H E) (defBody st) t ∧ t ⟨fun _ H' => Q .non H', Q, fun _ _ => False, fun _ _ => False⟩ (start N [v]) H) : LawGoes P w K mg base f fd x sp := by
  intro s H u v Q E e0 bind rel hsp
  obtain ⟨oc, od, kv, dc, pm, an, c, ct, sl, rfl, look, code⟩ := F.ex
  have inK : K.In s.heap := e0.mod.kin.keeps fun _ _ z => (e0.bs _ _ z).1
  have noL : s.heap.NoLimit := e0.mod.nolimit.keeps fun _ _ z => (e0.bs _ _ z).1
  have par : ∀ y ∈ [x].zip [u], (defScope st).names.lookup y.1 = some .local ∨ ((defScope st).names.lookup y.1 = some .cell ∧ ((cellsFrom (s.heap.objs.size + 1) (defScope st).names []).lookup y.1).isSome = true) := by
    rintro ⟨n, z⟩ m
    exact (S.par n (List.of_mem_zip m).1).imp id fun e => ⟨e, PySem.W.cellsFrom_some _ _ _ (.inl e)⟩
  have rm : Room 20 callerA := room_claim (Nat.le_refl _)
  refine codeAny_call_function rm.depth (inK _ _ look) rfl S.co S.gen rfl (PySem.W.codeRec_of inK code) (bind _ _ _ _ ?_)
  refine wpAny_newFunctionEnv_cells S.kind par ?_
  rintro env rfl s1 x1
  refine ⟨noL.keeps x1.toInCall.keep, codeAny_func ?_⟩
  obtain ⟨t, ht, goal⟩ := hb c s H v Q E (rm.deeper _) hsp
  have I := inv_start (CX := L2.CX P w) (E := E) S rm.hd e0 (vs := [v]) (us := [u]) rfl (.cons rel .nil) x1
  refine wpAny_mono (ht.run [] s1 _ H _ I goal) ?_ fun _ _ z => z
  rintro fl s2 done
  cases fl with
  | next =>
    obtain ⟨σ2, H2, J, z⟩ := done
    exact ⟨.non, H2, J.os, J.bare, J.base, J.hok, rfl, z⟩
  | ret y =>
    obtain ⟨v2, σ2, H2, J, rv, z⟩ := done
    exact ⟨v2, H2, J.os, J.bare, J.base, J.hok, rv, z⟩
  | brk => exact done.elim fun _ z => z.elim fun _ z => z.2.elim
  | cont => exact done.elim fun _ z => z.elim fun _ z => z.2.elim

/-- what may stand in the heap ahead of the call: the script alone -/
def Script (K : PySem.W.Frag) (a : Addr) (us : List Value) (vs : List V) (H : Hp) : Prop :=
  ∀ b o, H b = some o → b = a ∧ K.lookup a = none ∧ o = .frz { cls := .type "list", data := .seq us.toArray } (.lst vs)
theorem claim_call {P : Program} {w : World} {K : PySem.W.Frag} {mg mb : Str → Option Value} {f a : Addr} {fd : FuncData} {x : Str} {sp : Sp} {s : Shared} {us : List Value} {ns : List Int}
    (inK : K.In s.heap) (glob : s.heap.Ns mainGlobals mg) (blt : s.heap.Ns builtinsNs mb) (boot : ∀ y : Str, y ≠ "__name__" → mb y = bootBuiltins y) (lim : s.heap.NoLimit) (gen : s.gens = #[])
    (script : s.heap.get? a = some { cls := .type "list", data := .seq us.toArray }) (isI : IntsAre us ns) (few : ns.length ≤ sizeLine)
    (F : ∀ base : Heap, K.In base → base.Ns mainGlobals mg → LawGoes P w K mg base f fd x sp) (bind : ∀ (s : Shared) (u : Value), BindsTo s fd ⟨[u], []⟩ [(x, u)])
    (law : ∀ H : Hp, SqL K H a (ns.map V.int) → sp [.ref a] H (fun v _ => v = .bl true) fun _ _ _ => False) :
    codeAny (model P w) callerA (.call (.ref f) ⟨[.ref a], []⟩) (fun r s' => r = .ok (.ret (.bool true)) ∧ OldK s.heap s'.heap ∧ s'.os = s.os ∧ AllBare s'.gens) s := by
  have rel := vals_ints isI
  have few2 : (ns.map V.int).length ≤ sizeLine := by rw [List.length_map]; exact few
  -- the heap that the walk begins with
  obtain ⟨H, one, seen⟩ : ∃ H : Hp, Script K a us (ns.map V.int) H ∧ SqL K H a (ns.map V.int) := by
    cases look : K.lookup a with
    | none =>
      refine ⟨upd (fun _ => none) a (.frz { cls := .type "list", data := .seq us.toArray } (.lst (ns.map V.int))), fun b o z => ?_, .inl (.inr ⟨_, upd_same⟩)⟩
      by_cases e : b = a
      · subst e
        rw [upd_same] at z
        exact ⟨rfl, look, (Option.some.inj z).symm⟩
      · rw [upd_ne e] at z
        cases z
    | some o =>
      have z := inK a o look
      rw [script] at z
      cases z
      exact ⟨fun _ => none, fun b o z => (nomatch z), .inr ⟨_, us.toArray, _, look, rfl, rfl, rfl, by rw [List.size_toArray, isI.length]; exact few, by simpa using rel⟩⟩
  have ok : HOk P w H s.heap := fun b o z => by
    obtain ⟨rfl, _, rfl⟩ := one b o z
    exact ⟨script, few2, us, _, rel, script⟩
  have down : ∀ {b : Addr} {o : Obj}, s.heap.get? b = some o → b ≠ a ∨ K.lookup a ≠ none → (hidT s.heap H).get? b = some o := fun {b o} g n => by
    refine hidT_get g ?_
    cases z : H b with
    | none => rfl
    | some u =>
      obtain ⟨e1, e2, _⟩ := one b u z
      exact (n.elim (fun n => n e1) fun n => n e2).elim
  have dict : ∀ {b : Addr} {m : Str → Option Value}, s.heap.Ns b m → (hidT s.heap H).Ns b m := fun {b m} ⟨o, es, ep, e, d, r⟩ => by
    refine ⟨o, es, ep, down e (.inl fun z => ?_), d, r⟩
    rw [z, script] at e
    have e1 := congrArg Obj.data (Option.some.inj e)
    rw [d] at e1
    cases e1
  have fragIn : K.In (hidT s.heap H) := fun b o z => down (inK b o z) (by
    by_cases e : b = a
    · refine .inr ?_
      rw [← e, z]
      simp
    · exact .inl e)
  have env : Env0 P w K mg (hidT s.heap H) callerA [] s H :=
    { frames := rfl, mod := ⟨fragIn, dict glob, ⟨mb, dict blt, boot⟩, lim.elim fun m z => ⟨m, dict z.1, z.2⟩⟩, bs := fun _ _ z => of_hidT z, bsz := by rw [hidT_size]; exact Nat.le_refl _, funs := trivial,
      frf := fun b m => (nomatch m), hok := ok, bare := .of_eq gen }
  have run := F _ fragIn (dict glob) s H (.ref a) (.ref a) _ _ env (bind s _) rfl (law H seen)
  refine codeAny_mono run fun r s2 z => ?_
  cases r with
  | error e =>
    obtain ⟨_, _, _, _, _, _, _, _, _, _, _, _, y⟩ := z
    exact y.elim
  | ok fl =>
    cases fl with
    | ret u =>
      obtain ⟨v, H2, os, bare, un, ok2, rv, rfl⟩ := z
      cases (show u = Value.bool true from rv)
      refine ⟨rfl, OldK.of_keep fun b o g => ?_, os, bare⟩
      cases y : H b with
      | none => exact un.keep b o g y (fun m => (nomatch m)) (fun m => (nomatch m))
      | some h =>
        obtain ⟨rfl, _, rfl⟩ := one b h y
        have k2 := (ok2 _ _ (un.frzs _ _ _ y)).1
        rw [script] at g
        cases g
        exact k2
    | next => exact z.elim
    | brk => exact z.elim
    | cont => exact z.elim
/-- the end of a law's head, the law walked where the claim calls it -/
theorem claim_walk {l : PySem.W.OpenLaw} {n : Nat} {q : Program} {loose : List Str} {XP : (Str → Option Value) → Heap → Prop} {YP : World → Heap → Prop} {d : DefRec} {x : Str} (most : l.most = some n) (line : n ≤ sizeLine) (plain : d.params.defaults = [])
    (F : ∀ (w : World) (mg : Str → Option Value) (f : Addr) (h : Heap), YP w h → h.Ns mainGlobals mg → mg d.name = some (.ref f) →
      ∃ (K : PySem.W.Frag) (fd : FuncData) (sp : Sp), K.In h ∧ (∀ (s : Shared) (u : Value), BindsTo s fd ⟨[u], []⟩ [(x, u)]) ∧
        (∀ (H : Hp) (a : Addr) (ns : List Int), ns.length ≤ n → SqL K H a (ns.map V.int) → sp [.ref a] H (fun v _ => v = .bl true) fun _ _ _ => False) ∧
        ∀ base : Heap, K.In base → base.Ns mainGlobals mg → LawGoes l.prog w K mg base f fd x sp) : PySem.W.WalkO q loose XP YP l.row.toRowW d [] (fun f vs => PySem.call f vs) := by
  refine Att.attach_call most plain ?_
  intro w s0 s1 mg mb f o pm cd dc a us ns G Y _ _ _ name obj isI len gen
  obtain ⟨K, fd, sp, inK, bind, law, goes⟩ := F w mg f _ Y G.T.g name
  exact claim_call inK G.T.g G.T.b G.T.builtins G.T.nolimit gen obj isI (Nat.le_trans len line) goes bind fun H seen => law H a ns len seen
end Sv

set_option Elab.async false
set_option linter.all false
set_option maxRecDepth 100000
set_option maxHeartbeats 4000000
/-! What can be shown, by its kind and size. -/
namespace Sv
open PySem PySem.Spec PyProof.Rows L2

structure Easy (n k : Nat) (d : PyData) : Prop where
  sh : d.showable = true
  nd : d.hasDict = false
  ls : d.leavesShort 13 = true
  dp : d.depth ≤ k
  wt : d.weight ≤ n
theorem Easy.mono {n m k j : Nat} {d : PyData} (h : Easy n k d) (a : n ≤ m) (b : k ≤ j) : Easy m j d := ⟨h.sh, h.nd, h.ls, Nat.le_trans h.dp b, Nat.le_trans h.wt a⟩
theorem Easy.bool (b : Bool) {n k : Nat} : Easy n k (.bool b) := ⟨rfl, rfl, rfl, Nat.zero_le _, Nat.zero_le _⟩
theorem Easy.none {n k : Nat} : Easy n k .none := ⟨rfl, rfl, rfl, Nat.zero_le _, Nat.zero_le _⟩
theorem Easy.str {x : Str} {n k : Nat} (h : ∀ c ∈ x.cps.toList, c < 1000) (l : x.length ≤ n) : Easy n k (.str x) :=
  ⟨rfl, rfl, by
    show (x.cps.toList.all fun c => decide (c < 16 ^ 8)) = true
    exact List.all_eq_true.mpr fun c m => decide_eq_true (Nat.lt_trans (h c m) (by decide)), Nat.zero_le _, l⟩
theorem Easy.int {i : Int} {n k : Nat} (h : i.natAbs < 10 ^ 12) (hn : 41 ≤ n) : Easy n k (.int i) := by
  have hl : i.natAbs.log2 < 40 := by
    by_cases z : i.natAbs = 0
    · rw [z]; decide
    · exact (Nat.log2_lt z).mpr (Nat.lt_trans h (by decide))
  refine ⟨?_, rfl, ?_, Nat.zero_le _, ?_⟩
  · show decide (i.natAbs.log2 < 1920) = true
    exact decide_eq_true (by omega)
  · show decide ((PyData.shown (.int i)).length ≤ 13) = true
    exact decide_eq_true (PyData.shown_int_le h)
  · show (if i == 0 then 0 else i.natAbs.log2 + 1) ≤ n
    split <;> omega
theorem easy_all {n k : Nat} : ∀ {ds : List PyData}, (∀ d ∈ ds, Easy n k d) → PyData.showableAll ds = true ∧ PyData.hasDictAll ds = false ∧ PyData.leavesShortAll 13 ds = true ∧ PyData.depthAll ds ≤ k ∧ PyData.weightAll ds ≤ ds.length * (n + 1)
  | [], _ => ⟨rfl, rfl, rfl, Nat.zero_le _, Nat.zero_le _⟩
  | d :: ds, h => by
    obtain ⟨a, b, c, e, f⟩ := easy_all (ds := ds) fun z m => h z (List.mem_cons_of_mem _ m)
    have g := h d List.mem_cons_self
    refine ⟨?_, ?_, ?_, ?_, ?_⟩
    · show (d.showable && PyData.showableAll ds) = true
      rw [g.sh, a]; rfl
    · show (d.hasDict || PyData.hasDictAll ds) = false
      rw [g.nd, b]; rfl
    · show (d.leavesShort 13 && PyData.leavesShortAll 13 ds) = true
      rw [g.ls, c]; rfl
    · show max d.depth (PyData.depthAll ds) ≤ k
      have := g.dp
      omega
    · show d.weight + 1 + PyData.weightAll ds ≤ _
      have := g.wt
      rw [List.length_cons, Nat.succ_mul]
      omega
theorem Easy.list {n k m : Nat} {ds : List PyData} (h : ∀ d ∈ ds, Easy n k d) (hm : ds.length * (n + 1) ≤ m) : Easy m (k + 1) (.list ds) := by
  obtain ⟨a, b, c, e, f⟩ := easy_all h
  exact ⟨a, b, c, Nat.succ_le_succ e, Nat.le_trans f hm⟩
theorem Easy.tup {n k m : Nat} {ds : List PyData} (h : ∀ d ∈ ds, Easy n k d) (hm : ds.length * (n + 1) ≤ m) : Easy m (k + 1) (.tuple ds) := by
  obtain ⟨a, b, c, e, f⟩ := easy_all h
  exact ⟨a, b, c, Nat.succ_le_succ e, Nat.le_trans f hm⟩
theorem Easy.show {n k : Nat} {d : PyData} (h : Easy n k d) (hn : n ≤ 1000000) (hk : k ≤ 50) : ShowOk d := by
  refine ⟨h.sh, h.nd, Nat.le_trans h.dp hk, ?_⟩
  have := PyData.shown_le 13 (by decide) d h.ls
  have := h.wt
  rw [sizeLine_eq]
  omega
/-- deep data of flat lists -/
theorem dp_all {K : PySem.W.Frag} {H : Hp} {α : Type} {f : α → V} {g : α → PyData} (h : ∀ x, Dp K H (f x) (g x)) : ∀ xs : List α, DpAll K H (xs.map f) (xs.map g)
  | [] => .nil
  | x :: xs => .cons (h x) (dp_all h xs)
theorem dp_strs {K : PySem.W.Frag} {H : Hp} (xs : List Str) : DpAll K H (xs.map V.str) (xs.map PyData.str) := dp_all (fun x => .str x) xs
theorem dp_ints {K : PySem.W.Frag} {H : Hp} (xs : List Int) : DpAll K H (xs.map V.int) (xs.map PyData.int) := dp_all (fun x => .int x) xs
end Sv

set_option Elab.async false
set_option linter.all false
set_option maxRecDepth 100000
set_option maxHeartbeats 4000000
namespace K
open PySem PySem.Spec PyProof.Rows L2 Sv
/-! ### what the defs do -/
def numOk (k : Int) : Bool := decide (2 ≤ k) && decide (k ≤ 6)
def letters (k : Int) : Str := cutS "abcdef" none (some k)
def isWord (k : Int) (w : Str) : Bool := decide (((w.length : Nat) : Int) ≤ 60) && decide (Txt.stripChars w (letters k) = "")
theorem letters_len (k : Int) : (letters k).length ≤ 6 := cutS_length _ _ _
theorem le_line {n m : Nat} (h : n ≤ m) (hm : m ≤ 16777216 := by decide) : n ≤ sizeLine := by rw [sizeLine_eq]; omega
def ErrE (K : PySem.W.Frag) (E : XK) (e : Er) (H : Hp) : Prop := E (.ref (He.ga K e.nm)) none H
/-- the signs of the letters that stand in the place -/
def picked (l p : Str) : List Nat := l.cps.toList.filter fun c => decide (c ∈ p.cps.toList)
def isSet (l p : Str) : Bool := !decide (p = "") && decide (p = tx (picked l p))
def ctxAt (l p : Str) (e i : Int) : Bool := isSet l p || (decide (i = e) && decide (p = "#"))
def isCtx (l : Str) (ps : List Str) (e : Int) : Bool := decide (((ps.length : Nat) : Int) ≤ 2) && (List.range ps.length).all fun i => ctxAt l (ps.getD i "") e i
def isNew (l n : Str) : Bool := decide (((n.length : Nat) : Int) ≤ 3) && decide (Txt.stripChars n l = "")
structure Rl where
  c : Str
  n : Str
  l : List Str
  r : List Str
structure RuleAt (K : PySem.W.Frag) (H : Hp) (a : Addr) (R : Rl) : Prop where
  mk ::
  ex : ∃ al ar, SqT K H a [.str R.c, .str R.n, .ref al, .ref ar] ∧ SqT K H al (R.l.map V.str) ∧ SqT K H ar (R.r.map V.str)
theorem RuleAt.same {K : PySem.W.Frag} {H H' : Hp} {a : Addr} {R : Rl} (h : RuleAt K H a R) (s : Same H H') : RuleAt K H' a R := by
  obtain ⟨al, ar, h1, h2, h3⟩ := h.ex
  exact ⟨al, ar, same_t s h1, same_t s h2, same_t s h3⟩
/-- texts and contexts of a bounded size -/
structure Rl.Small (R : Rl) : Prop where
  c : R.c.length ≤ 1000
  n : R.n.length ≤ 1000
  l : R.l.length ≤ 1000
  r : R.r.length ≤ 1000
  sl : ∀ p ∈ R.l, p.length ≤ 1000
  sr : ∀ p ∈ R.r, p.length ≤ 1000
def isRule (k : Int) (R : Rl) : Bool :=
  decide (((R.c.length : Nat) : Int) = 1) && decide (R.c.cps.getD 0 0 ∈ (letters k).cps.toList) && isNew (letters k) R.n && isCtx (letters k) R.l 0 && isCtx (letters k) R.r (((R.r.length : Nat) : Int) - 1)
def namesOk (k : Int) (n : Str) : Bool := decide (tx (sortN n.cps.toList) = letters k)
def fits (p w : Str) (i : Int) : Bool := if i < 0 ∨ ((w.length : Nat) : Int) ≤ i then decide (p = "#") else decide (w.cps.getD i.toNat 0 ∈ p.cps.toList)
def allFit (ps : List Str) (w : Str) (b : Int) : Bool := (List.range ps.length).all fun i => fits (ps.getD i "") w (b + i)
def standsAt (R : Rl) (w : Str) (i : Nat) : Bool := decide (tx [w.cps.getD i 0] = R.c) && (allFit R.l w (((i : Nat) : Int) - ((R.l.length : Nat) : Int)) && allFit R.r w (((i : Nat) : Int) + 1))
def stood (R : Rl) (w : Str) : List Nat := (List.range w.cps.size).filter (standsAt R w)
def parts (R : Rl) (w : Str) : List Str := (List.range w.cps.size).map fun i => if standsAt R w i = true then R.n else tx [w.cps.getD i 0]
def ren (n : Str) (c : Nat) : Nat := n.cps.getD (c - 97) 0
def renS (n w : Str) : Str := tx (w.cps.toList.map (ren n))
def renP (n p : Str) : Str := if p = "#" then p else tx (sortN (renS n p).cps.toList)
/-! ### contracts -/
def sp_is_number_of_letters (K : PySem.W.Frag) : Sp := fun vs H Q E => ∃ k : Int, vs = [.int k] ∧ Q (.bl (numOk k)) H
def sp_check_number (K : PySem.W.Frag) : Sp := fun vs H Q E => ∃ k : Int, vs = [.int k] ∧ if numOk k = true then Q .non H else ErrE K E .number H
def sp_letters_of (K : PySem.W.Frag) : Sp := fun vs H Q E => ∃ k : Int, vs = [.int k] ∧ if numOk k = true then Q (.str (letters k)) H else ErrE K E .number H
def sp_is_word (K : PySem.W.Frag) : Sp := fun vs H Q E => ∃ (k : Int) (w : Str), vs = [.int k, .str w] ∧ w.length ≤ sizeLine ∧ if numOk k = true then Q (.bl (isWord k w)) H else ErrE K E .number H
def sp_check_word (K : PySem.W.Frag) : Sp := fun vs H Q E => ∃ (k : Int) (w : Str), vs = [.int k, .str w] ∧ w.length ≤ sizeLine ∧ if numOk k = true then (if isWord k w = true then Q .non H else ErrE K E .word H) else ErrE K E .number H
def sp_is_set (K : PySem.W.Frag) : Sp := fun vs H Q E => ∃ l p : Str, vs = [.str l, .str p] ∧ l.length ≤ 1000 ∧ ∀ H', Same H H' → Q (.bl (isSet l p)) H'
def sp_is_context (K : PySem.W.Frag) : Sp := fun vs H Q E => ∃ (l : Str) (a : Addr) (ps : List Str) (e : Int), vs = [.str l, .ref a, .int e] ∧ SqT K H a (ps.map V.str) ∧ l.length ≤ 1000 ∧ ∀ H', Same H H' → Q (.bl (isCtx l ps e)) H'
def sp_is_new (K : PySem.W.Frag) : Sp := fun vs H Q E => ∃ l n : Str, vs = [.str l, .str n] ∧ n.length ≤ sizeLine ∧ Q (.bl (isNew l n)) H
def sp_is_rule (K : PySem.W.Frag) : Sp := fun vs H Q E => ∃ (k : Int) (a : Addr) (R : Rl), vs = [.int k, .ref a] ∧ RuleAt K H a R ∧ R.Small ∧ if numOk k = true then ∀ H', Same H H' → Q (.bl (isRule k R)) H' else ErrE K E .number H
def sp_check_rule (K : PySem.W.Frag) : Sp := fun vs H Q E => ∃ (k : Int) (a : Addr) (R : Rl), vs = [.int k, .ref a] ∧ RuleAt K H a R ∧ R.Small ∧ if numOk k = true then ∀ H', Same H H' → (if isRule k R = true then Q .non H' else ErrE K E .rule H') else ErrE K E .number H
def sp_check_names (K : PySem.W.Frag) : Sp := fun vs H Q E => ∃ (k : Int) (n : Str), vs = [.int k, .str n] ∧ n.length < 64 ∧ if numOk k = true then ∀ H', Same H H' → (if namesOk k n = true then Q .non H' else ErrE K E .word H') else ∀ H', Same H H' → ErrE K E .number H'
def sp_fits (K : PySem.W.Frag) : Sp := fun vs H Q E => ∃ (p w : Str) (i : Int), vs = [.str p, .str w, .int i] ∧ w.length ≤ sizeLine ∧ Q (.bl (fits p w i)) H
def sp_all_fit (K : PySem.W.Frag) : Sp := fun vs H Q E => ∃ (a : Addr) (ps : List Str) (w : Str) (b : Int), vs = [.ref a, .str w, .int b] ∧ SqT K H a (ps.map V.str) ∧ w.length ≤ sizeLine ∧ ∀ H', Same H H' → Q (.bl (allFit ps w b)) H'
def sp_indexes_of (K : PySem.W.Frag) : Sp := fun vs H Q E => ∃ (a : Addr) (R : Rl) (w : Str), vs = [.ref a, .str w] ∧ RuleAt K H a R ∧ w.length ≤ 1000000 ∧ ∀ p H', H p = none → Same H H' → H' p = some (.lst ((stood R w).map fun i => V.int (i : Nat))) → Q (.ref p) H'
def sp_parts_of (K : PySem.W.Frag) : Sp := fun vs H Q E => ∃ (a : Addr) (R : Rl) (w : Str), vs = [.ref a, .str w] ∧ RuleAt K H a R ∧ w.length ≤ 1000000 ∧ ∀ p H', H p = none → Same H H' → H' p = some (.lst ((parts R w).map V.str)) → Q (.ref p) H'

/-! ### the rules at work -/
theorem foldl_set {α : Type} (x : α) : ∀ (js : List Nat) (l : List α), (js.foldl (fun acc j => acc.set j x) l).length = l.length
  | [], _ => rfl
  | j :: js, l => by rw [List.foldl_cons, foldl_set x js, List.length_set]
theorem foldl_set_get {α : Type} (x : α) : ∀ (js : List Nat) (l : List α) (i : Nat), i < l.length → (js.foldl (fun acc j => acc.set j x) l)[i]? = if i ∈ js then some x else l[i]?
  | [], l, i, _ => by simp
  | j :: js, l, i, h => by
    rw [List.foldl_cons, foldl_set_get x js _ i (by rw [List.length_set]; exact h)]
    by_cases m : i ∈ js
    · rw [if_pos m, if_pos (List.mem_cons_of_mem _ m)]
    · rw [if_neg m]
      by_cases e : j = i
      · subst e
        rw [if_pos List.mem_cons_self, List.getElem?_set_self h]
      · rw [if_neg (fun z => (List.mem_cons.mp z).elim (fun q => e q.symm) m), List.getElem?_set_ne e]
theorem parts_foldl (R : Rl) (w : Str) : (stood R w).foldl (fun acc j => acc.set j (V.str R.n)) ((Sv.signs w).map V.str) = (parts R w).map V.str := by
  apply List.ext_getElem?
  intro i
  by_cases h : i < w.cps.size
  · have hl : i < ((Sv.signs w).map V.str).length := by rw [List.length_map, signs_len]; exact h
    rw [foldl_set_get _ _ _ _ hl]
    have e1 : ((Sv.signs w).map V.str)[i]? = some (V.str (tx [w.cps.getD i 0])) := by
      rw [List.getElem?_map, Sv.signs_map, List.getElem?_map, Array.getElem?_toList, Array.getD_eq_getD_getElem?, Array.getElem?_eq_getElem h]
      rfl
    have e2 : ((parts R w).map V.str)[i]? = some (V.str (if standsAt R w i = true then R.n else tx [w.cps.getD i 0])) := by
      unfold parts
      rw [List.getElem?_map, List.getElem?_map, List.getElem?_range h]
      rfl
    rw [e1, e2]
    unfold stood
    by_cases c : standsAt R w i = true
    · rw [if_pos (List.mem_filter.mpr ⟨List.mem_range.mpr h, c⟩), if_pos c]
    · rw [if_neg (fun z => c (List.mem_filter.mp z).2), if_neg c]
  · rw [List.getElem?_eq_none (by rw [foldl_set, List.length_map, signs_len]; omega), List.getElem?_eq_none (by unfold parts; simp; omega)]
theorem sum_le {b : Nat} : ∀ (l : List Nat), (∀ x ∈ l, x ≤ b) → l.sum ≤ l.length * b
  | [], _ => Nat.zero_le _
  | a :: l, h => by
    have h1 := h a List.mem_cons_self
    have h2 := sum_le l fun x m => h x (List.mem_cons_of_mem _ m)
    rw [List.sum_cons, List.length_cons, Nat.succ_mul]
    omega
theorem parts_len (R : Rl) (w : Str) : (parts R w).length = w.cps.size := by
  unfold parts
  rw [List.length_map, List.length_range]
theorem parts_sum (R : Rl) (w : Str) (h : R.n.length ≤ 1000) : ((parts R w).map (·.length)).sum ≤ w.cps.size * 1000 := by
  have := sum_le (b := 1000) ((parts R w).map (·.length)) fun x m => by
    obtain ⟨y, my, rfl⟩ := List.mem_map.mp m
    unfold parts at my
    obtain ⟨i, _, rfl⟩ := List.mem_map.mp my
    by_cases c : standsAt R w i = true
    · rw [if_pos c]; exact h
    · rw [if_neg c, tx_len]; show 1 ≤ 1000; decide
  rw [List.length_map, parts_len] at this
  exact this
def errRW (k : Int) (R : Rl) (w : Str) : Option Er := if numOk k = true then (if isRule k R = true then (if isWord k w = true then none else some .word) else some .rule) else some .number
def errR (k : Int) (R : Rl) : Option Er := if numOk k = true then (if isRule k R = true then none else some .rule) else some .number
def errRN (k : Int) (R : Rl) (n : Str) : Option Er := if numOk k = true then (if isRule k R = true then (if namesOk k n = true then none else some .word) else some .rule) else some .number
def errWN (k : Int) (w n : Str) : Option Er := if numOk k = true then (if isWord k w = true then (if namesOk k n = true then none else some .word) else some .word) else some .number
def OrE (K : PySem.W.Frag) (H : Hp) (E : XK) (o : Option Er) (R : Hp → Prop) : Prop := ∀ H', Same H H' → (match o with | some e => ErrE K E e H' | none => R H')
def Rl.turn (R : Rl) : Rl := ⟨R.c, revS R.n, R.r.reverse, R.l.reverse⟩
/-- each sign has its place among the letters, and a name -/
def RenOk (l n w : Str) : Prop := ∀ c ∈ w.cps.toList, (∃ rest, Builtin.Str.occurrences l ⟨#[c]⟩ 0 l.length 1 = (c - 97) :: rest) ∧ c - 97 < n.length
def Rl.ren (n : Str) (R : Rl) : Rl := ⟨renS n R.c, renS n R.n, R.l.map (renP n), R.r.map (renP n)⟩
def sp_stands (K : PySem.W.Frag) : Sp := fun vs H Q E => ∃ (k : Int) (a : Addr) (R : Rl) (w : Str), vs = [.int k, .ref a, .str w] ∧ RuleAt K H a R ∧ R.Small ∧ w.length ≤ 1000000 ∧
  OrE K H E (errRW k R w) fun H' => ∀ p H'', H' p = none → Same H' H'' → H'' p = some (.lst ((stood R w).map fun i => V.int (i : Nat))) → Q (.ref p) H''
def sp_changed (K : PySem.W.Frag) : Sp := fun vs H Q E => ∃ (k : Int) (a : Addr) (R : Rl) (w : Str), vs = [.int k, .ref a, .str w] ∧ RuleAt K H a R ∧ R.Small ∧ w.length ≤ 10000 ∧
  OrE K H E (errRW k R w) fun H' => Q (.str (jn (parts R w))) H'
def sp_turned (K : PySem.W.Frag) : Sp := fun vs H Q E => ∃ (k : Int) (a : Addr) (R : Rl), vs = [.int k, .ref a] ∧ RuleAt K H a R ∧ R.Small ∧
  OrE K H E (errR k R) fun H' => ∀ q H'', Same H' H'' → RuleAt K H'' q R.turn → Q (.ref q) H''
def sp_renamed_letters (K : PySem.W.Frag) : Sp := fun vs H Q E => ∃ l n w : Str, vs = [.str l, .str n, .str w] ∧ RenOk l n w ∧ l.length ≤ 1000 ∧ n.length ≤ 1000 ∧ w.length ≤ 10000 ∧ ∀ H', Same H H' → Q (.str (renS n w)) H'
def sp_renamed_places (K : PySem.W.Frag) : Sp := fun vs H Q E => ∃ (l n : Str) (a : Addr) (ps : List Str), vs = [.str l, .str n, .ref a] ∧ SqT K H a (ps.map V.str) ∧ (∀ p ∈ ps, p ≠ "#" → RenOk l n p ∧ p.length < 64) ∧ ps.length ≤ sizeLine ∧ l.length ≤ 1000 ∧ n.length ≤ 1000 ∧
  ∀ q H', Same H H' → SqT K H' q ((ps.map (renP n)).map V.str) → Q (.ref q) H'
def sp_renamed_word (K : PySem.W.Frag) : Sp := fun vs H Q E => ∃ (k : Int) (w n : Str), vs = [.int k, .str w, .str n] ∧ w.length ≤ 10000 ∧ n.length < 64 ∧ (errWN k w n = none → RenOk (letters k) n w) ∧
  OrE K H E (errWN k w n) fun H' => Q (.str (renS n w)) H'
def sp_renamed (K : PySem.W.Frag) : Sp := fun vs H Q E => ∃ (k : Int) (a : Addr) (R : Rl) (n : Str), vs = [.int k, .ref a, .str n] ∧ RuleAt K H a R ∧ R.Small ∧ n.length < 64 ∧
  (errRN k R n = none → RenOk (letters k) n R.c ∧ RenOk (letters k) n R.n ∧ (∀ p ∈ R.l ++ R.r, p ≠ "#" → RenOk (letters k) n p ∧ p.length < 64)) ∧
  OrE K H E (errRN k R n) fun H' => ∀ q H'', Same H' H'' → RuleAt K H'' q (R.ren n) → Q (.ref q) H''

/-! ### the law's own helpers -/
def LetK (k : Int) (c : Nat) : Prop := 97 ≤ c ∧ ((c : Nat) : Int) < 97 + k
def WordIn (k : Int) (m : Int) (w : Str) : Prop := ((w.length : Nat) : Int) ≤ m ∧ ∀ c ∈ w.cps.toList, LetK k c
def placeOf (k : Nat) (b : Nat) : Str := tx (((List.range k).filter fun j => decide ((b / 2 ^ j) % 2 = 1)).map fun j => 97 + j)
theorem m1000 : (0 : Int) < 1000 := by decide
theorem abc_at : ∀ j, j < 6 → ("abcdef" : Str).cps.getD j 0 = 97 + j := by decide +kernel
theorem abc_len : ("abcdef" : Str).length = 6 := by decide +kernel
def sp_law_number (K : PySem.W.Frag) : Sp := fun vs H Q E => ∃ i : Int, vs = [.int i] ∧ Q (.int ((i.natAbs : Nat) : Int)) H
def sp_law_draws (K : PySem.W.Frag) : Sp := fun vs H Q E => ∃ (a : Addr) (ns : List Int), vs = [.ref a] ∧ SqL K H a (ns.map V.int) ∧ ns.length ≤ 63 ∧ ∀ d H', H d = none → Same H H' → Dw H' d → Q (.ref d) H'
def sp_law_next (K : PySem.W.Frag) : Sp := fun vs H Q E => ∃ d : Addr, vs = [.ref d] ∧ Dw H d ∧ ∀ (n : Int) (H' : Hp), 0 ≤ n → n < 1000 → Dw H' d → KeepX d H H' → Q (.int n) H'
def sp_law_string (K : PySem.W.Frag) : Sp := fun vs H Q E => ∃ (d : Addr) (k m : Int), vs = [.ref d, .int k, .int m] ∧ Dw H d ∧ 1 ≤ k ∧ k ≤ 6 ∧ 0 ≤ m ∧ m ≤ 1000 ∧ ∀ w H', WordIn k m w → Dw H' d → KeepX d H H' → Q (.str w) H'
def sp_law_place (K : PySem.W.Frag) : Sp := fun vs H Q E => ∃ (d : Addr) (k : Int), vs = [.ref d, .int k] ∧ Dw H d ∧ 2 ≤ k ∧ k ≤ 6 ∧ ∀ p H', isSet (letters k) p = true → Dw H' d → KeepX d H H' → Q (.str p) H'
def sp_law_context (K : PySem.W.Frag) : Sp := fun vs H Q E => ∃ (d : Addr) (k : Int), vs = [.ref d, .int k] ∧ Dw H d ∧ 2 ≤ k ∧ k ≤ 6 ∧
  ∀ (q : Addr) (ps : List Str) (H' : Hp), ps.length ≤ 2 → (∀ p ∈ ps, isSet (letters k) p = true) → H q = none → H' q = some (.lst (ps.map V.str)) → Dw H' d → KeepX d H H' → Q (.ref q) H'

/-! ### drawn places, contexts, rules -/
theorem iB {c : Bool} {A B : Prop} (a : c = true → A) (b : c = false → B) : if c = true then A else B := by
  cases h : c
  · exact iF rfl (b h)
  · exact iT rfl (a h)
theorem k_cases {P : Int → Prop} (h2 : P 2) (h3 : P 3) (h4 : P 4) (h5 : P 5) (h6 : P 6) {k : Int} (a : 2 ≤ k) (b : k ≤ 6) : P k := by
  have : k = 2 ∨ k = 3 ∨ k = 4 ∨ k = 5 ∨ k = 6 := by omega
  rcases this with e | e | e | e | e <;> rw [e] <;> assumption
theorem letters_list {k : Int} (a : 2 ≤ k) (b : k ≤ 6) : (letters k).cps.toList = (List.range k.toNat).map (97 + ·) :=
  k_cases (P := fun k => (letters k).cps.toList = (List.range k.toNat).map (97 + ·)) (by decide +kernel) (by decide +kernel) (by decide +kernel) (by decide +kernel) (by decide +kernel) a b
theorem mem_letters {k : Int} (a : 2 ≤ k) (b : k ≤ 6) (c : Nat) : c ∈ (letters k).cps.toList ↔ LetK k c := by
  rw [letters_list a b, List.mem_map]
  constructor
  · rintro ⟨j, hj, rfl⟩
    have := List.mem_range.mp hj
    constructor <;> omega
  · rintro ⟨h1, h2⟩
    exact ⟨c - 97, List.mem_range.mpr (by omega), by omega⟩
theorem numOk_of {k : Int} (a : 2 ≤ k) (b : k ≤ 6) : numOk k = true := by
  unfold numOk
  rw [decide_eq_true a, decide_eq_true b]
  rfl
theorem place_all : ∀ k, k < 7 → 2 ≤ k → ∀ b, b < 64 → 1 ≤ b → b < 2 ^ k → isSet (letters ((k : Nat) : Int)) (placeOf k b) = true := by decide +kernel
theorem pow_at : ∀ j, j < 6 → ([.int 1, .int 2, .int 4, .int 8, .int 16, .int 32] : List V).getD j .non = .int (((2 ^ j : Nat)) : Int)
  | 0, _ => rfl
  | 1, _ => rfl
  | 2, _ => rfl
  | 3, _ => rfl
  | 4, _ => rfl
  | 5, _ => rfl
  | j + 6, h => absurd h (by omega)
theorem at5 {i : Int} (h0 : 0 ≤ i) (h : i < 5) : ∃ m : Int, atI ([.int 0, .int 0, .int 1, .int 1, .int 2] : List V) i = some (.int m) ∧ 0 ≤ m ∧ m ≤ 2 := by
  have : i = 0 ∨ i = 1 ∨ i = 2 ∨ i = 3 ∨ i = 4 := by omega
  rcases this with e | e | e | e | e <;> rw [e]
  · exact ⟨0, rfl, by decide, by decide⟩
  · exact ⟨0, rfl, by decide, by decide⟩
  · exact ⟨1, rfl, by decide, by decide⟩
  · exact ⟨1, rfl, by decide, by decide⟩
  · exact ⟨2, rfl, by decide, by decide⟩
theorem at3 {i : Int} (h0 : 0 ≤ i) (h : i < 3) : ∃ m : Int, atI ([.int 1, .int 2, .int 3] : List V) i = some (.int m) ∧ 1 ≤ m ∧ m ≤ 3 := by
  have : i = 0 ∨ i = 1 ∨ i = 2 := by omega
  rcases this with e | e | e <;> rw [e]
  · exact ⟨1, rfl, by decide, by decide⟩
  · exact ⟨2, rfl, by decide, by decide⟩
  · exact ⟨3, rfl, by decide, by decide⟩
theorem strs_all {Pr : Str → Prop} : ∀ {ys : List V}, (∀ y ∈ ys, ∃ p, y = .str p ∧ Pr p) → ∃ ps : List Str, ys = ps.map V.str ∧ ∀ p ∈ ps, Pr p
  | [], _ => ⟨[], rfl, fun _ m => (nomatch m)⟩
  | y :: ys, h => by
    obtain ⟨ps, e, hp⟩ := strs_all (ys := ys) fun z m => h z (List.mem_cons_of_mem _ m)
    obtain ⟨p, e1, h1⟩ := h y List.mem_cons_self
    refine ⟨p :: ps, by rw [e, e1]; rfl, fun z m => ?_⟩
    rcases List.mem_cons.mp m with q | q
    · rw [q]; exact h1
    · exact hp z q
theorem cut_last (ps : List Str) : cutV (ps.map V.str) (some (-1)) none = (ps.drop (ps.length - 1)).map V.str := by
  unfold cutV
  have e : HT.sIx (ps.map V.str).length 0 (some (-1)) = ps.length - 1 := by
    unfold HT.sIx
    rw [List.length_map]
    show ((-1 : Int) + (ps.length : Int)).toNat = _
    omega
  have e2 : HT.sIx (ps.map V.str).length (ps.map V.str).length none = ps.length := by rw [HT.sIx_none, List.length_map]
  rw [e, e2, ← List.map_drop, List.take_of_length_le (by rw [List.length_map, List.length_drop]; exact Nat.le_refl _)]
theorem cut_first (ps : List Str) : cutV (ps.map V.str) none (some 1) = (ps.take 1).map V.str := by
  unfold cutV
  have e : HT.sIx (ps.map V.str).length 0 none = 0 := rfl
  have e2 : HT.sIx (ps.map V.str).length (ps.map V.str).length (some 1) = min 1 ps.length := by
    rw [List.length_map]
    exact HT.sIx_nat _ _ 1
  rw [e, e2, List.drop_zero, Nat.sub_zero, ← List.map_take]
  congr 1
  rw [Nat.min_def]
  split
  · rfl
  · rw [List.take_of_length_le (by omega), List.take_of_length_le (by omega)]
theorem isCtx_of {l : Str} {ps : List Str} {e : Int} (h2 : ps.length ≤ 2) (h : ∀ i, i < ps.length → ctxAt l (ps.getD i "") e (i : Nat) = true) : isCtx l ps e = true := by
  unfold isCtx
  rw [decide_eq_true (by omega), Bool.true_and]
  exact all_range_succ h
theorem getD_mem {ps : List Str} {i : Nat} (h : i < ps.length) : ps.getD i "" ∈ ps := by
  rw [List.getD_eq_getElem?_getD, List.getElem?_eq_getElem h]
  exact List.getElem_mem h
theorem isCtx_sets {l : Str} {ps : List Str} {e : Int} (h2 : ps.length ≤ 2) (h : ∀ p ∈ ps, isSet l p = true) : isCtx l ps e = true :=
  isCtx_of h2 fun i hi => by unfold ctxAt; rw [h _ (getD_mem hi)]; rfl
theorem isCtx_left {l : Str} {ps : List Str} (h2 : ps.length ≤ 1) (h : ∀ p ∈ ps, isSet l p = true) : isCtx l ("#" :: ps) 0 = true :=
  isCtx_of (by rw [List.length_cons]; omega) fun i hi => by
    cases i with
    | zero => unfold ctxAt; show (isSet l "#" || (decide ((0 : Int) = 0) && decide (("#" : Str) = "#"))) = true; simp
    | succ i =>
      rw [List.length_cons] at hi
      unfold ctxAt
      rw [List.getD_cons_succ, h _ (getD_mem (by omega))]
      rfl
theorem isCtx_right {l : Str} {ps : List Str} (h2 : ps.length ≤ 1) (h : ∀ p ∈ ps, isSet l p = true) : isCtx l (ps ++ [("#" : Str)]) (((ps ++ [("#" : Str)]).length : Int) - 1) = true :=
  isCtx_of (by rw [List.length_append]; show ps.length + 1 ≤ 2; omega) fun i hi => by
    have hl : (ps ++ [("#" : Str)]).length = ps.length + 1 := by rw [List.length_append]; rfl
    rw [hl] at hi ⊢
    unfold ctxAt
    by_cases c : i < ps.length
    · rw [List.getD_eq_getElem?_getD, List.getElem?_append_left c, ← List.getD_eq_getElem?_getD, h _ (getD_mem c)]
      rfl
    · have e : i = ps.length := by omega
      subst e
      rw [List.getD_eq_getElem?_getD, List.getElem?_append_right (Nat.le_refl _), Nat.sub_self, decide_eq_true (show ((ps.length : Nat) : Int) = ((ps.length + 1 : Nat) : Int) - 1 by omega)]
      simp
def sp_law_rule (K : PySem.W.Frag) : Sp := fun vs H Q E => ∃ (d : Addr) (k : Int), vs = [.ref d, .int k] ∧ Dw H d ∧ 2 ≤ k ∧ k ≤ 6 ∧
  ∀ (a : Addr) (R : Rl) (H' : Hp), RuleAt K H' a R → isRule k R = true → Dw H' d → KeepX d H H' → Q (.ref a) H'

/-! ### the law's own reckoning -/
def lawSign (w : Str) (i : Int) : Nat := if 0 ≤ i ∧ i < ((w.length : Nat) : Int) then w.cps.getD i.toNat 0 else 35
def lawFit (ps : List Str) (w : Str) (b : Int) : Bool := (List.range ps.length).all fun j => decide (lawSign w (b + ((j : Nat) : Int)) ∈ (ps.getD j "").cps.toList)
def lawThere (R : Rl) (w : Str) (i : Nat) : Bool := decide (tx [w.cps.getD i 0] = R.c) && (lawFit R.l w (((i : Nat) : Int) - ((R.l.length : Nat) : Int)) && lawFit R.r w (((i : Nat) : Int) + 1))
def lawParts (R : Rl) (w : Str) (n : Nat) : List Str := (List.range n).map fun i => if lawThere R w i = true then R.n else tx [w.cps.getD i 0]
def sp_law_at (K : PySem.W.Frag) : Sp := fun vs H Q E => ∃ (w : Str) (i : Int), vs = [.str w, .int i] ∧ w.length ≤ sizeLine ∧ Q (.str (tx [lawSign w i])) H
def sp_law_is_there (K : PySem.W.Frag) : Sp := fun vs H Q E => ∃ (a : Addr) (R : Rl) (w : Str) (i : Nat), vs = [.ref a, .str w, .int ((i : Nat) : Int)] ∧ RuleAt K H a R ∧ R.l.length ≤ 1000 ∧ R.r.length ≤ 1000 ∧ i < w.length ∧ w.length ≤ sizeLine ∧ Q (.bl (lawThere R w i)) H
def sp_law_changed (K : PySem.W.Frag) : Sp := fun vs H Q E => ∃ (a : Addr) (R : Rl) (w : Str), vs = [.ref a, .str w] ∧ RuleAt K H a R ∧ R.Small ∧ w.length ≤ 10000 ∧ Q (.str (jn (lawParts R w w.cps.size))) H
def sp_law_names (K : PySem.W.Frag) : Sp := fun vs H Q E => ∃ (d : Addr) (k : Int), vs = [.ref d, .int k] ∧ Dw H d ∧ 2 ≤ k ∧ k ≤ 6 ∧ ∀ (n : Str) (H' : Hp), n.cps.toList.Perm (letters k).cps.toList → Dw H' d → KeepX d H H' → Q (.str n) H'
def sp_law_renamed_set (K : PySem.W.Frag) : Sp := fun vs H Q E => ∃ p n : Str, vs = [.str p, .str n] ∧ (p ≠ "#" → RenOk "abcdef" n p ∧ 35 ∉ p.cps.toList) ∧ p.length < 64 ∧ n.length ≤ 1000 ∧ ∀ H', Same H H' → Q (.str (renP n p)) H'
def sp_law_renamed (K : PySem.W.Frag) : Sp := fun vs H Q E => ∃ (a : Addr) (R : Rl) (n : Str), vs = [.ref a, .str n] ∧ RuleAt K H a R ∧ R.Small ∧ R.c.length = 1 ∧ n.length ≤ 1000 ∧ RenOk "abcdef" n R.c ∧ RenOk "abcdef" n R.n ∧
  (∀ p ∈ R.l ++ R.r, p.length < 64 ∧ (p ≠ "#" → RenOk "abcdef" n p ∧ 35 ∉ p.cps.toList)) ∧ ∀ q H', Same H H' → RuleAt K H' q (R.ren n) → Q (.ref q) H'
theorem cut_take {xs : List V} {j : Nat} : cutV xs none (some ((j : Nat) : Int)) = xs.take j := by
  unfold cutV
  rw [HT.sIx_none, HT.sIx_nat, List.drop_zero, Nat.sub_zero, Nat.min_def]
  split
  · rfl
  · rw [List.take_of_length_le (by omega), List.take_of_length_le (by omega)]
theorem cut_drop {xs : List V} {j : Nat} : cutV xs (some ((j : Nat) : Int)) none = xs.drop j := by
  unfold cutV
  rw [HT.sIx_none, HT.sIx_nat]
  rw [List.take_of_length_le (by rw [List.length_drop]; exact Nat.le_refl _), Nat.min_def]
  split
  · rfl
  · rw [List.drop_of_length_le (by omega), List.drop_of_length_le (by omega)]
theorem take_drop_perm {α : Type} (d : α) : ∀ (l : List α) (j : Nat), j < l.length → (l.getD j d :: (l.take j ++ l.drop (j + 1))).Perm l
  | [], j, h => absurd h (Nat.not_lt_zero _)
  | a :: l, 0, _ => by simp
  | a :: l, j + 1, h => by
    rw [List.getD_cons_succ, List.take_succ_cons, List.drop_succ_cons, List.cons_append]
    exact (List.Perm.swap _ _ _).trans ((take_drop_perm d l j (by simpa using h)).cons a)
theorem errRW_in {k : Int} {R : Rl} {w : Str} {e : Er} (h : errRW k R w = some e) : e ∈ [Er.rule, .word, .number] := by
  unfold errRW at h
  split at h
  · split at h
    · split at h
      · cases h
      · cases h; decide
    · cases h; decide
  · cases h; decide
theorem errR_in {k : Int} {R : Rl} {e : Er} (h : errR k R = some e) : e ∈ [Er.rule, .word, .number] := by
  unfold errR at h
  split at h
  · split at h
    · cases h
    · cases h; decide
  · cases h; decide
theorem errRN_in {k : Int} {R : Rl} {n : Str} {e : Er} (h : errRN k R n = some e) : e ∈ [Er.rule, .word, .number] := by
  unfold errRN at h
  split at h
  · split at h
    · split at h
      · cases h
      · cases h; decide
    · cases h; decide
  · cases h; decide
theorem errWN_in {k : Int} {w n : Str} {e : Er} (h : errWN k w n = some e) : e ∈ [Er.rule, .word, .number] := by
  unfold errWN at h
  split at h
  · split at h
    · split at h
      · cases h
      · cases h; decide
    · cases h; decide
  · cases h; decide

/-! ### what a rule is made of -/
def PlaceIn (k : Int) (p : Str) : Prop := p = "#" ∨ (p.length ≤ 6 ∧ ∀ c ∈ p.cps.toList, LetK k c)
structure Made (k : Int) (R : Rl) : Prop where
  c1 : R.c.length = 1
  c : ∀ c ∈ R.c.cps.toList, LetK k c
  n3 : R.n.length ≤ 3
  n : ∀ c ∈ R.n.cps.toList, LetK k c
  l2 : R.l.length ≤ 2
  r2 : R.r.length ≤ 2
  l : ∀ p ∈ R.l, PlaceIn k p
  r : ∀ p ∈ R.r, PlaceIn k p
theorem isSet_in {k : Int} (a : 2 ≤ k) (b : k ≤ 6) {p : Str} (h : isSet (letters k) p = true) : PlaceIn k p := by
  unfold isSet at h
  rw [Bool.and_eq_true, decide_eq_true_eq] at h
  have e : p.cps.toList = picked (letters k) p := by
    have := congrArg (fun s : Str => s.cps.toList) h.2
    exact this
  refine .inr ⟨?_, fun c m => ?_⟩
  · have hl : p.length = p.cps.toList.length := Array.length_toList.symm
    have h1 : (picked (letters k) p).length ≤ (letters k).cps.toList.length := List.length_filter_le _ _
    have h2 : (letters k).cps.toList.length ≤ 6 := by rw [Array.length_toList]; exact letters_len k
    rw [hl, e]
    omega
  · rw [e] at m
    exact (mem_letters a b c).mp (List.mem_filter.mp m).1
theorem isCtx_in {k : Int} (a : 2 ≤ k) (b : k ≤ 6) {ps : List Str} {e : Int} (h : isCtx (letters k) ps e = true) : ps.length ≤ 2 ∧ ∀ p ∈ ps, PlaceIn k p := by
  unfold isCtx at h
  rw [Bool.and_eq_true, decide_eq_true_eq, List.all_eq_true] at h
  refine ⟨by omega, fun p m => ?_⟩
  obtain ⟨i, hi, rfl⟩ := List.getElem_of_mem m
  have := h.2 i (List.mem_range.mpr hi)
  rw [List.getD_eq_getElem?_getD, List.getElem?_eq_getElem hi] at this
  unfold ctxAt at this
  rw [Bool.or_eq_true] at this
  rcases this with z | z
  · exact isSet_in a b z
  · rw [Bool.and_eq_true, decide_eq_true_eq, decide_eq_true_eq] at z
    exact .inl z.2
theorem isNew_in {k : Int} (a : 2 ≤ k) (b : k ≤ 6) {n : Str} (h : isNew (letters k) n = true) : n.length ≤ 3 ∧ ∀ c ∈ n.cps.toList, LetK k c := by
  unfold isNew at h
  rw [Bool.and_eq_true, decide_eq_true_eq, strip_iff, List.all_eq_true] at h
  exact ⟨by omega, fun c m => (mem_letters a b c).mp (of_decide_eq_true (h.2 c m))⟩
theorem isRule_made {k : Int} (a : 2 ≤ k) (b : k ≤ 6) {R : Rl} (h : isRule k R = true) : Made k R := by
  unfold isRule at h
  rw [Bool.and_eq_true, Bool.and_eq_true, Bool.and_eq_true, Bool.and_eq_true, decide_eq_true_eq, decide_eq_true_eq] at h
  obtain ⟨⟨⟨⟨h1, h2⟩, h3⟩, h4⟩, h5⟩ := h
  have n := isNew_in a b h3
  have l := isCtx_in a b h4
  have r := isCtx_in a b h5
  have c1 : R.c.length = 1 := by omega
  refine ⟨c1, fun c m => ?_, n.1, n.2, l.1, r.1, l.2, r.2⟩
  rw [oneS c1] at m
  rw [List.mem_singleton.mp m]
  exact (mem_letters a b _).mp h2
theorem PlaceIn.len {k : Int} {p : Str} (h : PlaceIn k p) : p.length ≤ 6 := by
  rcases h with e | e
  · rw [e]; decide
  · exact e.1
theorem Made.small {k : Int} {R : Rl} (h : Made k R) : R.Small :=
  ⟨by have := h.c1; omega, by have := h.n3; omega, by have := h.l2; omega, by have := h.r2; omega, fun p m => by have := (h.l p m).len; omega, fun p m => by have := (h.r p m).len; omega⟩
theorem LetK.lt {k : Int} {c : Nat} (h : LetK k c) (b : k ≤ 6) : 97 ≤ c ∧ c < 103 := ⟨h.1, by have := h.2; omega⟩
theorem PlaceIn.no35 {k : Int} {p : Str} (h : PlaceIn k p) (n : p ≠ "#") : 35 ∉ p.cps.toList := fun m => by
  rcases h with e | e
  · exact n e
  · have := (e.2 _ m).1
    omega
/-! ### standing, by the program and by the law -/
theorem fits_law {k : Int} {p w : Str} {i : Int} (h : PlaceIn k p) : fits p w i = decide (lawSign w i ∈ p.cps.toList) := by
  unfold fits lawSign
  by_cases c : i < 0 ∨ ((w.length : Nat) : Int) ≤ i
  · rw [if_pos c, if_neg (by omega)]
    by_cases e : p = "#"
    · rw [decide_eq_true e, e]
      rfl
    · rw [decide_eq_false e, decide_eq_false (h.no35 e)]
  · rw [if_neg c, if_pos (by omega)]
theorem allFit_law {k : Int} {ps : List Str} {w : Str} {b : Int} (h : ∀ p ∈ ps, PlaceIn k p) : allFit ps w b = lawFit ps w b := by
  unfold allFit lawFit
  rw [Bool.eq_iff_iff, List.all_eq_true, List.all_eq_true]
  refine forall_congr' fun j => forall_congr' fun m => ?_
  rw [fits_law (h _ (getD_mem (List.mem_range.mp m)))]
theorem stands_law {k : Int} {R : Rl} {w : Str} {i : Nat} (h : Made k R) : standsAt R w i = lawThere R w i := by
  unfold standsAt lawThere
  rw [allFit_law h.l, allFit_law h.r]
theorem stood_law {k : Int} {R : Rl} {w : Str} (h : Made k R) : stood R w = (List.range w.cps.size).filter (lawThere R w) := by
  unfold stood
  congr 1
  funext i
  exact stands_law h
theorem parts_law {k : Int} {R : Rl} {w : Str} (h : Made k R) : parts R w = lawParts R w w.cps.size := by
  unfold parts lawParts
  congr 1
  funext i
  rw [stands_law h]
/-! ### names -/
theorem occ_k : ∀ k, k < 7 → 2 ≤ k → ∀ j, j < k → Builtin.Str.occurrences (letters ((k : Nat) : Int)) ⟨#[97 + j]⟩ 0 (letters ((k : Nat) : Int)).length 1 = [j] := by decide +kernel
theorem occ_6 : ∀ j, j < 6 → Builtin.Str.occurrences "abcdef" ⟨#[97 + j]⟩ 0 ("abcdef" : Str).length 1 = [j] := by decide +kernel
structure Names (k : Int) (n : Str) : Prop where
  pm : n.cps.toList.Perm (letters k).cps.toList
theorem letters_n {k : Int} (a : 2 ≤ k) (b : k ≤ 6) : (letters k).cps.toList.length = k.toNat := by rw [letters_list a b, List.length_map, List.length_range]
theorem letters_nodup {k : Int} (a : 2 ≤ k) (b : k ≤ 6) : (letters k).cps.toList.Nodup :=
  k_cases (P := fun k => (letters k).cps.toList.Nodup) (by decide +kernel) (by decide +kernel) (by decide +kernel) (by decide +kernel) (by decide +kernel) a b
theorem letters_sorted {k : Int} (a : 2 ≤ k) (b : k ≤ 6) : (letters k).cps.toList.Pairwise (· ≤ ·) :=
  k_cases (P := fun k => (letters k).cps.toList.Pairwise (· ≤ ·)) (by decide +kernel) (by decide +kernel) (by decide +kernel) (by decide +kernel) (by decide +kernel) a b
theorem Names.len {k : Int} {n : Str} (h : Names k n) (a : 2 ≤ k) (b : k ≤ 6) : n.length = k.toNat := by
  have := h.pm.length_eq
  rw [letters_n a b, Array.length_toList] at this
  exact this
theorem Names.ok {k : Int} {n : Str} (h : Names k n) (a : 2 ≤ k) (b : k ≤ 6) : namesOk k n = true := by
  unfold namesOk
  refine decide_eq_true ?_
  rw [tx_of (letters k)]
  congr 1
  congr 1
  exact (sortN_uniq h.pm.symm (letters_sorted a b)).symm
theorem namesOk_perm {k : Int} {n : Str} (h : namesOk k n = true) : n.cps.toList.Perm (letters k).cps.toList := by
  unfold namesOk at h
  have e := of_decide_eq_true h
  have := congrArg (fun s : Str => s.cps.toList) e
  rw [← this]
  exact (sortN_perm _).symm
theorem Names.mem {k : Int} {n : Str} (h : Names k n) (a : 2 ≤ k) (b : k ≤ 6) {c : Nat} (hc : c ∈ n.cps.toList) : LetK k c := (mem_letters a b c).mp (h.pm.mem_iff.mp hc)
theorem Names.renK {k : Int} {n w : Str} (h : Names k n) (a : 2 ≤ k) (b : k ≤ 6) (hw : ∀ c ∈ w.cps.toList, LetK k c) : RenOk (letters k) n w := fun c m => by
  obtain ⟨kn, rfl⟩ : ∃ kn : Nat, k = (kn : Int) := ⟨k.toNat, by omega⟩
  have hc := hw c m
  have hl := h.len a b
  refine ⟨⟨[], ?_⟩, ?_⟩
  · have := occ_k kn (by omega) (by omega) (c - 97) (by have := hc.1; have := hc.2; omega)
    rw [show 97 + (c - 97) = c by have := hc.1; omega] at this
    exact this
  · have := hc.1
    have := hc.2
    omega
theorem Names.ren6 {k : Int} {n w : Str} (h : Names k n) (a : 2 ≤ k) (b : k ≤ 6) (hw : ∀ c ∈ w.cps.toList, LetK k c) : RenOk "abcdef" n w := fun c m => by
  have hc := hw c m
  have hl := h.len a b
  refine ⟨⟨[], ?_⟩, ?_⟩
  · have := occ_6 (c - 97) (by have := hc.1; have := hc.2; omega)
    rw [show 97 + (c - 97) = c by have := hc.1; omega] at this
    exact this
  · have := hc.1
    have := hc.2
    omega
theorem Names.renS {k : Int} {n w : Str} (h : Names k n) (a : 2 ≤ k) (b : k ≤ 6) (hw : ∀ c ∈ w.cps.toList, LetK k c) : ∀ c ∈ (renS n w).cps.toList, LetK k c := fun c m => by
  have m : c ∈ w.cps.toList.map (ren n) := m
  obtain ⟨x, hx, rfl⟩ := List.mem_map.mp m
  have hc := hw x hx
  have hl := h.len a b
  refine h.mem a b ?_
  unfold ren
  have hi : x - 97 < n.cps.size := by
    have := hc.1
    have := hc.2
    have e : n.cps.size = n.length := rfl
    omega
  rw [Array.getD_eq_getD_getElem?, Array.getElem?_eq_getElem hi]
  exact Array.getElem_mem_toList hi
theorem renS_len (n w : Str) : (renS n w).length = w.length := by
  unfold renS
  rw [tx_len, List.length_map, Array.length_toList]
  rfl
/-! ### shown -/
structure Fine (R : Rl) : Prop where
  c : R.c.length ≤ 100 ∧ ∀ x ∈ R.c.cps.toList, x < 1000
  n : R.n.length ≤ 100 ∧ ∀ x ∈ R.n.cps.toList, x < 1000
  l2 : R.l.length ≤ 10
  r2 : R.r.length ≤ 10
  l : ∀ p ∈ R.l, p.length ≤ 100 ∧ ∀ x ∈ p.cps.toList, x < 1000
  r : ∀ p ∈ R.r, p.length ≤ 100 ∧ ∀ x ∈ p.cps.toList, x < 1000
def Rl.data (R : Rl) : PyData := .tuple [.str R.c, .str R.n, .tuple (R.l.map PyData.str), .tuple (R.r.map PyData.str)]
theorem RuleAt.dp {K : PySem.W.Frag} {H : Hp} {a : Addr} {R : Rl} (h : RuleAt K H a R) : Dp K H (.ref a) R.data := by
  obtain ⟨al, ar, h1, h2, h3⟩ := h.ex
  exact .tup h1 (.cons (.str _) (.cons (.str _) (.cons (.tup h2 (dp_strs _)) (.cons (.tup h3 (dp_strs _)) .nil))))
theorem easy_strs {ps : List Str} (h2 : ps.length ≤ 10) (h : ∀ p ∈ ps, p.length ≤ 100 ∧ ∀ x ∈ p.cps.toList, x < 1000) : Easy 1010 1 (.tuple (ps.map PyData.str)) := by
  refine Easy.tup (n := 100) (k := 0) (fun d m => ?_) ?_
  · obtain ⟨p, hp, rfl⟩ := List.mem_map.mp m
    exact .str (h p hp).2 (h p hp).1
  · rw [List.length_map]
    omega
theorem Fine.show {R : Rl} (h : Fine R) : ShowOk R.data := by
  have e : Easy 4044 2 R.data := by
    refine Easy.tup (n := 1010) (k := 1) (fun d m => ?_) (by show 4 * _ ≤ _; decide)
    rcases List.mem_cons.mp m with rfl | m
    · exact (Easy.str (k := 0) h.c.2 h.c.1).mono (by decide) (by decide)
    · rcases List.mem_cons.mp m with rfl | m
      · exact (Easy.str (k := 0) h.n.2 h.n.1).mono (by decide) (by decide)
      · rcases List.mem_cons.mp m with rfl | m
        · exact easy_strs h.l2 h.l
        · rw [List.mem_singleton.mp m]
          exact easy_strs h.r2 h.r
  exact e.show (by decide) (by decide)
theorem LetK.small {k : Int} {l : List Nat} (b : k ≤ 6) (h : ∀ c ∈ l, LetK k c) : ∀ c ∈ l, c < 1000 := fun c m => by
  have := ((h c m).lt b).2
  omega
theorem PlaceIn.small {k : Int} {p : Str} (h : PlaceIn k p) (b : k ≤ 6) : p.length ≤ 100 ∧ ∀ x ∈ p.cps.toList, x < 1000 := by
  rcases h with e | e
  · rw [e]; decide
  · exact ⟨by have := e.1; omega, LetK.small b e.2⟩
theorem Made.fine {k : Int} {R : Rl} (h : Made k R) (b : k ≤ 6) : Fine R :=
  ⟨⟨by have := h.c1; omega, LetK.small b h.c⟩, ⟨by have := h.n3; omega, LetK.small b h.n⟩, by have := h.l2; omega, by have := h.r2; omega, fun p m => (h.l p m).small b, fun p m => (h.r p m).small b⟩
theorem Made.turn {k : Int} {R : Rl} (h : Made k R) : Made k R.turn :=
  ⟨h.c1, h.c, by
    show (tx R.n.cps.toList.reverse).length ≤ 3
    rw [tx_len, List.length_reverse, Array.length_toList]
    exact h.n3, fun c m => h.n c (List.mem_reverse.mp m), by show R.r.reverse.length ≤ 2; rw [List.length_reverse]; exact h.r2, by show R.l.reverse.length ≤ 2; rw [List.length_reverse]; exact h.l2,
    fun p m => h.r p (List.mem_reverse.mp m), fun p m => h.l p (List.mem_reverse.mp m)⟩
theorem renP_in {k : Int} {n p : Str} (h : Names k n) (a : 2 ≤ k) (b : k ≤ 6) (hp : PlaceIn k p) : PlaceIn k (renP n p) := by
  unfold renP
  by_cases e : p = "#"
  · rw [if_pos e]
    exact .inl e
  · rw [if_neg e]
    have hp2 := hp.resolve_left e
    refine .inr ⟨?_, fun c m => ?_⟩
    · rw [tx_len, (sortN_perm _).length_eq, Array.length_toList]
      have := renS_len n p
      have e2 : (renS n p).cps.size = (renS n p).length := rfl
      have := hp2.1
      omega
    · exact h.renS a b hp2.2 c ((sortN_perm _).mem_iff.mp m)
theorem Made.ren {k : Int} {R : Rl} {n : Str} (h : Made k R) (hn : Names k n) (a : 2 ≤ k) (b : k ≤ 6) : Made k (R.ren n) := by
  refine ⟨?_, hn.renS a b h.c, ?_, hn.renS a b h.n, ?_, ?_, ?_, ?_⟩
  · show (renS n R.c).length = 1
    rw [renS_len]; exact h.c1
  · show (renS n R.n).length ≤ 3
    rw [renS_len]; exact h.n3
  · show (R.l.map (renP n)).length ≤ 2
    rw [List.length_map]; exact h.l2
  · show (R.r.map (renP n)).length ≤ 2
    rw [List.length_map]; exact h.r2
  · intro p m
    obtain ⟨q, hq, rfl⟩ := List.mem_map.mp (show p ∈ R.l.map (renP n) from m)
    exact renP_in hn a b (h.l q hq)
  · intro p m
    obtain ⟨q, hq, rfl⟩ := List.mem_map.mp (show p ∈ R.r.map (renP n) from m)
    exact renP_in hn a b (h.r q hq)
/-! ### words -/
theorem isWord_in {k : Int} (a : 2 ≤ k) (b : k ≤ 6) {w : Str} (hl : w.length ≤ 60) (h : ∀ c ∈ w.cps.toList, LetK k c) : isWord k w = true := by
  unfold isWord
  rw [decide_eq_true (by omega), decide_eq_true (strip_all fun c m => (mem_letters a b c).mpr (h c m))]
  rfl
theorem isWord_bad {k : Int} (a : 2 ≤ k) (b : k ≤ 6) {w : Str} {c : Nat} (h : c ∈ w.cps.toList) (n : ¬ LetK k c) : isWord k w = false := by
  unfold isWord
  rw [decide_eq_false (strip_not h fun m => n ((mem_letters a b c).mp m)), Bool.and_false]
theorem isWord_long {k : Int} {w : Str} (h : 60 < w.length) : isWord k w = false := by
  unfold isWord
  rw [decide_eq_false (by omega), Bool.false_and]
theorem bad_rule {k : Int} {c n : Str} {ps r : List Str} (h : 2 < ps.length) : isRule k ⟨c, n, ps, r⟩ = false := by
  have e : isCtx (letters k) ps 0 = false := by
    unfold isCtx
    rw [decide_eq_false (by omega), Bool.false_and]
  unfold isRule
  show (_ && isCtx (letters k) ps 0 && _) = false
  rw [e, Bool.and_false, Bool.false_and]

theorem RuleAt.keep {K : PySem.W.Frag} {d a : Addr} {R : Rl} {H H' : Hp} (h : RuleAt K H a R) (x : KeepX d H H') (dw : Dw H d) : RuleAt K H' a R := by
  obtain ⟨al, ar, h1, h2, h3⟩ := h.ex
  exact ⟨al, ar, x.sqT h1 dw, x.sqT h2 dw, x.sqT h3 dw⟩
/-- names that are no arrangement -/
structure Wrong (k : Int) (wr : Str) : Prop where
  no : namesOk k wr = false
  len : wr.length < 64
theorem wrong_of {k : Int} {wr : Str} (h : ¬ wr.cps.toList.Perm (letters k).cps.toList) (l : wr.length < 64) : Wrong k wr := by
  refine ⟨?_, l⟩
  cases e : namesOk k wr with
  | false => rfl
  | true => exact absurd (namesOk_perm e) h
theorem wrong_len {k : Int} (a : 2 ≤ k) (b : k ≤ 6) {wr : Str} (h : wr.length ≠ k.toNat) (l : wr.length < 64) : Wrong k wr :=
  wrong_of (fun p => h (by
    have := p.length_eq
    rw [letters_n a b, Array.length_toList] at this
    exact this)) l
theorem cut_init (z : Str) : (cutS z none (some (-1))).cps.toList = z.cps.toList.take (z.length - 1) := by
  unfold cutS
  have e : HT.sIx z.length z.length (some (-1)) = z.length - 1 := by
    show ((-1 : Int) + (z.length : Int)).toNat = _
    omega
  rw [e, HT.sIx_none, List.drop_zero, Nat.sub_zero]
theorem wrongs {k : Int} {n : Str} (a : 2 ≤ k) (b : k ≤ 6) (h : Names k n) (c0 : Nat) (hc : c0 = n.cps.getD 0 0) :
    ∀ wr ∈ [cutS n (some 1) none, n ++ "a", cutS n none (some (-1)) ++ "g", cutS n none (some (-1)) ++ tx [c0], ""], Wrong k wr := by
  have hl := h.len a b
  have hz : n.cps.size = n.length := rfl
  have hzl : n.cps.toList.length = n.length := Array.length_toList
  intro wr m
  rcases List.mem_cons.mp m with rfl | m
  · have e : (cutS n (some 1) none).length = n.length - 1 := by
      unfold cutS
      show (List.toArray _).size = _
      rw [List.size_toArray, List.length_take, List.length_drop, HT.sIx_none, show HT.sIx n.length 0 (some 1) = min 1 n.length from HT.sIx_nat _ _ 1, Array.length_toList]
      omega
    exact wrong_len a b (by rw [e]; omega) (by rw [e]; omega)
  · rcases List.mem_cons.mp m with rfl | m
    · have e : (n ++ ("a" : Str)).length = n.length + 1 := by
        conv => lhs; rw [tx_of n]
        show (tx n.cps.toList ++ tx [97]).length = _
        rw [tx_app, tx_len, List.length_append, hzl]
        rfl
      exact wrong_len a b (by rw [e]; omega) (by rw [e]; omega)
    · rcases List.mem_cons.mp m with rfl | m
      · have e : (cutS n none (some (-1)) ++ ("g" : Str)) = tx (n.cps.toList.take (n.length - 1) ++ [103]) := by
          rw [tx_of (cutS n none (some (-1))), cut_init]
          exact tx_app _ [103]
        rw [e]
        refine wrong_of (fun p => ?_) ?_
        · have m103 : 103 ∈ (letters k).cps.toList := p.mem_iff.mp (List.mem_append_right _ List.mem_cons_self)
          have := ((mem_letters a b 103).mp m103).2
          omega
        · rw [tx_len, List.length_append, List.length_take]
          show _ + 1 < 64
          omega
      · rcases List.mem_cons.mp m with rfl | m
        · have e : (cutS n none (some (-1)) ++ tx [c0]) = tx (n.cps.toList.take (n.length - 1) ++ [c0]) := by
            rw [tx_of (cutS n none (some (-1))), cut_init, tx_app]
          rw [e]
          refine wrong_of (fun p => ?_) ?_
          · have nd := p.nodup_iff.mpr (letters_nodup a b)
            have nd2 : (n.cps.toList.take (n.length - 1) ++ [c0]).Nodup := nd
            rw [List.nodup_append] at nd2
            refine nd2.2.2 c0 ?_ c0 List.mem_cons_self rfl
            rw [hc]
            have h1 : 0 < n.cps.toList.length := by omega
            have e0 : n.cps.getD 0 0 = (n.cps.toList.take (n.length - 1))[0]'(by rw [List.length_take]; omega) := by
              rw [List.getElem_take, Array.getElem_toList, Array.getD_eq_getD_getElem?, Array.getElem?_eq_getElem (by omega)]
              rfl
            rw [e0]
            exact List.getElem_mem _
          · rw [tx_len, List.length_append, List.length_take]
            show _ + 1 < 64
            omega
        · rw [List.mem_singleton.mp m]
          exact wrong_len a b (by show 0 ≠ k.toNat; omega) (by decide)
theorem at5s {i : Int} (h0 : 0 ≤ i) (h : i < 5) (a b c d e : Str) : ∃ z ∈ [a, b, c, d, e], atI [V.str a, V.str b, V.str c, V.str d, V.str e] i = some (.str z) := by
  have : i = 0 ∨ i = 1 ∨ i = 2 ∨ i = 3 ∨ i = 4 := by omega
  rcases this with q | q | q | q | q <;> rw [q]
  · exact ⟨a, by simp, rfl⟩
  · exact ⟨b, by simp, rfl⟩
  · exact ⟨c, by simp, rfl⟩
  · exact ⟨d, by simp, rfl⟩
  · exact ⟨e, by simp, rfl⟩
def bools : Bool → Bool → PyData := fun a b => .list [.bool a, .bool b]
theorem dp_bools {K : PySem.W.Frag} {H : Hp} {p : Addr} {a b : Bool} (h : H p = some (.lst [.bl a, .bl b])) : Dp K H (.ref p) (bools a b) :=
  .lst (.inl (Rd.of h)) (.cons (.bl a) (.cons (.bl b) .nil))
theorem eqv_ft : PyData.eqv (bools false true) (bools false true) = true := by decide +kernel
theorem eqv_tf : PyData.eqv (bools true false) (bools true false) = true := by decide +kernel
theorem ne_same {s t : Str} (h : s = t) : (!decide (V.str s = V.str t)) = false := by rw [h, decide_eq_true rfl]; rfl
end K

set_option Elab.async false
set_option linter.all false
set_option maxRecDepth 100000
set_option maxHeartbeats 4000000
namespace K
open PySem PySem.Spec PyProof.Rows L2 Sv
def tTru (K : PySem.W.Frag) (te : TE) : TT := fun σ H Q => te σ H fun x H' => ∃ k, TruV K x H' k ∧ Q k H'
theorem pt_truthK {X : Cx} {K : PySem.W.Frag} {e : Expr} {te : TE} (hK : X.K = K) (ha : PE X e te) (he : ∀ whole, isTrue e X.env whole = (do let v ← whole; standAt e.pos; holding [v] (truthy v))) :
    PT X e (tTru K te) := by
  subst hK
  exact pt_truth ha he
/-! ### a caught error of the program, as isinstance sees it -/
def excB (K : PySem.W.Frag) (D : Addr) : Bool :=
  He.eqO (PySem.W.findIn K (.ref D) "__getattribute__") (some (some (.builtin "BaseException.__getattribute__"))) && (He.eqO (PySem.W.findIn K (.ref D) "__getattr__") (some none) &&
    (decide (PySem.W.subIn K (.ref D) (.type "BaseException") = some true) && (PySem.W.hasDictIn K D && (He.eqO (PySem.W.findIn K (.ref D) "__class__") (some (some (.builtin "object.__class__"))) &&
      (He.eqO (PySem.W.specialIn K (.builtin "object.__class__") "__get__") (some (some (.builtin "getset_descriptor.__get__"))) && (decide (PySem.W.takesIn K (.builtin "object.__class__") = some true) && decide (PySem.W.mroIn K D (.type "object") = some true)))))))
theorem excB_ok {K : PySem.W.Frag} {D : Addr} (h : excB K D = true) : ExcC K D := by
  obtain ⟨h1, h⟩ := He.ba h
  obtain ⟨h2, h⟩ := He.ba h
  obtain ⟨h3, h⟩ := He.ba h
  obtain ⟨h4, h⟩ := He.ba h
  obtain ⟨h5, h⟩ := He.ba h
  obtain ⟨h6, h⟩ := He.ba h
  obtain ⟨h7, h8⟩ := He.ba h
  exact ⟨He.eqO_ok h1, He.eqO_ok h2, of_decide_eq_true h3, h4, He.eqO_ok h5, He.eqO_ok h6, of_decide_eq_true h7, of_decide_eq_true h8⟩
/-- isinstance of an error of one kind, asked of another's class -/
def isB (K : PySem.W.Frag) (e c : Er) : Bool := decide (PySem.W.kitOne K (.ref (He.ga K e.nm)) (.ref (He.ga K c.nm)) = some (decide (e = c)))
theorem isB_ok {K : PySem.W.Frag} {e c : Er} (h : isB K e c = true) : PySem.W.kitOne K (.ref (He.ga K e.nm)) (.ref (He.ga K c.nm)) = some (decide (e = c)) := of_decide_eq_true h
def errsB (K : PySem.W.Frag) (es cs : List Er) : Bool := es.all fun e => excB K (He.ga K e.nm) && cs.all fun c => isB K e c
theorem errsB_ok {K : PySem.W.Frag} {es cs : List Er} (h : errsB K es cs = true) (e : Er) (m : e ∈ es) : ExcC K (He.ga K e.nm) ∧ ∀ c ∈ cs, PySem.W.kitOne K (.ref (He.ga K e.nm)) (.ref (He.ga K c.nm)) = some (decide (e = c)) := by
  obtain ⟨h2, h3⟩ := He.ba (List.all_eq_true.mp h e m)
  exact ⟨excB_ok h2, fun c mc => isB_ok (List.all_eq_true.mp h3 c mc)⟩
end K

set_option Elab.async false
set_option linter.all false
set_option maxRecDepth 100000
set_option maxHeartbeats 4000000
namespace K
open PySem PySem.Spec PyProof.Rows L2 Sv
theorem pT {p : Prop} [Decidable p] {A B : Prop} (h : p) (a : A) : if p then A else B := by rw [if_pos h]; exact a
theorem pF {p : Prop} [Decidable p] {A B : Prop} (h : ¬ p) (b : B) : if p then A else B := by rw [if_neg h]; exact b
/-! ### lists of rules -/
def Rl.nil : Rl := ⟨"", "", [], []⟩
structure RulesAt (K : PySem.W.Frag) (H : Hp) (a : Addr) (Rs : List Rl) : Prop where
  mk ::
  ex : ∃ as : List Addr, SqT K H a (as.map V.ref) ∧ as.length = Rs.length ∧ ∀ i, i < Rs.length → RuleAt K H (as.getD i 0) (Rs.getD i Rl.nil)
theorem RulesAt.same {K : PySem.W.Frag} {H H' : Hp} {a : Addr} {Rs : List Rl} (h : RulesAt K H a Rs) (s : Same H H') : RulesAt K H' a Rs := by
  obtain ⟨as, h1, h2, h3⟩ := h.ex
  exact ⟨as, same_t s h1, h2, fun i hi => (h3 i hi).same s⟩
theorem ref_at {as : List Addr} {i : Nat} {x : V} (h : (as.map V.ref)[i]? = some x) : i < as.length ∧ x = .ref (as.getD i 0) := by
  rw [List.getElem?_map] at h
  by_cases c : i < as.length
  · rw [List.getElem?_eq_getElem c] at h
    refine ⟨c, ?_⟩
    rw [List.getD_eq_getElem?_getD, List.getElem?_eq_getElem c]
    exact (Option.some.inj h).symm
  · rw [List.getElem?_eq_none (by omega)] at h
    cases h
theorem getD_rl {Rs : List Rl} {i : Nat} (h : i < Rs.length) : Rs.getD i Rl.nil ∈ Rs := by
  rw [List.getD_eq_getElem?_getD, List.getElem?_eq_getElem h]
  exact List.getElem_mem h
def isRules (k : Int) (Rs : List Rl) : Bool := decide (((Rs.length : Nat) : Int) ≤ 8) && Rs.all (isRule k)
def change (R : Rl) (w : Str) : Str := jn (parts R w)
def formOf (Rs : List Rl) (w : Str) : Str := Rs.foldl (fun w R => change R w) w
def stepsOf : List Rl → Str → List Str
  | [], w => [w]
  | R :: Rs, w => w :: stepsOf Rs (change R w)
/-- a word on the way has more than 2000 letters -/
def big : List Rl → Str → Bool
  | [], _ => false
  | R :: Rs, w => decide (2000 < (change R w).length) || big Rs (change R w)
def errL (k : Int) (Rs : List Rl) (w : Str) : Option Er := if numOk k = true then (if isRules k Rs = true then (if isWord k w = true then none else some .word) else some .rule) else some .number
def errS (k : Int) (Rs : List Rl) (w : Str) : Option Er := match errL k Rs w with
  | some e => some e
  | none => if big Rs w = true then some .large else none
def acted (Rs : List Rl) (w : Str) : List Nat := (List.range Rs.length).filter fun i => !(stood (Rs.getD i Rl.nil) (formOf (Rs.take i) w)).isEmpty
theorem take_succ_rl (Rs : List Rl) {i : Nat} (h : i < Rs.length) : Rs.take (i + 1) = Rs.take i ++ [Rs.getD i Rl.nil] := by
  rw [List.take_add_one, List.getElem?_eq_getElem h, List.getD_eq_getElem?_getD, List.getElem?_eq_getElem h]
  rfl
theorem formOf_snoc (Rs : List Rl) (R : Rl) (w : Str) : formOf (Rs ++ [R]) w = change R (formOf Rs w) := by
  unfold formOf
  rw [List.foldl_append]
  rfl
theorem formOf_app (Rs Ss : List Rl) (w : Str) : formOf (Rs ++ Ss) w = formOf Ss (formOf Rs w) := by
  unfold formOf
  rw [List.foldl_append]
theorem stepsOf_snoc : ∀ (Rs : List Rl) (R : Rl) (w : Str), stepsOf (Rs ++ [R]) w = stepsOf Rs w ++ [change R (formOf Rs w)]
  | [], R, w => rfl
  | S :: Rs, R, w => by
    show w :: stepsOf (Rs ++ [R]) (change S w) = _
    rw [stepsOf_snoc Rs R]
    rfl
theorem big_snoc : ∀ (Rs : List Rl) (R : Rl) (w : Str), big (Rs ++ [R]) w = (big Rs w || decide (2000 < (change R (formOf Rs w)).length))
  | [], R, w => by
    show (decide (2000 < (change R w).length) || false) = _
    rw [Bool.or_false]
    rfl
  | S :: Rs, R, w => by
    show (_ || big (Rs ++ [R]) (change S w)) = _
    rw [big_snoc Rs R, ← Bool.or_assoc]
    rfl
theorem big_app : ∀ (Rs Ss : List Rl) (w : Str), big (Rs ++ Ss) w = (big Rs w || big Ss (formOf Rs w))
  | [], Ss, w => by
    show big Ss w = (false || _)
    rw [Bool.false_or]
    rfl
  | S :: Rs, Ss, w => by
    show (_ || big (Rs ++ Ss) (change S w)) = _
    rw [big_app Rs Ss, ← Bool.or_assoc]
    rfl
theorem big_take {Rs : List Rl} {w : Str} {i : Nat} (h : big (Rs.take i) w = true) : big Rs w = true := by
  have e := big_app (Rs.take i) (Rs.drop i) w
  rw [List.take_append_drop, h, Bool.true_or] at e
  exact e
theorem big_take_f {Rs : List Rl} {w : Str} (i : Nat) (h : big Rs w = false) : big (Rs.take i) w = false := by
  cases e : big (Rs.take i) w with
  | false => rfl
  | true => rw [big_take e] at h; cases h
theorem stepsOf_len : ∀ (Rs : List Rl) (w : Str), (stepsOf Rs w).length = Rs.length + 1
  | [], _ => rfl
  | R :: Rs, w => by
    show (stepsOf Rs (change R w)).length + 1 = _
    rw [stepsOf_len Rs]
    rfl
theorem stepsOf_get : ∀ (Rs : List Rl) (w : Str) (i : Nat), i ≤ Rs.length → (stepsOf Rs w)[i]? = some (formOf (Rs.take i) w)
  | [], w, i, h => by
    have : i = 0 := by simpa using h
    subst this
    rfl
  | R :: Rs, w, 0, _ => rfl
  | R :: Rs, w, i + 1, h => by
    show (stepsOf Rs (change R w))[i]? = _
    rw [stepsOf_get Rs _ i (by simpa using h)]
    rfl
theorem form_len {Rs : List Rl} {w : Str} (hw : w.length ≤ 10000) (h : big Rs w = false) : (formOf Rs w).length ≤ 10000 := by
  by_cases e : Rs = []
  · rw [e]
    exact hw
  · rw [← List.dropLast_concat_getLast e] at h ⊢
    rw [big_snoc, Bool.or_eq_false_iff] at h
    have := of_decide_eq_false h.2
    rw [formOf_snoc]
    omega
theorem change_len (R : Rl) (w : Str) (h : R.n.length ≤ 1000) : (change R w).length ≤ w.length * 1000 := by
  unfold change
  rw [jn_len]
  exact parts_sum R w h
theorem steps_last (Rs : List Rl) (w : Str) : atI ((stepsOf Rs w).map V.str) (-1) = some (V.str (formOf Rs w)) := by
  by_cases e : Rs = []
  · rw [e]
    rfl
  · rw [← List.dropLast_concat_getLast e, stepsOf_snoc, List.map_append, formOf_snoc]
    exact atI_last _ _
/-! ### contracts -/
def sp_is_rules (K : PySem.W.Frag) : Sp := fun vs H Q E => ∃ (k : Int) (a : Addr) (Rs : List Rl), vs = [.int k, .ref a] ∧ RulesAt K H a Rs ∧ (∀ R ∈ Rs, R.Small) ∧ Rs.length ≤ 1000 ∧ if numOk k = true then ∀ H', Same H H' → Q (.bl (isRules k Rs)) H' else ErrE K E .number H
def sp_check_rules (K : PySem.W.Frag) : Sp := fun vs H Q E => ∃ (k : Int) (a : Addr) (Rs : List Rl), vs = [.int k, .ref a] ∧ RulesAt K H a Rs ∧ (∀ R ∈ Rs, R.Small) ∧ Rs.length ≤ 1000 ∧
  if numOk k = true then ∀ H', Same H H' → (if isRules k Rs = true then Q .non H' else ErrE K E .rule H') else ErrE K E .number H
def sp_check_list (K : PySem.W.Frag) : Sp := fun vs H Q E => ∃ (k : Int) (a : Addr) (Rs : List Rl) (w : Str), vs = [.int k, .ref a, .str w] ∧ RulesAt K H a Rs ∧ (∀ R ∈ Rs, R.Small) ∧ Rs.length ≤ 1000 ∧ w.length ≤ 10000 ∧
  OrE K H E (errL k Rs w) fun H' => Q .non H'
def sp_check_made (K : PySem.W.Frag) : Sp := fun vs H Q E => ∃ w : Str, vs = [.str w] ∧ w.length ≤ sizeLine ∧ if 2000 < w.length then ErrE K E .large H else Q .non H
def sp_steps (K : PySem.W.Frag) : Sp := fun vs H Q E => ∃ (a : Addr) (Rs : List Rl) (w : Str), vs = [.ref a, .str w] ∧ RulesAt K H a Rs ∧ (∀ R ∈ Rs, R.Small) ∧ Rs.length ≤ 1000 ∧ w.length ≤ 10000 ∧
  if big Rs w = true then ∀ H', Same H H' → ErrE K E .large H' else ∀ p H', H p = none → Same H H' → H' p = some (.lst ((stepsOf Rs w).map V.str)) → Q (.ref p) H'
def sp_steps_of (K : PySem.W.Frag) : Sp := fun vs H Q E => ∃ (k : Int) (a : Addr) (Rs : List Rl) (w : Str), vs = [.int k, .ref a, .str w] ∧ RulesAt K H a Rs ∧ (∀ R ∈ Rs, R.Small) ∧ Rs.length ≤ 1000 ∧ w.length ≤ 10000 ∧
  OrE K H E (errS k Rs w) fun H' => ∀ p H'', H' p = none → Same H' H'' → H'' p = some (.lst ((stepsOf Rs w).map V.str)) → Q (.ref p) H''
def sp_form_of (K : PySem.W.Frag) : Sp := fun vs H Q E => ∃ (k : Int) (a : Addr) (Rs : List Rl) (w : Str), vs = [.int k, .ref a, .str w] ∧ RulesAt K H a Rs ∧ (∀ R ∈ Rs, R.Small) ∧ Rs.length ≤ 1000 ∧ w.length ≤ 10000 ∧
  OrE K H E (errS k Rs w) fun H' => Q (.str (formOf Rs w)) H'
def sp_acting (K : PySem.W.Frag) : Sp := fun vs H Q E => ∃ (k : Int) (a : Addr) (Rs : List Rl) (w : Str), vs = [.int k, .ref a, .str w] ∧ RulesAt K H a Rs ∧ (∀ R ∈ Rs, R.Small) ∧ Rs.length ≤ 1000 ∧ w.length ≤ 10000 ∧
  OrE K H E (errS k Rs w) fun H' => ∀ p H'', H' p = none → Same H' H'' → H'' p = some (.lst ((acted Rs w).map fun i => V.int (i : Nat))) → Q (.ref p) H''
def sp_is_kept (K : PySem.W.Frag) : Sp := fun vs H Q E => ∃ (k : Int) (a : Addr) (Rs : List Rl) (w : Str), vs = [.int k, .ref a, .str w] ∧ RulesAt K H a Rs ∧ (∀ R ∈ Rs, R.Small) ∧ Rs.length ≤ 1000 ∧ w.length ≤ 10000 ∧
  OrE K H E (errS k Rs w) fun H' => Q (.bl (decide (formOf Rs w = w))) H'
/-! ### a def with defaults by name -/
structure CalD (P : Program) (w : World) (K : PySem.W.Frag) (mg : Str → Option Value) (base : Heap) (k : Nat) (x : Str) (sp : Sp) (dvs : List V) : Prop where
  ex : ∃ (f : Addr) (fd : FuncData) (ps : List Str) (ds : List Value), FnOk P w K mg base (L2.CX P w) k f fd ps sp ∧ mg x = some (.ref f) ∧ PySem.W.keepIn K (.ref f) = true ∧ Vals dvs ds ∧ Binds K fd ps ds
theorem pe_cxD {X : Cx} {k : Nat} {sp : Sp} {x : Str} {p pos : Pos} {e : Expr} {es : List Expr} {t : TA} {E : XK} {dvs : List V} (c : CalD X.prog X.w X.K X.mg X.base k x sp dvs) (hr : Room k X.A) (hg : Gl X x) (hx : Passes (L2.CX X.prog X.w) X E) (ha : PA X (e :: es) t) (hdb : (x == ("__debug__" : Str)) = false := by decide)
    (he : starEach (e :: es) X.env = (false, eval e X.env) :: starEach es X.env := by rfl) (hpl : (backTo pos (starEach es X.env)).any (·.1) = false := by rfl) : PE X (.Call (.Name x p) (e :: es) [] pos) (tCall sp dvs E t) := by
  obtain ⟨f, fd, ps, ds, F, hm, hk, hd, hb⟩ := c.ex
  exact pe_call F hr hg hm hk hb hd hx ha hdb he hpl
/-! ### drawn lists of rules -/
def KeepD (d D : Addr) (H H' : Hp) : Prop := ∀ b o, b ≠ d → b ≠ D → H b = some o → H' b = some o
theorem KeepD.sqT {K : PySem.W.Frag} {d D a : Addr} {H H' : Hp} {xs ys : List V} (k : KeepD d D H H') (h : SqT K H a xs) (hd : Dw H d) (hD : H D = some (.lst ys)) : SqT K H' a xs := by
  rcases h with z | z
  · have n1 : a ≠ d := fun e => by
      obtain ⟨ns, y, _⟩ := hd
      rw [e] at z
      rcases z with z | ⟨o, z⟩ <;> rw [y] at z <;> cases z
    have n2 : a ≠ D := fun e => by
      rw [e] at z
      rcases z with z | ⟨o, z⟩ <;> rw [hD] at z <;> cases z
    rcases z with z | ⟨o, z⟩
    · exact .inl (.inl (k _ _ n1 n2 z))
    · exact .inl (.inr ⟨o, k _ _ n1 n2 z⟩)
  · exact .inr z
theorem RuleAt.keepD {K : PySem.W.Frag} {d D a : Addr} {R : Rl} {H H' : Hp} {ys : List V} (h : RuleAt K H a R) (k : KeepD d D H H') (hd : Dw H d) (hD : H D = some (.lst ys)) : RuleAt K H' a R := by
  obtain ⟨al, ar, h1, h2, h3⟩ := h.ex
  exact ⟨al, ar, k.sqT h1 hd hD, k.sqT h2 hd hD, k.sqT h3 hd hD⟩
theorem RulesAt.keep {K : PySem.W.Frag} {d a : Addr} {Rs : List Rl} {H H' : Hp} (h : RulesAt K H a Rs) (x : KeepX d H H') (dw : Dw H d) : RulesAt K H' a Rs := by
  obtain ⟨as, h1, h2, h3⟩ := h.ex
  exact ⟨as, x.sqT h1 dw, h2, fun i hi => (h3 i hi).keep x dw⟩
def sp_law_rules (K : PySem.W.Frag) : Sp := fun vs H Q E => ∃ (d : Addr) (k m : Int), vs = [.ref d, .int k, .int m] ∧ Dw H d ∧ 2 ≤ k ∧ k ≤ 6 ∧ 0 ≤ m ∧ m ≤ 100 ∧
  ∀ (a : Addr) (Rs : List Rl) (H' : Hp), RulesAt K H' a Rs → ((Rs.length : Nat) : Int) ≤ m → (∀ R ∈ Rs, isRule k R = true) → Dw H' d → KeepX d H H' → Q (.ref a) H'
/-! ### settling -/
def settleR (Rs : List Rl) : Nat → Nat → Str → Except Er (Option (Nat × Str))
  | 0, _, _ => .ok none
  | n + 1, t, w => if big Rs w = true then .error .large else if formOf Rs w = w then .ok (some (t, w)) else settleR Rs n (t + 1) (formOf Rs w)
def settleOf (k : Int) (Rs : List Rl) (w : Str) (m : Int) : Except Er (Option (Nat × Str)) := match errL k Rs w with
  | some e => .error e
  | none => if m < 0 ∨ 100 < m then .error .number else settleR Rs (m + 1).toNat 0 w
def sp_settled (K : PySem.W.Frag) : Sp := fun vs H Q E => ∃ (k : Int) (a : Addr) (Rs : List Rl) (w : Str) (m : Int), vs = [.int k, .ref a, .str w, .int m] ∧ RulesAt K H a Rs ∧ (∀ R ∈ Rs, R.Small) ∧ Rs.length ≤ 1000 ∧ w.length ≤ 10000 ∧
  match settleOf k Rs w m with
  | .error e => ∀ H', Same H H' → ErrE K E e H'
  | .ok none => ∀ H', Same H H' → Q .non H'
  | .ok (some (t, w')) => ∀ p H', Same H H' → SqT K H' p [.int (t : Nat), .str w'] → Q (.ref p) H'
end K

set_option Elab.async false
set_option linter.all false
set_option maxRecDepth 100000
set_option maxHeartbeats 4000000
namespace K
open PySem PySem.Spec PyProof.Rows L2 Sv
/-! ### data that == compares -/
def Shp (k : Nat) (d : PyData) : Prop := d.canLay0 = true ∧ d.depth ≤ k
theorem shp_all {k : Nat} : ∀ {ds : List PyData}, (∀ d ∈ ds, Shp k d) → PyData.canLayAll0 ds = true ∧ PyData.depthAll ds ≤ k
  | [], _ => ⟨rfl, Nat.zero_le _⟩
  | d :: ds, h => by
    obtain ⟨a, b⟩ := shp_all (ds := ds) fun z m => h z (List.mem_cons_of_mem _ m)
    obtain ⟨c, e⟩ := h d List.mem_cons_self
    refine ⟨?_, ?_⟩
    · show (d.canLay0 && PyData.canLayAll0 ds) = true
      rw [a, c]; rfl
    · show max d.depth (PyData.depthAll ds) ≤ k
      omega
theorem Shp.list {k : Nat} {ds : List PyData} (h : ∀ d ∈ ds, Shp k d) : Shp (k + 1) (.list ds) := ⟨(shp_all h).1, Nat.succ_le_succ (shp_all h).2⟩
theorem Shp.tup {k : Nat} {ds : List PyData} (h : ∀ d ∈ ds, Shp k d) : Shp (k + 1) (.tuple ds) := ⟨(shp_all h).1, Nat.succ_le_succ (shp_all h).2⟩
theorem Shp.str {k : Nat} {x : Str} (h : ∀ c ∈ x.cps.toList, c < 1000) : Shp k (.str x) := by
  refine ⟨?_, Nat.zero_le _⟩
  show x.cps.all (· < 0x110000) = true
  rw [Array.all_eq_true_iff_forall_mem]
  exact fun c m => decide_eq_true (Nat.lt_trans (h c (Array.mem_toList_iff.mpr m)) (by decide))
theorem Shp.int {k : Nat} {i : Int} : Shp k (.int i) := ⟨rfl, Nat.zero_le _⟩
theorem Shp.ok {k : Nat} {d : PyData} (h : Shp k d) (hk : k ≤ 64) : SeqAt.shaped d = true := by
  show (d.canLay0 && decide (d.depth ≤ 64)) = true
  rw [h.1, decide_eq_true (Nat.le_trans h.2 hk)]
  rfl
theorem Shp.eqv {k : Nat} {d : PyData} (h : Shp k d) : PyData.eqv d d = true := SeqAt.eqv_refl d h.1
/-! ### sizes of forms -/
def Word (k : Int) (w : Str) : Prop := ∀ c ∈ w.cps.toList, LetK k c
theorem jn_mem {ys : List Str} {c : Nat} (h : c ∈ (jn ys).cps.toList) : ∃ y ∈ ys, c ∈ y.cps.toList := by
  have h : c ∈ (ys.map fun y => y.cps.toList).flatten := h
  obtain ⟨l, hl, hc⟩ := List.mem_flatten.mp h
  obtain ⟨y, hy, rfl⟩ := List.mem_map.mp hl
  exact ⟨y, hy, hc⟩
theorem change_word {k : Int} {R : Rl} {w : Str} (h : Made k R) (hw : Word k w) : Word k (change R w) := fun c m => by
  obtain ⟨y, hy, hc⟩ := jn_mem m
  unfold parts at hy
  obtain ⟨i, hi, rfl⟩ := List.mem_map.mp hy
  have hi := List.mem_range.mp hi
  by_cases s : standsAt R w i = true
  · rw [if_pos s] at hc
    exact h.n c hc
  · rw [if_neg s] at hc
    rw [List.mem_singleton.mp hc]
    refine hw _ ?_
    rw [Array.getD_eq_getD_getElem?, Array.getElem?_eq_getElem hi]
    exact Array.getElem_mem_toList hi
theorem change_3 {k : Int} {R : Rl} (h : Made k R) (w : Str) : (change R w).length ≤ 3 * w.length := by
  unfold change
  rw [jn_len]
  have := sum_le (b := 3) ((parts R w).map (·.length)) fun x m => by
    obtain ⟨y, my, rfl⟩ := List.mem_map.mp m
    unfold parts at my
    obtain ⟨i, _, rfl⟩ := List.mem_map.mp my
    by_cases c : standsAt R w i = true
    · rw [if_pos c]; exact h.n3
    · rw [if_neg c, tx_len]; show 1 ≤ 3; decide
  rw [List.length_map, parts_len] at this
  have e : w.cps.size = w.length := rfl
  omega
theorem formOf_word {k : Int} : ∀ {Rs : List Rl} {w : Str}, (∀ R ∈ Rs, Made k R) → Word k w → Word k (formOf Rs w)
  | [], _, _, hw => hw
  | R :: Rs, w, h, hw => formOf_word (Rs := Rs) (fun S m => h S (List.mem_cons_of_mem _ m)) (change_word (h R List.mem_cons_self) hw)
theorem formOf_3 {k : Int} : ∀ {Rs : List Rl} (w : Str), (∀ R ∈ Rs, Made k R) → (formOf Rs w).length ≤ 3 ^ Rs.length * w.length
  | [], w, _ => by show w.length ≤ 1 * w.length; omega
  | R :: Rs, w, h => by
    have h1 := formOf_3 (Rs := Rs) (change R w) fun S m => h S (List.mem_cons_of_mem _ m)
    have h2 := Nat.mul_le_mul_left (3 ^ Rs.length) (change_3 (h R List.mem_cons_self) w)
    show (formOf Rs (change R w)).length ≤ 3 ^ (Rs.length + 1) * w.length
    rw [Nat.pow_succ, Nat.mul_assoc]
    omega
theorem big_3 {k : Int} : ∀ {Rs : List Rl} {w : Str}, (∀ R ∈ Rs, Made k R) → 3 ^ Rs.length * w.length ≤ 2000 → big Rs w = false
  | [], _, _, _ => rfl
  | R :: Rs, w, h, hw => by
    have c := change_3 (h R List.mem_cons_self) w
    have e : 3 ^ (R :: Rs).length * w.length = 3 ^ Rs.length * (3 * w.length) := by
      rw [List.length_cons, Nat.pow_succ, Nat.mul_assoc]
    rw [e] at hw
    have p : 1 ≤ 3 ^ Rs.length := Nat.pow_pos (by decide)
    have m1 : 1 * (3 * w.length) ≤ 3 ^ Rs.length * (3 * w.length) := Nat.mul_le_mul_right _ p
    have m2 : 3 ^ Rs.length * (change R w).length ≤ 3 ^ Rs.length * (3 * w.length) := Nat.mul_le_mul_left _ c
    show (decide (2000 < (change R w).length) || big Rs (change R w)) = false
    rw [decide_eq_false (by omega), big_3 (fun S m => h S (List.mem_cons_of_mem _ m)) (by omega)]
    rfl
theorem stepsOf_word {k : Int} : ∀ {Rs : List Rl} {w : Str}, (∀ R ∈ Rs, Made k R) → Word k w → ∀ p ∈ stepsOf Rs w, Word k p
  | [], w, _, hw => fun p m => by rw [List.mem_singleton.mp m]; exact hw
  | R :: Rs, w, h, hw => fun p m => by
    rcases List.mem_cons.mp m with e | m
    · rw [e]; exact hw
    · exact stepsOf_word (Rs := Rs) (fun S m => h S (List.mem_cons_of_mem _ m)) (change_word (h R List.mem_cons_self) hw) p m
theorem shp_words {k : Int} {j : Nat} (b : k ≤ 6) {ps : List Str} (h : ∀ p ∈ ps, Word k p) : Shp (j + 1) (.list (ps.map PyData.str)) :=
  Shp.list fun d m => by
    obtain ⟨p, hp, rfl⟩ := List.mem_map.mp m
    exact .str (LetK.small b (h p hp))
theorem stepsOf_app : ∀ (Rs Ss : List Rl) (w : Str), stepsOf (Rs ++ Ss) w = (stepsOf Rs w).dropLast ++ stepsOf Ss (formOf Rs w)
  | [], Ss, w => rfl
  | R :: Rs, Ss, w => by
    have ne : stepsOf Rs (change R w) ≠ [] := fun e => by have := stepsOf_len Rs (change R w); rw [e] at this; cases this
    show w :: stepsOf (Rs ++ Ss) (change R w) = (w :: stepsOf Rs (change R w)).dropLast ++ _
    rw [stepsOf_app Rs Ss, List.dropLast_cons_of_ne_nil ne]
    rfl
theorem cut_but_last (xs : List V) : cutV xs none (some (-1)) = xs.dropLast := by
  unfold cutV
  have e : HT.sIx xs.length xs.length (some (-1)) = xs.length - 1 := by
    show ((-1 : Int) + (xs.length : Int)).toNat = _
    omega
  rw [e, HT.sIx_none, List.drop_zero, Nat.sub_zero, List.dropLast_eq_take]
theorem ref_get {cs : List Addr} {j : Nat} (h : j < cs.length) : (cs.map V.ref)[j]? = some (V.ref (cs.getD j 0)) := by
  rw [List.getElem?_map, List.getD_eq_getElem?_getD, List.getElem?_eq_getElem h]
  rfl
theorem settle0 {k : Int} {Rs : List Rl} {w : Str} {m : Int} (e : errL k Rs w = none) (b : big Rs w = false) (f : formOf Rs w = w) (m0 : 0 ≤ m) (m1 : m ≤ 100) : settleOf k Rs w m = .ok (some (0, w)) := by
  unfold settleOf
  rw [e]
  show (if m < 0 ∨ 100 < m then _ else _) = _
  rw [if_neg (by omega), show (m + 1).toNat = m.toNat + 1 by omega]
  unfold settleR
  rw [b, if_neg Bool.false_ne_true, if_pos f]
/-! ### rules that act alone -/
theorem change_none {R : Rl} {w : Str} (h : stood R w = []) : change R w = w := by
  unfold change
  have e : parts R w = w.cps.toList.map fun c => tx [c] := by
    unfold parts
    rw [← Sv.range_map, List.map_map]
    refine List.map_congr_left fun i hi => ?_
    have ns : ¬ standsAt R w i = true := fun z => by
      have : i ∈ stood R w := List.mem_filter.mpr ⟨hi, z⟩
      rw [h] at this
      cases this
    rw [if_neg ns]
    rfl
  rw [e, jn_signs, ← tx_of]
def onlyActs : List Rl → Str → List Rl
  | [], _ => []
  | R :: Rs, w => if stood R w = [] then onlyActs Rs w else R :: onlyActs Rs (change R w)
theorem onlyActs_cons (R : Rl) (Rs : List Rl) (w : Str) : onlyActs (R :: Rs) w = if stood R w = [] then onlyActs Rs w else R :: onlyActs Rs (change R w) := rfl
theorem acted_cons (R : Rl) (Rs : List Rl) (w : Str) : acted (R :: Rs) w = (if stood R w = [] then [] else [0]) ++ (acted Rs (change R w)).map Nat.succ := by
  unfold acted
  rw [List.length_cons, List.range_succ_eq_map, List.filter_cons, List.filter_map]
  have e : ((fun i => !(stood ((R :: Rs).getD i Rl.nil) (formOf ((R :: Rs).take i) w)).isEmpty) ∘ Nat.succ) = fun i => !(stood (Rs.getD i Rl.nil) (formOf (Rs.take i) (change R w))).isEmpty := by
    funext i
    rfl
  rw [e]
  have e0 : (!(stood ((R :: Rs).getD 0 Rl.nil) (formOf ((R :: Rs).take 0) w)).isEmpty) = !(stood R w).isEmpty := rfl
  rw [e0]
  cases hs : stood R w with
  | nil => rfl
  | cons a b => rfl
theorem onlyActs_eq : ∀ (Rs : List Rl) (w : Str), (acted Rs w).map (fun i => Rs.getD i Rl.nil) = onlyActs Rs w
  | [], _ => rfl
  | R :: Rs, w => by
    rw [acted_cons, List.map_append, List.map_map]
    have e : ((fun i => (R :: Rs).getD i Rl.nil) ∘ Nat.succ) = fun i => Rs.getD i Rl.nil := rfl
    rw [e, onlyActs_eq Rs]
    rw [onlyActs_cons]
    by_cases h : stood R w = []
    · rw [if_pos h, if_pos h, change_none h]
      rfl
    · rw [if_neg h, if_neg h]
      rfl
theorem onlyActs_form : ∀ (Rs : List Rl) (w : Str), formOf (onlyActs Rs w) w = formOf Rs w
  | [], _ => rfl
  | R :: Rs, w => by
    rw [onlyActs_cons]
    by_cases h : stood R w = []
    · rw [if_pos h, onlyActs_form Rs w]
      show _ = formOf Rs (change R w)
      rw [change_none h]
    · rw [if_neg h]
      show formOf (onlyActs Rs (change R w)) (change R w) = formOf Rs (change R w)
      exact onlyActs_form Rs _
theorem onlyActs_acted : ∀ (Rs : List Rl) (w : Str), acted (onlyActs Rs w) w = List.range (onlyActs Rs w).length
  | [], _ => rfl
  | R :: Rs, w => by
    rw [onlyActs_cons]
    by_cases h : stood R w = []
    · rw [if_pos h]
      exact onlyActs_acted Rs w
    · rw [if_neg h, acted_cons, if_neg h, onlyActs_acted Rs (change R w), List.length_cons, List.range_succ_eq_map]
      rfl
theorem onlyActs_mem : ∀ {Rs : List Rl} {w : Str} {R : Rl}, R ∈ onlyActs Rs w → R ∈ Rs
  | [], _, _, m => m
  | S :: Rs, w, R, m => by
    rw [onlyActs_cons] at m
    by_cases h : stood S w = []
    · rw [if_pos h] at m
      exact List.mem_cons_of_mem _ (onlyActs_mem m)
    · rw [if_neg h] at m
      rcases List.mem_cons.mp m with e | m
      · rw [e]; exact List.mem_cons_self
      · exact List.mem_cons_of_mem _ (onlyActs_mem m)
theorem onlyActs_len : ∀ (Rs : List Rl) (w : Str), (onlyActs Rs w).length ≤ Rs.length
  | [], _ => Nat.le_refl _
  | R :: Rs, w => by
    rw [onlyActs_cons]
    by_cases h : stood R w = []
    · rw [if_pos h]
      exact Nat.le_succ_of_le (onlyActs_len Rs w)
    · rw [if_neg h]
      exact Nat.succ_le_succ (onlyActs_len Rs _)
theorem isRules_of {k : Int} {Rs : List Rl} (h : Rs.length ≤ 8) (a : ∀ R ∈ Rs, isRule k R = true) : isRules k Rs = true := by
  unfold isRules
  rw [decide_eq_true (by omega), List.all_eq_true.mpr a]
  rfl
/-- one list behind the other -/
theorem rules_cat {K : PySem.W.Frag} {H : Hp} {a b : Addr} {Rs Ss : List Rl} {Q : VK} (h1 : RulesAt K H a Rs) (h2 : RulesAt K H b Ss) (l1 : Rs.length ≤ 1000) (l2 : Ss.length ≤ 1000)
    (h : ∀ c H', Same H H' → RulesAt K H' c (Rs ++ Ss) → Q (.ref c) H') : rCatA K (.ref a) (.ref b) H Q := by
  obtain ⟨as, a1, a2, a3⟩ := h1.ex
  obtain ⟨bs, b1, b2, b3⟩ := h2.ex
  refine ⟨a, b, _, _, rfl, rfl, a1, b1, by rw [List.length_map, List.length_map, sizeLine_eq]; omega, fun e => ?_, fun _ e => ?_, fun _ _ p hp => ?_⟩
  · have e1 : as = [] := List.map_eq_nil_iff.mp e
    rw [e1] at a2
    have e2 : Rs = [] := List.eq_nil_of_length_eq_zero a2.symm
    rw [e2] at h
    exact h b H (Same.refl _) h2
  · have e1 : bs = [] := List.map_eq_nil_iff.mp e
    rw [e1] at b2
    have e2 : Ss = [] := List.eq_nil_of_length_eq_zero b2.symm
    rw [e2, List.append_nil] at h
    exact h a H (Same.refl _) h1
  · have s := same_new (o := .tup (as.map V.ref ++ bs.map V.ref)) hp
    refine h p _ s ⟨as ++ bs, .inl (Rd.of (by rw [upd_same, List.map_append])), by rw [List.length_append, List.length_append, a2, b2], fun i hi => ?_⟩
    rw [List.length_append] at hi
    by_cases c : i < Rs.length
    · rw [List.getD_eq_getElem?_getD, List.getElem?_append_left (by omega), ← List.getD_eq_getElem?_getD, List.getD_eq_getElem?_getD (l := Rs ++ Ss), List.getElem?_append_left c, ← List.getD_eq_getElem?_getD]
      exact (a3 i c).same s
    · rw [List.getD_eq_getElem?_getD, List.getElem?_append_right (by omega), ← List.getD_eq_getElem?_getD, List.getD_eq_getElem?_getD (l := Rs ++ Ss), List.getElem?_append_right (by omega), ← List.getD_eq_getElem?_getD, a2]
      exact (b3 _ (by omega)).same s
theorem rules_nil {K : PySem.W.Frag} {H : Hp} {a : Addr} (h : SqT K H a []) : RulesAt K H a [] := ⟨[], h, rfl, fun _ z => absurd z (Nat.not_lt_zero _)⟩
end K

set_option Elab.async false
set_option linter.all false
set_option maxRecDepth 100000
set_option maxHeartbeats 4000000
namespace K
open PySem PySem.Spec PyProof.Rows L2 Sv
/-! ### a def called with a keyword -/
structure CalK (P : Program) (w : World) (K : PySem.W.Frag) (mg : Str → Option Value) (base : Heap) (k : Nat) (x : Str) (sp : Sp) (n : Nat) (ks : List Str) : Prop where
  ex : ∃ (f : Addr) (fd : FuncData) (ps : List Str) (g : List Value → List Value → List Value), FnOk P w K mg base (L2.CX P w) k f fd ps sp ∧ mg x = some (.ref f) ∧ PySem.W.keepIn K (.ref f) = true ∧ KBn K fd ps n ks g (fun vs zs => vs ++ zs)
theorem pe_cxK {X : Cx} {k n : Nat} {ks : List Str} {sp : Sp} {x : Str} {p pos : Pos} {e : Expr} {es : List Expr} {kws : List Keyword} {t tk : TA} {W : WX} (c : CalK X.prog X.w X.K X.mg X.base k x sp n ks) (hr : Room k X.A) (hg : Gl X x) (tks : Takes X W) (ha : PA X (e :: es) t) (hkw : PK X kws tk)
    (hall : (backToKw pos (keywordEach kws X.env)).all (·.1.isSome) = true := by rfl) (hks : (backToKw pos (keywordEach kws X.env)).filterMap (·.1) = ks := by rfl)
    (hdb : (x == ("__debug__" : Str)) = false := by decide) (he : starEach (e :: es) X.env = (false, eval e X.env) :: starEach es X.env := by rfl)
    (hpl : ((backTo pos (starEach (e :: es) X.env)).any (·.1) || (backToKw pos (keywordEach kws X.env)).any (·.1.isNone)) = false := by rfl) :
    PE X (.Call (.Name x p) (e :: es) kws pos) (tCallN n ks.length sp (fun vs zs => vs ++ zs) (fun cls d H => ∀ σ, W cls d σ H) t tk) := by
  obtain ⟨f, fd, ps, g, F, hm, hk, hb⟩ := c.ex
  exact pe_callN F hr hg hm hk hb (passes_call tks fun _ _ σ _ z => z σ) ha hkw hall hks hdb he hpl
/-! ### a bound of one's own -/
def bigB (N : Nat) : List Rl → Str → Bool
  | [], _ => false
  | R :: Rs, w => decide (N < (change R w).length) || bigB N Rs (change R w)
theorem bigB_snoc {N : Nat} : ∀ (Rs : List Rl) (R : Rl) (w : Str), bigB N (Rs ++ [R]) w = (bigB N Rs w || decide (N < (change R (formOf Rs w)).length))
  | [], R, w => by
    show (decide (N < (change R w).length) || false) = _
    rw [Bool.or_false]
    rfl
  | S :: Rs, R, w => by
    show (_ || bigB N (Rs ++ [R]) (change S w)) = _
    rw [bigB_snoc Rs R, ← Bool.or_assoc]
    rfl
theorem bigB_app {N : Nat} : ∀ (Rs Ss : List Rl) (w : Str), bigB N (Rs ++ Ss) w = (bigB N Rs w || bigB N Ss (formOf Rs w))
  | [], Ss, w => by
    show bigB N Ss w = (false || _)
    rw [Bool.false_or]
    rfl
  | S :: Rs, Ss, w => by
    show (_ || bigB N (Rs ++ Ss) (change S w)) = _
    rw [bigB_app Rs Ss, ← Bool.or_assoc]
    rfl
theorem bigB_take {N : Nat} {Rs : List Rl} {w : Str} {i : Nat} (h : bigB N (Rs.take i) w = true) : bigB N Rs w = true := by
  have e := bigB_app (N := N) (Rs.take i) (Rs.drop i) w
  rw [List.take_append_drop, h, Bool.true_or] at e
  exact e
theorem bigB_len {N : Nat} {Rs : List Rl} {w : Str} (hw : w.length ≤ N) (h : bigB N Rs w = false) : (formOf Rs w).length ≤ N := by
  by_cases e : Rs = []
  · rw [e]
    exact hw
  · rw [← List.dropLast_concat_getLast e] at h ⊢
    rw [bigB_snoc, Bool.or_eq_false_iff] at h
    have := of_decide_eq_false h.2
    rw [formOf_snoc]
    omega
theorem big_of_B {N : Nat} (hN : N ≤ 2000) : ∀ {Rs : List Rl} {w : Str}, bigB N Rs w = false → big Rs w = false
  | [], _, _ => rfl
  | R :: Rs, w, h => by
    have h : (decide (N < (change R w).length) || bigB N Rs (change R w)) = false := h
    rw [Bool.or_eq_false_iff] at h
    show (decide (2000 < (change R w).length) || big Rs (change R w)) = false
    have := of_decide_eq_false h.1
    rw [decide_eq_false (by omega), big_of_B hN h.2]
    rfl
def dueR (Rs : List Rl) : Nat → Nat → Str → Except Unit (Option (Nat × Str))
  | 0, _, _ => .ok none
  | n + 1, t, w => if bigB 400 Rs w = true then .error () else if formOf Rs w = w then .ok (some (t, w)) else dueR Rs n (t + 1) (formOf Rs w)
theorem due_settle {Rs : List Rl} {r : Option (Nat × Str)} : ∀ {n t : Nat} {w : Str}, dueR Rs n t w = .ok r → settleR Rs n t w = .ok r
  | 0, _, _, h => by cases h; rfl
  | n + 1, t, w, h => by
    unfold dueR at h
    unfold settleR
    cases b : bigB 400 Rs w with
    | true =>
      rw [b] at h
      cases h
    | false =>
      rw [b, if_neg Bool.false_ne_true] at h
      rw [big_of_B (by decide) b, if_neg Bool.false_ne_true]
      by_cases c : formOf Rs w = w
      · rw [if_pos c] at h ⊢
        cases h
        rfl
      · rw [if_neg c] at h ⊢
        exact due_settle h
theorem due_in {k : Int} {Rs : List Rl} (mk : ∀ R ∈ Rs, Made k R) {u : Nat} {v : Str} : ∀ {n t : Nat} {w : Str}, Word k w → w.length ≤ 400 → dueR Rs n t w = .ok (some (u, v)) → Word k v ∧ v.length ≤ 400 ∧ u < t + n
  | 0, _, _, _, _, h => nomatch h
  | n + 1, t, w, hw, hl, h => by
    unfold dueR at h
    cases b : bigB 400 Rs w with
    | true =>
      rw [b] at h
      cases h
    | false =>
      rw [b, if_neg Bool.false_ne_true] at h
      by_cases c : formOf Rs w = w
      · rw [if_pos c] at h
        cases h
        exact ⟨hw, hl, by omega⟩
      · rw [if_neg c] at h
        have := due_in mk (formOf_word mk hw) (bigB_len hl b) h
        exact ⟨this.1, this.2.1, by omega⟩
def sp_law_due (K : PySem.W.Frag) : Sp := fun vs H Q E => ∃ (k : Int) (a : Addr) (Rs : List Rl) (w : Str) (m : Int), vs = [.ref a, .str w, .int m] ∧ RulesAt K H a Rs ∧ (∀ R ∈ Rs, Made k R) ∧ Rs.length ≤ 100 ∧ w.length ≤ 400 ∧ 0 ≤ m ∧ m ≤ 1000 ∧
  match dueR Rs (m + 1).toNat 0 w with
  | .error _ => ∀ H', Same H H' → Q (.str "long") H'
  | .ok none => ∀ H', Same H H' → Q .non H'
  | .ok (some (t, w')) => ∀ p H', Same H H' → SqT K H' p [.int (t : Nat), .str w'] → Q (.ref p) H'
def sp_law_told (K : PySem.W.Frag) : Sp := fun vs H Q E => ∃ (k : Int) (a : Addr) (Rs : List Rl) (w : Str) (m : Int), vs = [.int k, .ref a, .str w, .int m] ∧ RulesAt K H a Rs ∧ (∀ R ∈ Rs, R.Small) ∧ Rs.length ≤ 1000 ∧ w.length ≤ 10000 ∧
  match settleOf k Rs w m with
  | .error _ => False
  | .ok none => ∀ H', Same H H' → Q .non H'
  | .ok (some (t, w')) => ∀ p H', Same H H' → SqT K H' p [.int (t : Nat), .str w'] → Q (.ref p) H'
end K

set_option Elab.async false
set_option linter.all false
set_option maxRecDepth 100000
set_option maxHeartbeats 4000000
namespace K
open PySem PySem.Spec PyProof.Rows L2 Sv
/-! ### pieces -/
theorem jn_app (xs ys : List Str) : jn (xs ++ ys) = jn xs ++ jn ys := by
  unfold jn
  rw [List.map_append, List.flatten_append, ← tx_app]
def joinFrom (ps : List Str) : Nat → List Nat → List Str
  | _, [] => []
  | b, n :: ns => jn ((ps.drop b).take n) :: joinFrom ps (b + n) ns
theorem joinFrom_len (ps : List Str) : ∀ (b : Nat) (ns : List Nat), (joinFrom ps b ns).length = ns.length
  | _, [] => rfl
  | b, n :: ns => by
    show (joinFrom ps (b + n) ns).length + 1 = _
    rw [joinFrom_len ps]
    rfl
theorem joinFrom_jn (ps : List Str) : ∀ (b : Nat) (ns : List Nat), jn (joinFrom ps b ns) = jn ((ps.drop b).take ns.sum)
  | b, [] => by
    show jn [] = jn ((ps.drop b).take 0)
    rw [List.take_zero]
  | b, n :: ns => by
    have e : joinFrom ps b (n :: ns) = [jn ((ps.drop b).take n)] ++ joinFrom ps (b + n) ns := rfl
    rw [e, jn_app, joinFrom_jn ps (b + n) ns, List.sum_cons, List.take_add, jn_app, List.drop_drop]
    congr 1
    show tx ([(jn ((ps.drop b).take n)).cps.toList].flatten) = _
    rw [List.flatten_singleton, ← tx_of]
theorem joinFrom_snoc (ps : List Str) : ∀ (b : Nat) (ns : List Nat) (n : Nat), joinFrom ps b (ns ++ [n]) = joinFrom ps b ns ++ [jn ((ps.drop (b + ns.sum)).take n)]
  | b, [], n => by
    show [jn ((ps.drop b).take n)] = [] ++ _
    rw [List.nil_append, List.sum_nil, Nat.add_zero]
  | b, m :: ns, n => by
    show _ :: joinFrom ps (b + m) (ns ++ [n]) = _ :: joinFrom ps (b + m) ns ++ _
    rw [joinFrom_snoc ps (b + m) ns n, List.sum_cons, Nat.add_assoc]
    rfl
def piecesStep (R : Rl) (found : List Str) : List Str := joinFrom (parts R (jn found)) 0 (found.map (·.length))
def piecesOf (Rs : List Rl) (w : Str) : List Str := Rs.foldl (fun found R => piecesStep R found) (Sv.signs w)
theorem piecesOf_snoc (Rs : List Rl) (R : Rl) (w : Str) : piecesOf (Rs ++ [R]) w = piecesStep R (piecesOf Rs w) := by
  unfold piecesOf
  rw [List.foldl_append]
  rfl
theorem piecesStep_jn (R : Rl) (found : List Str) : jn (piecesStep R found) = change R (jn found) := by
  unfold piecesStep change
  rw [joinFrom_jn, List.drop_zero, List.take_of_length_le]
  rw [parts_len, ← jn_len]
  exact Nat.le_refl _
theorem piecesStep_len (R : Rl) (found : List Str) : (piecesStep R found).length = found.length := by
  unfold piecesStep
  rw [joinFrom_len, List.length_map]
theorem pieces_both : ∀ (Rs : List Rl) (found : List Str), jn (Rs.foldl (fun found R => piecesStep R found) found) = formOf Rs (jn found) ∧ (Rs.foldl (fun found R => piecesStep R found) found).length = found.length
  | [], _ => ⟨rfl, rfl⟩
  | R :: Rs, found => by
    have := pieces_both Rs (piecesStep R found)
    rw [piecesStep_jn, piecesStep_len] at this
    exact this
theorem piecesOf_jn (Rs : List Rl) (w : Str) : jn (piecesOf Rs w) = formOf Rs w := by
  have := (pieces_both Rs (Sv.signs w)).1
  rw [Sv.signs_map, jn_signs, ← tx_of] at this
  exact this
theorem piecesOf_len (Rs : List Rl) (w : Str) : (piecesOf Rs w).length = w.length := by
  have := (pieces_both Rs (Sv.signs w)).2
  rw [signs_len] at this
  exact this
def traceTake (ps : List Str) (n : Nat) : List Int := ((List.range n).map fun i => List.replicate (ps.getD i "").length ((i : Nat) : Int)).flatten
def traceOf (ps : List Str) : List Int := traceTake ps ps.length
theorem traceTake_succ (ps : List Str) (n : Nat) : traceTake ps (n + 1) = traceTake ps n ++ List.replicate (ps.getD n "").length ((n : Nat) : Int) := by
  unfold traceTake
  rw [List.range_succ, List.map_append, List.flatten_append, List.map_singleton, List.flatten_singleton]
theorem traceTake_len (ps : List Str) : ∀ n, n ≤ ps.length → (traceTake ps n).length = ((ps.map (·.length)).take n).sum
  | 0, _ => rfl
  | n + 1, h => by
    rw [traceTake_succ, List.length_append, traceTake_len ps n (by omega), List.length_replicate, List.take_add_one, List.sum_append, List.getElem?_map, List.getElem?_eq_getElem (by omega), List.getD_eq_getElem?_getD, List.getElem?_eq_getElem (by omega)]
    show _ = _ + [(ps[n]).length].sum
    rw [List.sum_singleton]
    rfl
theorem le_sum_mem : ∀ {l : List Nat} {x : Nat}, x ∈ l → x ≤ l.sum
  | a :: l, x, m => by
    rw [List.sum_cons]
    rcases List.mem_cons.mp m with e | m
    · omega
    · have := le_sum_mem m
      omega
theorem cut_mid (xs : List V) (b n : Nat) : cutV xs (some ((b : Nat) : Int)) (some (((b + n : Nat)) : Int)) = (xs.drop b).take n := by
  unfold cutV
  rw [HT.sIx_nat, HT.sIx_nat]
  by_cases h : b ≤ xs.length
  · rw [Nat.min_eq_left h, List.take_eq_take_iff, List.length_drop]
    omega
  · rw [Nat.min_eq_right (by omega), Nat.min_eq_right (by omega), List.drop_of_length_le (Nat.le_refl _), List.drop_of_length_le (by omega), List.take_nil, List.take_nil]
theorem sum_take_le (l : List Nat) (n : Nat) : (l.take n).sum ≤ l.sum := by
  conv => rhs; rw [← List.take_append_drop n l, List.sum_append]
  exact Nat.le_add_right _ _
theorem sum_drop_le (l : List Nat) (n : Nat) : (l.drop n).sum ≤ l.sum := by
  conv => rhs; rw [← List.take_append_drop n l, List.sum_append]
  exact Nat.le_add_left _ _
def sp_joined (K : PySem.W.Frag) : Sp := fun vs H Q E => ∃ (p q : Addr) (ps : List Str) (ns : List Nat), vs = [.ref p, .ref q] ∧ SqL K H p (ps.map V.str) ∧ SqL K H q (ns.map fun n => V.int (n : Nat)) ∧ (ps.map (·.length)).sum ≤ 16777216 ∧ ns.length ≤ 1000000 ∧
  ∀ r H', H r = none → Same H H' → H' r = some (.lst ((joinFrom ps 0 ns).map V.str)) → Q (.ref r) H'
def sp_u_pieces (K : PySem.W.Frag) : Sp := fun vs H Q E => ∃ (a : Addr) (Rs : List Rl) (w : Str), vs = [.ref a, .str w] ∧ RulesAt K H a Rs ∧ (∀ R ∈ Rs, R.Small) ∧ Rs.length ≤ 1000 ∧ w.length ≤ 10000 ∧
  if big Rs w = true then ∀ H', Same H H' → ErrE K E .large H' else ∀ p H', H p = none → Same H H' → H' p = some (.lst ((piecesOf Rs w).map V.str)) → Q (.ref p) H'
def sp_pieces (K : PySem.W.Frag) : Sp := fun vs H Q E => ∃ (k : Int) (a : Addr) (Rs : List Rl) (w : Str), vs = [.int k, .ref a, .str w] ∧ RulesAt K H a Rs ∧ (∀ R ∈ Rs, R.Small) ∧ Rs.length ≤ 1000 ∧ w.length ≤ 10000 ∧
  OrE K H E (errS k Rs w) fun H' => ∀ p H'', H' p = none → Same H' H'' → H'' p = some (.lst ((piecesOf Rs w).map V.str)) → Q (.ref p) H''
def sp_trace_of (K : PySem.W.Frag) : Sp := fun vs H Q E => ∃ (k : Int) (a : Addr) (Rs : List Rl) (w : Str), vs = [.int k, .ref a, .str w] ∧ RulesAt K H a Rs ∧ (∀ R ∈ Rs, R.Small) ∧ Rs.length ≤ 1000 ∧ w.length ≤ 10000 ∧
  OrE K H E (errS k Rs w) fun H' => ∀ p H'', Same H' H'' → H'' p = some (.lst ((traceOf (piecesOf Rs w)).map V.int)) → Q (.ref p) H''
end K

set_option Elab.async false
set_option linter.all false
set_option maxRecDepth 100000
set_option maxHeartbeats 4000000
namespace K
open PySem PySem.Spec PyProof.Rows L2 Sv
/-! ### letters with their origins -/
theorem signs_tx (l : List Nat) : Sv.signs (tx l) = l.map fun c => tx [c] := rfl
theorem signs_jn (ps : List Str) : Sv.signs (jn ps) = (ps.map Sv.signs).flatten := by
  unfold jn
  rw [signs_tx]
  induction ps with
  | nil => rfl
  | cons p ps ih =>
    rw [List.map_cons, List.flatten_cons, List.map_append, ih, List.map_cons, List.flatten_cons]
    rfl
/-- the letters of the pieces, each with the index of its piece, from o on -/
def marksFrom : Nat → List Str → List (Str × Nat)
  | _, [] => []
  | o, p :: ps => (Sv.signs p).map (fun c => (c, o)) ++ marksFrom (o + 1) ps
/-- what a list of parts, one for each letter, makes of the marked letters -/
def remark : List Str → List (Str × Nat) → List (Str × Nat)
  | p :: ps, m :: ms => (Sv.signs p).map (fun c => (c, m.2)) ++ remark ps ms
  | _, _ => []
theorem remark_app : ∀ (p1 p2 : List Str) (m1 m2 : List (Str × Nat)), p1.length = m1.length → remark (p1 ++ p2) (m1 ++ m2) = remark p1 m1 ++ remark p2 m2
  | [], _, [], _, _ => rfl
  | [], _, _ :: _, _, h => by simp at h
  | _ :: _, _, [], _, h => by simp at h
  | p :: ps, p2, m :: ms, m2, h => by
    show _ ++ remark (ps ++ p2) (ms ++ m2) = _
    rw [remark_app ps p2 ms m2 (by simpa using h)]
    show _ = (_ ++ remark ps ms) ++ _
    rw [List.append_assoc]
theorem remark_same (o : Nat) : ∀ (ps : List Str) (cs : List Str), ps.length = cs.length → remark ps (cs.map fun c => (c, o)) = (Sv.signs (jn ps)).map fun c => (c, o)
  | [], [], _ => rfl
  | [], _ :: _, h => by simp at h
  | _ :: _, [], h => by simp at h
  | p :: ps, c :: cs, h => by
    show _ ++ remark ps (cs.map fun c => (c, o)) = _
    rw [remark_same o ps cs (by simpa using h), signs_jn (p :: ps), List.map_cons, List.flatten_cons, List.map_append, signs_jn]
theorem joinFrom_drop (ps : List Str) : ∀ (ns : List Nat) (b c : Nat), joinFrom ps (b + c) ns = joinFrom (ps.drop b) c ns
  | [], _, _ => rfl
  | n :: ns, b, c => by
    show jn ((ps.drop (b + c)).take n) :: joinFrom ps (b + c + n) ns = jn (((ps.drop b).drop c).take n) :: joinFrom (ps.drop b) (c + n) ns
    rw [List.drop_drop, Nat.add_assoc, joinFrom_drop ps ns b (c + n)]
/-- the pieces made anew mark what the parts make of the marked letters -/
theorem remark_marks : ∀ (found ps : List Str) (o : Nat), ps.length = (found.map (·.length)).sum → remark ps (marksFrom o found) = marksFrom o (joinFrom ps 0 (found.map (·.length)))
  | [], ps, o, h => by
    cases ps with
    | nil => rfl
    | cons => simp at h
  | f :: fs, ps, o, h => by
    rw [List.map_cons, List.sum_cons] at h
    have e : ps = ps.take f.length ++ ps.drop f.length := (List.take_append_drop _ _).symm
    have el : (ps.take f.length).length = f.length := by rw [List.length_take]; omega
    have e2 : joinFrom ps 0 ((f :: fs).map (·.length)) = jn (ps.take f.length) :: joinFrom (ps.drop f.length) 0 (fs.map (·.length)) := by
      show jn ((ps.drop 0).take f.length) :: joinFrom ps (0 + f.length) _ = _
      rw [Nat.zero_add, List.drop_zero]
      congr 1
      exact joinFrom_drop ps _ f.length 0
    have sl : (Sv.signs f).length = f.length := signs_len f
    rw [e2]
    show remark ps ((Sv.signs f).map (fun c => (c, o)) ++ marksFrom (o + 1) fs) = _
    conv => lhs; rw [e]
    rw [remark_app _ _ _ _ (by rw [el, List.length_map, sl]), remark_same o _ _ (by rw [el, sl]), remark_marks fs (ps.drop f.length) (o + 1) (by rw [List.length_drop]; omega)]
    rfl
theorem marks_len : ∀ (ps : List Str) (o : Nat), (marksFrom o ps).length = (ps.map (·.length)).sum
  | [], _ => rfl
  | p :: ps, o => by
    have sl : (Sv.signs p).length = p.length := signs_len p
    show ((Sv.signs p).map _ ++ marksFrom (o + 1) ps).length = _
    rw [List.length_append, List.length_map, sl, marks_len ps, List.map_cons, List.sum_cons]
theorem marks_shown : ∀ (ps : List Str) (o : Nat), jn ((marksFrom o ps).map (·.1)) = jn ps
  | [], _ => rfl
  | p :: ps, o => by
    show jn (((Sv.signs p).map (fun c => (c, o)) ++ marksFrom (o + 1) ps).map (·.1)) = _
    rw [List.map_append, List.map_map, jn_app, marks_shown ps, show p :: ps = [p] ++ ps from rfl, jn_app]
    congr 1
    rw [show ((fun x : Str × Nat => x.1) ∘ fun c => (c, o)) = id from rfl, List.map_id, Sv.signs_map, jn_signs, ← tx_of]
    unfold jn
    rw [List.map_singleton, List.flatten_singleton, ← tx_of]
theorem jn_one (p : Str) : jn [p] = p := by
  unfold jn
  rw [List.map_singleton, List.flatten_singleton, ← tx_of]
theorem app_nil (p : Str) : p ++ jn [] = p := by
  conv => lhs; rw [← jn_one p, ← jn_app, List.append_nil, jn_one]
theorem nil_app (p : Str) : jn [] ++ p = p := by
  conv => lhs; rw [← jn_one p, ← jn_app, List.nil_append, jn_one]
/-- the letters of a marked list that come from one index make its piece -/
theorem marks_piece : ∀ (ps : List Str) (o i : Nat), jn (((marksFrom o ps).filter fun m => decide (m.2 = o + i)).map (·.1)) = ps.getD i ""
  | [], _, _ => rfl
  | p :: ps, o, i => by
    have hlow : ∀ (qs : List Str) (o' : Nat), o < o' → (marksFrom o' qs).filter (fun m => decide (m.2 = o)) = [] := by
      intro qs
      induction qs with
      | nil => intro _ _; rfl
      | cons q qs ih =>
        intro o' ho
        show ((Sv.signs q).map (fun c => (c, o')) ++ marksFrom (o' + 1) qs).filter _ = []
        rw [List.filter_append, ih (o' + 1) (by omega), List.append_nil, List.filter_eq_nil_iff]
        intro m mm
        obtain ⟨c, _, rfl⟩ := List.mem_map.mp mm
        simp
        omega
    show jn ((((Sv.signs p).map (fun c => (c, o)) ++ marksFrom (o + 1) ps).filter _).map (·.1)) = _
    rw [List.filter_append, List.map_append, jn_app]
    cases i with
    | zero =>
      rw [Nat.add_zero, hlow ps (o + 1) (by omega)]
      have e : ((Sv.signs p).map fun c => (c, o)).filter (fun m => decide (m.2 = o)) = (Sv.signs p).map fun c => (c, o) := by
        rw [List.filter_eq_self]
        intro m mm
        obtain ⟨c, _, rfl⟩ := List.mem_map.mp mm
        simp
      rw [e, List.map_map, show ((fun x : Str × Nat => x.1) ∘ fun c => (c, o)) = id from rfl, List.map_id, Sv.signs_map, jn_signs, ← tx_of]
      exact app_nil p
    | succ i =>
      have e : ((Sv.signs p).map fun c => (c, o)).filter (fun m => decide (m.2 = o + (i + 1))) = [] := by
        rw [List.filter_eq_nil_iff]
        intro m mm
        obtain ⟨c, _, rfl⟩ := List.mem_map.mp mm
        simp
      rw [e]
      have := marks_piece ps (o + 1) i
      rw [show o + 1 + i = o + (i + 1) by omega] at this
      rw [this]
      exact nil_app _
/-- the origins, in order, are the trace -/
theorem marks_trace (ps : List Str) : (marksFrom 0 ps).map (fun m => ((m.2 : Nat) : Int)) = traceOf ps := by
  have main : ∀ (qs : List Str) (o : Nat), (marksFrom o qs).map (fun m => ((m.2 : Nat) : Int)) = ((List.range qs.length).map fun i => List.replicate (qs.getD i "").length (((o + i : Nat)) : Int)).flatten := by
    intro qs
    induction qs with
    | nil => intro _; rfl
    | cons q qs ih =>
      intro o
      show ((Sv.signs q).map (fun c => (c, o)) ++ marksFrom (o + 1) qs).map _ = _
      rw [List.map_append, ih, List.length_cons, List.range_succ_eq_map, List.map_cons, List.flatten_cons, List.map_map, List.map_map]
      congr 1
      · rw [List.eq_replicate_iff]
        refine ⟨by rw [List.length_map]; exact signs_len q, fun x m => ?_⟩
        obtain ⟨c, _, rfl⟩ := List.mem_map.mp m
        rfl
      · congr 1
        refine List.map_congr_left fun i _ => ?_
        show List.replicate (qs.getD i "").length _ = List.replicate ((q :: qs).getD (i + 1) "").length _
        rw [show o + 1 + i = o + (i + 1) by omega]
        rfl
  rw [main ps 0]
  unfold traceOf traceTake
  congr 1
  refine List.map_congr_left fun i _ => ?_
  rw [Nat.zero_add]
/-- the marked letters behind a list -/
def marked (Rs : List Rl) (w : Str) : List (Str × Nat) := marksFrom 0 (piecesOf Rs w)
theorem marked_snoc (Rs : List Rl) (R : Rl) (w : Str) : marked (Rs ++ [R]) w = remark (parts R (formOf Rs w)) (marked Rs w) := by
  unfold marked
  rw [piecesOf_snoc, remark_marks]
  · unfold piecesStep
    rw [piecesOf_jn]
  · rw [parts_len, ← jn_len, piecesOf_jn]
    rfl
theorem marked_len (Rs : List Rl) (w : Str) : (marked Rs w).length = (formOf Rs w).length := by
  unfold marked
  rw [marks_len, ← jn_len, piecesOf_jn]
theorem marked_shown (Rs : List Rl) (w : Str) : jn ((marked Rs w).map (·.1)) = formOf Rs w := by
  unfold marked
  rw [marks_shown, piecesOf_jn]
/-- marked letters as they lie in the heap -/
def MarksAt (K : PySem.W.Frag) (H : Hp) (p : Addr) (ms : List (Str × Nat)) : Prop := ∃ as : List Addr, H p = some (.lst (as.map V.ref)) ∧ as.length = ms.length ∧ ∀ i, i < ms.length → SqT K H (as.getD i 0) [.str (ms.getD i ("", 0)).1, .int ((ms.getD i ("", 0)).2 : Nat)]
theorem MarksAt.same {K : PySem.W.Frag} {H H' : Hp} {p : Addr} {ms : List (Str × Nat)} (h : MarksAt K H p ms) (s : Same H H') : MarksAt K H' p ms := by
  obtain ⟨as, a, b, c⟩ := h
  exact ⟨as, s _ _ a, b, fun i hi => same_t s (c i hi)⟩
theorem marks_ones : ∀ (l : List Nat) (o j : Nat), j < l.length → (marksFrom o (l.map fun c => tx [c])).getD j ("", 0) = (tx [l.getD j 0], o + j)
  | [], _, _, h => by simp at h
  | c :: l, o, j, h => by
    have e : marksFrom o ((c :: l).map fun c => tx [c]) = (tx [c], o) :: marksFrom (o + 1) (l.map fun c => tx [c]) := rfl
    rw [e]
    cases j with
    | zero => rfl
    | succ j =>
      show (marksFrom (o + 1) (l.map fun c => tx [c])).getD j ("", 0) = (tx [l.getD j 0], o + (j + 1))
      rw [marks_ones l (o + 1) j (by simpa using h), show o + 1 + j = o + (j + 1) by omega]
theorem marked_nil (w : Str) (j : Nat) (h : j < w.length) : (marked [] w).getD j ("", 0) = (tx [w.cps.getD j 0], j) := by
  have := marks_ones w.cps.toList 0 j (by rw [Array.length_toList]; exact h)
  rw [Nat.zero_add] at this
  show (marksFrom 0 (w.cps.toList.map fun c => tx [c])).getD j ("", 0) = _
  rw [this]
  congr 2
  simp [List.getD_eq_getElem?_getD, Array.getD_eq_getD_getElem?]
theorem marked_take (w : Str) (i : Nat) (h : i < w.length) : (marked [] w).take (i + 1) = (marked [] w).take i ++ [(tx [w.cps.getD i 0], i)] := by
  have hl : i < (marked [] w).length := by rw [marked_len]; exact h
  have e := marked_nil w i h
  rw [List.getD_eq_getElem?_getD, List.getElem?_eq_getElem hl] at e
  have e : (marked [] w)[i] = (tx [w.cps.getD i 0], i) := e
  rw [List.take_add_one, List.getElem?_eq_getElem hl, e]
  rfl
theorem signs_take (x : Str) (m : Nat) (h : m < x.length) : (Sv.signs x).take (m + 1) = (Sv.signs x).take m ++ [tx [x.cps.getD m 0]] := by
  have h' : m < x.cps.size := h
  have e : (Sv.signs x)[m]? = some (tx [x.cps.getD m 0]) := by
    rw [Sv.signs_map, List.getElem?_map, Array.getElem?_toList, Array.getD_eq_getD_getElem?, Array.getElem?_eq_getElem h']
    rfl
  rw [List.take_add_one, e]
  rfl
theorem form_3 {k : Int} {Rs : List Rl} {w : Str} (mk : ∀ R ∈ Rs, Made k R) : ∀ i, i ≤ Rs.length → (formOf (Rs.take i) w).length ≤ w.length * 3 ^ i
  | 0, _ => by
    show w.length ≤ w.length * 1
    omega
  | i + 1, h => by
    have ih := form_3 (w := w) mk i (by omega)
    rw [take_succ_rl Rs h, formOf_snoc, Nat.pow_succ, ← Nat.mul_assoc]
    have := change_3 (mk _ (getD_rl h)) (formOf (Rs.take i) w)
    omega
theorem form_648 {k : Int} {Rs : List Rl} {w : Str} (mk : ∀ R ∈ Rs, Made k R) (hl : Rs.length ≤ 4) (hw : w.length ≤ 8) {i : Nat} (h : i ≤ Rs.length) : (formOf (Rs.take i) w).length ≤ 648 := by
  have a := form_3 (w := w) mk i h
  have : 3 ^ i ≤ 3 ^ 4 := Nat.pow_le_pow_right (n := 3) (i := i) (j := 4) (by decide) (by omega)
  have := Nat.mul_le_mul hw this
  have e : 8 * 3 ^ 4 = 648 := rfl
  omega
theorem sqT_upd {K : PySem.W.Frag} {H : Hp} {p r : Addr} {xs l : List V} {y : HO} (h : SqT K H p xs) (hr : H r = some (.lst l)) : SqT K (upd H r y) p xs := by
  rcases h with z | z
  · rcases z with z | ⟨o, z⟩
    · exact .inl (.inl (by rw [upd_ne (fun e => by rw [e, hr] at z; cases z)]; exact z))
    · exact .inl (.inr ⟨o, by rw [upd_ne (fun e => by rw [e, hr] at z; cases z)]; exact z⟩)
  · exact .inr z
/-- the marked letters lie behind these addresses -/
def MsAt (K : PySem.W.Frag) (H : Hp) (as : List Addr) (ms : List (Str × Nat)) : Prop := as.length = ms.length ∧ ∀ i, i < ms.length → SqT K H (as.getD i 0) [.str (ms.getD i ("", 0)).1, .int ((ms.getD i ("", 0)).2 : Nat)]
theorem MsAt.app {K : PySem.W.Frag} {H : Hp} {as bs : List Addr} {ms ns : List (Str × Nat)} (a : MsAt K H as ms) (b : MsAt K H bs ns) : MsAt K H (as ++ bs) (ms ++ ns) := by
  refine ⟨by rw [List.length_append, List.length_append, a.1, b.1], fun i hi => ?_⟩
  rw [List.length_append] at hi
  by_cases c : i < ms.length
  · have h := a.2 i c
    rw [List.getD_eq_getElem?_getD, List.getElem?_append_left (by rw [a.1]; exact c), ← List.getD_eq_getElem?_getD, List.getD_eq_getElem?_getD (l := ms ++ ns), List.getElem?_append_left c, ← List.getD_eq_getElem?_getD]
    exact h
  · have h := b.2 (i - ms.length) (by omega)
    rw [List.getD_eq_getElem?_getD, List.getElem?_append_right (by rw [a.1]; omega), a.1, ← List.getD_eq_getElem?_getD, List.getD_eq_getElem?_getD (l := ms ++ ns), List.getElem?_append_right (by omega), ← List.getD_eq_getElem?_getD]
    exact h
theorem MsAt.same {K : PySem.W.Frag} {H H' : Hp} {as : List Addr} {ms : List (Str × Nat)} (h : MsAt K H as ms) (s : Same H H') : MsAt K H' as ms := ⟨h.1, fun i hi => same_t s (h.2 i hi)⟩
theorem MsAt.upd {K : PySem.W.Frag} {H : Hp} {as : List Addr} {ms : List (Str × Nat)} {r : Addr} {l : List V} {y : HO} (h : MsAt K H as ms) (hr : H r = some (.lst l)) : MsAt K (upd H r y) as ms := ⟨h.1, fun i hi => sqT_upd (h.2 i hi) hr⟩
theorem MsAt.nil {K : PySem.W.Frag} {H : Hp} : MsAt K H [] [] := ⟨rfl, fun _ z => absurd z (Nat.not_lt_zero _)⟩
theorem MsAt.one {K : PySem.W.Frag} {H : Hp} {t : Addr} {c : Str} {o : Nat} (h : SqT K H t [.str c, .int (o : Nat)]) : MsAt K H [t] [(c, o)] := by
  refine ⟨rfl, fun i hi => ?_⟩
  have hi : i < 1 := hi
  rw [show i = 0 by omega]
  exact h
theorem remark_take (ps : List Str) (ms : List (Str × Nat)) (i : Nat) (h1 : i < ps.length) (h2 : ps.length = ms.length) : remark (ps.take (i + 1)) (ms.take (i + 1)) = remark (ps.take i) (ms.take i) ++ (Sv.signs (ps.getD i "")).map fun c => (c, (ms.getD i ("", 0)).2) := by
  have h3 : i < ms.length := by omega
  have e1 : ps.take (i + 1) = ps.take i ++ [ps.getD i ""] := by
    rw [List.take_add_one, List.getElem?_eq_getElem h1, List.getD_eq_getElem?_getD, List.getElem?_eq_getElem h1]
    rfl
  have e2 : ms.take (i + 1) = ms.take i ++ [ms.getD i ("", 0)] := by
    rw [List.take_add_one, List.getElem?_eq_getElem h3, List.getD_eq_getElem?_getD, List.getElem?_eq_getElem h3]
    rfl
  rw [e1, e2, remark_app _ _ _ _ (by rw [List.length_take, List.length_take]; omega)]
  congr 1
  show _ ++ [] = _
  rw [List.append_nil]
theorem remark_len : ∀ (ps : List Str) (ms : List (Str × Nat)), ps.length = ms.length → (remark ps ms).length = (ps.map (·.length)).sum
  | [], [], _ => rfl
  | [], _ :: _, h => by simp at h
  | _ :: _, [], h => by simp at h
  | p :: ps, m :: ms, h => by
    have sl : (Sv.signs p).length = p.length := signs_len p
    show ((Sv.signs p).map _ ++ remark ps ms).length = _
    rw [List.length_append, List.length_map, sl, remark_len ps ms (by simpa using h), List.map_cons, List.sum_cons]
theorem remark_some (ps : List Str) (ms : List (Str × Nat)) (j : Nat) (h : ps.length = ms.length) : (remark (ps.take j) (ms.take j)).length ≤ (ps.map (·.length)).sum := by
  rw [remark_len _ _ (by rw [List.length_take, List.length_take, h]), List.map_take]
  exact sum_take_le _ _
/-- the letters of the pieces are single signs of what they make -/
theorem marks_sign : ∀ (ps : List Str) (o : Nat), (marksFrom o ps).map (·.1) = Sv.signs (jn ps)
  | [], _ => rfl
  | p :: ps, o => by
    show ((Sv.signs p).map (fun c => (c, o)) ++ marksFrom (o + 1) ps).map (·.1) = _
    rw [List.map_append, List.map_map, marks_sign ps, signs_jn (p :: ps), List.map_cons, List.flatten_cons, ← signs_jn]
    congr 1
    exact List.map_id _
theorem mark_sign (Rs : List Rl) (w : Str) (j : Nat) (h : j < (formOf Rs w).length) : ((marked Rs w).getD j ("", 0)).1 = tx [(formOf Rs w).cps.getD j 0] := by
  have e : (marked Rs w).map (·.1) = Sv.signs (formOf Rs w) := by
    unfold marked
    rw [marks_sign, piecesOf_jn]
  have h' : j < (formOf Rs w).cps.size := h
  have e2 : ((marked Rs w).map (·.1))[j]? = some (tx [(formOf Rs w).cps.getD j 0]) := by
    rw [e, Sv.signs_map, List.getElem?_map, Array.getElem?_toList, Array.getD_eq_getD_getElem?, Array.getElem?_eq_getElem h']
    rfl
  rw [List.getElem?_map] at e2
  have hm : j < (marked Rs w).length := by rw [marked_len]; exact h
  rw [List.getElem?_eq_getElem hm] at e2
  rw [List.getD_eq_getElem?_getD, List.getElem?_eq_getElem hm]
  exact Option.some.inj e2
def sp_piece_of (K : PySem.W.Frag) : Sp := fun vs H Q E => ∃ (k : Int) (a : Addr) (Rs : List Rl) (w : Str) (at_ : Int), vs = [.int k, .ref a, .str w, .int at_] ∧ RulesAt K H a Rs ∧ (∀ R ∈ Rs, R.Small) ∧ Rs.length ≤ 1000 ∧ w.length ≤ 10000 ∧
  OrE K H E (match errL k Rs w with | some e => some e | none => if at_ < 0 ∨ (w.length : Int) ≤ at_ then some .number else if big Rs w = true then some .large else none) fun H' => ∀ H'', Same H' H'' → Q (.str ((piecesOf Rs w).getD at_.toNat "")) H''
def sp_lost (K : PySem.W.Frag) : Sp := fun vs H Q E => ∃ (k : Int) (a : Addr) (Rs : List Rl) (w : Str), vs = [.int k, .ref a, .str w] ∧ RulesAt K H a Rs ∧ (∀ R ∈ Rs, R.Small) ∧ Rs.length ≤ 1000 ∧ w.length ≤ 10000 ∧
  OrE K H E (errS k Rs w) fun H' => ∀ p H'', Same H' H'' → H'' p = some (.lst (((List.range (piecesOf Rs w).length).filter fun i => decide ((piecesOf Rs w).getD i "" = "")).map fun i => V.int (i : Nat))) → Q (.ref p) H''
def sp_law_followed (K : PySem.W.Frag) : Sp := fun vs H Q E => ∃ (k : Int) (a : Addr) (Rs : List Rl) (w : Str), vs = [.ref a, .str w] ∧ RulesAt K H a Rs ∧ (∀ R ∈ Rs, Made k R) ∧ Rs.length ≤ 4 ∧ w.length ≤ 8 ∧
  ∀ p H', Same H H' → MarksAt K H' p (marked Rs w) → Q (.ref p) H'
end K

set_option Elab.async false
set_option linter.all false
set_option maxRecDepth 100000
set_option maxHeartbeats 4000000
namespace K
open PySem PySem.Spec PyProof.Rows L2 Sv
def top (i : Nat) : Stmt := PySem.Challenge.pw_soundturns_k08_traces_and_pieces.main.body.getD i (.Pass ⟨0, 0, 0, 0⟩)
/-- what the top has left under the names -/
structure Tops (K : PySem.W.Frag) (mg : Str → Option Value) : Prop where
  c_EDGE : ∃ u, mg "EDGE" = some u ∧ RelV (.str "#") u
  c_LEAST_LETTERS : ∃ u, mg "LEAST_LETTERS" = some u ∧ RelV (.int 2) u
  c_LETTERS : ∃ u, mg "LETTERS" = some u ∧ RelV (.str "abcdef") u
  c_LONGEST : ∃ u, mg "LONGEST" = some u ∧ RelV (.int 60) u
  c_LONGEST_MADE : ∃ u, mg "LONGEST_MADE" = some u ∧ RelV (.int 2000) u
  c_MOST_NEW : ∃ u, mg "MOST_NEW" = some u ∧ RelV (.int 3) u
  c_MOST_PLACES : ∃ u, mg "MOST_PLACES" = some u ∧ RelV (.int 2) u
  c_MOST_RULES : ∃ u, mg "MOST_RULES" = some u ∧ RelV (.int 8) u
  f_all : mg "all" = none
  f_enumerate : mg "enumerate" = none
  f_int : mg "int" = none
  f_len : mg "len" = none
  f_list : mg "list" = none
  f_range : mg "range" = none
  f_repr : mg "repr" = none
  f_tuple : mg "tuple" = none
  e_ShiftError : ExcF K mg "ShiftError"
  e_NotWord : ExcF K mg "NotWord"
  e_NotRule : ExcF K mg "NotRule"
  e_BadNumber : ExcF K mg "BadNumber"
  e_TooLarge : ExcF K mg "TooLarge"
  m_NotWord : PySem.W.exmOne K (.ref (He.ga K "NotWord")) (.ref (He.ga K "ShiftError")) = some true
  m_NotRule : PySem.W.exmOne K (.ref (He.ga K "NotRule")) (.ref (He.ga K "ShiftError")) = some true
  m_BadNumber : PySem.W.exmOne K (.ref (He.ga K "BadNumber")) (.ref (He.ga K "ShiftError")) = some true
  m_TooLarge : PySem.W.exmOne K (.ref (He.ga K "TooLarge")) (.ref (He.ga K "ShiftError")) = some true
  n_NotWord_BadNumber : PySem.W.exmOne K (.ref (He.ga K "NotWord")) (.ref (He.ga K "BadNumber")) = some false
  n_NotRule_BadNumber : PySem.W.exmOne K (.ref (He.ga K "NotRule")) (.ref (He.ga K "BadNumber")) = some false
  n_BadNumber_BadNumber : PySem.W.exmOne K (.ref (He.ga K "BadNumber")) (.ref (He.ga K "BadNumber")) = some true
  n_TooLarge_BadNumber : PySem.W.exmOne K (.ref (He.ga K "TooLarge")) (.ref (He.ga K "BadNumber")) = some false
def sp_law (K : PySem.W.Frag) : Sp := fun vs H Q E => ∃ (a : Addr) (ns : List Int), vs = [.ref a] ∧ SqL K H a (ns.map V.int) ∧ ns.length ≤ 63 ∧ ∀ H', Q (.bl true) H'
def sp_law_refuses (K : PySem.W.Frag) : Sp := fun vs H Q E => ∃ (k : Int) (a : Addr) (Rs : List Rl) (w : Str) (m : Int), vs = [.int k, .ref a, .str w, .int m] ∧ RulesAt K H a Rs ∧ (∀ R ∈ Rs, R.Small) ∧ Rs.length ≤ 1000 ∧ w.length ≤ 10000 ∧
  errL k Rs w = none ∧ (m < 0 ∨ (w.length : Int) ≤ m) ∧ ∀ H', Same H H' → Q (.bl true) H'
section
variable {P : Program} {w : World} {K : PySem.W.Frag} {mg : Str → Option Value} {base : Heap} {f : Addr} {fd : FuncData}
abbrev s_is_number_of_letters : Stmt := top 10
theorem sc_is_number_of_letters : FnScope ["k"] ["k"] (defScope s_is_number_of_letters) := ⟨rfl, rfl, rfl, by decide +kernel, rfl, by decide +kernel, by decide +kernel⟩
theorem ok_is_number_of_letters (T : Tops K mg) (F : Fun K "is_number_of_letters" "is_number_of_letters" s_is_number_of_letters f fd) : FnOk P w K mg base (L2.CX P w) 1 f fd ["k"] (sp_is_number_of_letters K) := by
  refine F.okX sc_is_number_of_letters (fun vs H Q E h => ?_) (fun cdv A outer s H vs Q E hr h => ?_)
  · obtain ⟨k, rfl, h⟩ := h
    rfl
  · obtain ⟨k, rfl, h⟩ := h
    refine ⟨_, (pss_one (ps_ret (pe_chain op_le op_le (pe_gl rfl T.c_LEAST_LETTERS) (pv 0) (pe_callB call_len_str rfl T.f_len boot_len (pa_cons (pe_gl rfl T.c_LETTERS) pa_nil))))), ?_⟩
    refine ⟨_, rfl, _, _, rfl, rfl, _, rfl, ?_⟩
    unfold numOk at h
    by_cases c : (2 : Int) ≤ k
    · rw [decide_eq_true c, Bool.true_and] at h
      refine iT (dT c) ?_
      exact ⟨_, rfl, by decide +kernel, _, _, rfl, rfl, h⟩
    · rw [decide_eq_false c, Bool.false_and] at h
      exact iF (dF c) h
abbrev s_check_number : Stmt := top 11
theorem sc_check_number : FnScope ["k"] ["k"] (defScope s_check_number) := ⟨rfl, rfl, rfl, by decide +kernel, rfl, by decide +kernel, by decide +kernel⟩
theorem ok_check_number (T : Tops K mg) (C_is_number_of_letters : CalX P w K mg base 1 "is_number_of_letters" (sp_is_number_of_letters K)) (F : Fun K "check_number" "check_number" s_check_number f fd) : FnOk P w K mg base (L2.CX P w) 2 f fd ["k"] (sp_check_number K) := by
  refine F.okX sc_check_number (fun vs H Q E h => ?_) (fun cdv A outer s H vs Q E hr h => ?_)
  · obtain ⟨k, rfl, h⟩ := h
    rfl
  · obtain ⟨k, rfl, h⟩ := h
    refine ⟨_, (pss_one (ps_if (pt_not (pt_val (pe_cx (E := E) C_is_number_of_letters (hr.mono (by decide)) rfl (passes_call (takes_of rfl rfl rfl rfl) (fun _ _ _ _ z => z)) (pa_cons (pv 0) pa_nil)))) (pss_one (ps_raiseC T.e_BadNumber rfl (takes_of rfl rfl rfl rfl) rfl)) pss_nil)), ?_⟩
    refine ⟨_, rfl, k, rfl, _, rfl, ?_⟩
    cases e : numOk k <;> rw [e] at h <;> exact h
abbrev s_letters_of : Stmt := top 12
theorem sc_letters_of : FnScope ["k"] ["k"] (defScope s_letters_of) := ⟨rfl, rfl, rfl, by decide +kernel, rfl, by decide +kernel, by decide +kernel⟩
theorem ok_letters_of (T : Tops K mg) (C_check_number : CalX P w K mg base 2 "check_number" (sp_check_number K)) (F : Fun K "letters_of" "letters_of" s_letters_of f fd) : FnOk P w K mg base (L2.CX P w) 3 f fd ["k"] (sp_letters_of K) := by
  refine F.okX sc_letters_of (fun vs H Q E h => ?_) (fun cdv A outer s H vs Q E hr h => ?_)
  · obtain ⟨k, rfl, h⟩ := h
    rfl
  · obtain ⟨k, rfl, h⟩ := h
    refine ⟨_, (pss_cons (ps_expr (pe_cx (E := E) C_check_number (hr.mono (by decide)) rfl (passes_call (takes_of rfl rfl rfl rfl) (fun _ _ _ _ z => z)) (pa_cons (pv 0) pa_nil)))
 (pss_one (ps_ret (pe_slice sl_str (pe_gl rfl T.c_LETTERS) po_none (po_some (pv 0)))))), ?_⟩
    refine ⟨_, rfl, k, rfl, ?_⟩
    cases e : numOk k <;> rw [e] at h
    · exact h
    · exact ⟨_, rfl, _, rfl, _, rfl, by decide +kernel, h⟩
abbrev s_is_word : Stmt := top 13
theorem sc_is_word : FnScope ["k", "word", "letters"] ["k", "word"] (defScope s_is_word) := ⟨rfl, rfl, rfl, by decide +kernel, rfl, by decide +kernel, by decide +kernel⟩
theorem ok_is_word (T : Tops K mg) (C_letters_of : CalX P w K mg base 3 "letters_of" (sp_letters_of K)) (F : Fun K "is_word" "is_word" s_is_word f fd) : FnOk P w K mg base (L2.CX P w) 4 f fd ["k", "word"] (sp_is_word K) := by
  refine F.okX sc_is_word (fun vs H Q E h => ?_) (fun cdv A outer s H vs Q E hr h => ?_)
  · obtain ⟨k, w, rfl, hw, h⟩ := h
    rfl
  · obtain ⟨k, w, rfl, hw, h⟩ := h
    refine ⟨_, (pss_cons (ps_set (i := 2) sc_is_word.nd rfl (Or.inl rfl) (pe_cx (E := E) C_letters_of (hr.mono (by decide)) rfl (passes_call (takes_of rfl rfl rfl rfl) (fun _ _ _ _ z => z)) (pa_cons (pv 0) pa_nil)))
 (pss_one (ps_ret (pe_and (pe_cmpR op_le (pe_callB call_len_str rfl T.f_len boot_len (pa_cons (pv 1) pa_nil)) (pe_gl rfl T.c_LONGEST) (nomark _)) (pe_one (pe_cmpR op_eq (pe_bm PySem.F.plainAttrs_str PySem.F.slot_str_strip PySem.F.type_str_strip mt_stripChars (pv 1) (pa_cons (pv 2) pa_nil)) pe_str (nomark _))))))), ?_⟩
    refine ⟨_, rfl, k, rfl, ?_⟩
    cases e : numOk k <;> rw [e] at h
    · exact h
    · refine ⟨_, rfl, _, rfl, hw, _, _, rfl, rfl, _, rfl, ?_⟩
      simp only [if_true] at h
      unfold isWord at h
      cases c : decide (((w.length : Nat) : Int) ≤ 60) <;> rw [c] at h
      · exact h
      · refine ⟨_, rfl, rfl, _, rfl, _, _, rfl, rfl, hw, rfl, ?_⟩
        rw [decS]
        exact h
abbrev s_check_word : Stmt := top 14
theorem sc_check_word : FnScope ["k", "word"] ["k", "word"] (defScope s_check_word) := ⟨rfl, rfl, rfl, by decide +kernel, rfl, by decide +kernel, by decide +kernel⟩
theorem ok_check_word (T : Tops K mg) (C_is_word : CalX P w K mg base 4 "is_word" (sp_is_word K)) (F : Fun K "check_word" "check_word" s_check_word f fd) : FnOk P w K mg base (L2.CX P w) 5 f fd ["k", "word"] (sp_check_word K) := by
  refine F.okX sc_check_word (fun vs H Q E h => ?_) (fun cdv A outer s H vs Q E hr h => ?_)
  · obtain ⟨k, w, rfl, hw, h⟩ := h
    rfl
  · obtain ⟨k, w, rfl, hw, h⟩ := h
    refine ⟨_, (pss_one (ps_if (pt_not (pt_val (pe_cx (E := E) C_is_word (hr.mono (by decide)) rfl (passes_call (takes_of rfl rfl rfl rfl) (fun _ _ _ _ z => z)) (pa_cons (pv 0) (pa_cons (pv 1) pa_nil))))) (pss_one (ps_raiseC T.e_NotWord rfl (takes_of rfl rfl rfl rfl) rfl)) pss_nil)), ?_⟩
    refine ⟨_, rfl, _, rfl, k, w, rfl, hw, ?_⟩
    cases e : numOk k <;> rw [e] at h
    · exact h
    · refine ⟨_, rfl, ?_⟩
      cases c : isWord k w <;> rw [c] at h <;> exact h
abbrev s_is_set : Stmt := top 20
theorem sc_is_set : FnScope ["letters", "place", "letter"] ["letters", "place"] (defScope s_is_set) := ⟨rfl, rfl, rfl, by decide +kernel, rfl, by decide +kernel, by decide +kernel⟩
theorem ok_is_set (T : Tops K mg) (F : Fun K "is_set" "is_set" s_is_set f fd) : FnOk P w K mg base (L2.CX P w) 1 f fd ["letters", "place"] (sp_is_set K) := by
  refine F.okX sc_is_set (fun vs H Q E h => ?_) (fun cdv A outer s H vs Q E hr h => ?_)
  · obtain ⟨l, p, rfl, hl, h⟩ := h
    rfl
  · obtain ⟨l, p, rfl, hl, h⟩ := h
    refine ⟨_, (pss_one (ps_ret (pe_and (pe_cmpR op_ne (pv 1) pe_str (nomark _)) (pe_one (pe_cmpR op_eq (pv 1) (pe_join pe_str (pe_lc (own := [("letter", 2)]) rfl sc_is_set.nd (pi_str (pv 0)) (blkOk_by (N := ["letters", "place", "letter"]) (sc := defScope s_is_set) (by decide +kernel)) (fun _ _ _ _ _ => (pg_name (i := 2) sc_is_set.nd rfl (Or.inl rfl))) (fun _ _ _ _ _ => pts_one (pt_cmpR op_in_sign (pv 2) (pv 1) (by rfl))) (fun _ _ _ _ _ => (pv 2)))) (nomark _)))))), ?_⟩
    refine ⟨_, rfl, rfl, _, rfl, ?_⟩
    rw [decS]
    unfold isSet at h
    cases c : decide (p = "") <;> rw [c] at h
    · refine ⟨_, rfl, ⟨_, rfl⟩, _, rfl, _, rfl, fun D hD => ?_⟩
      refine lc_pure (walk_sign (z := l)) (fun i => keep (decide (l.cps.getD i 0 ∈ p.cps.toList)) (.str (tx [l.cps.getD i 0]))) hD (le_line hl) (fun _ _ => trivial) (fun i H x H' y => by rw [y.1]; exact Same.refl _) (fun i x H1 H2 N C hi s1 y hN hC => ?_) (fun H1 s1 hl1 => ?_)
      · obtain ⟨rfl, rfl⟩ := y
        refine ⟨rfl, _, rfl, _, rfl, _, _, rfl, rfl, _, rfl, ?_⟩
        cases m : decide (l.cps.getD i 0 ∈ p.cps.toList)
        · exact hN (keep_f m) _ (Same.refl _)
        · exact ⟨_, rfl, hC _ (keep_t m) _ (Same.refl _)⟩
      · rw [range_keep l.cps (fun c => decide (c ∈ p.cps.toList)) (fun c => .str (tx [c]))] at hl1
        refine ⟨_, _, (picked l p).map fun c => tx [c], rfl, rfl, .inl (.inl (Rd.of ?_)), ?_, rfl, ?_⟩
        · rw [hl1, List.map_map]
          rfl
        · rw [sum_signs]
          have := List.length_filter_le (fun c => decide (c ∈ p.cps.toList)) l.cps.toList
          have e : l.cps.toList.length = l.length := Array.length_toList
          have e2 : (picked l p).length ≤ l.length := by rw [← e]; exact this
          have e3 : ("" : Str).length = 0 := rfl
          rw [e3]
          omega
        · rw [decS, join_jn, jn_signs]
          exact h _ s1
    · exact h _ (Same.refl _)
abbrev s_is_context : Stmt := top 21
theorem sc_is_context : FnScope ["letters", "places", "edge", "at", "place"] ["letters", "places", "edge"] (defScope s_is_context) := ⟨rfl, rfl, rfl, by decide +kernel, rfl, by decide +kernel, by decide +kernel⟩
theorem ok_is_context (T : Tops K mg) (C_is_set : CalX P w K mg base 1 "is_set" (sp_is_set K)) (F : Fun K "_is_context" "_is_context" s_is_context f fd) : FnOk P w K mg base (L2.CX P w) 2 f fd ["letters", "places", "edge"] (sp_is_context K) := by
  refine F.okX sc_is_context (fun vs H Q E h => ?_) (fun cdv A outer s H vs Q E hr h => ?_)
  · obtain ⟨l, a, ps, e, rfl, hT, hl, h⟩ := h
    rfl
  · obtain ⟨l, a, ps, e, rfl, hT, hl, h⟩ := h
    refine ⟨_, (pss_cons (ps_if (pt_cmpR op_gt (pe_callB call_len_seq rfl T.f_len boot_len (pa_cons (pv 1) pa_nil)) (pe_gl rfl T.c_MOST_PLACES) (nomark _)) (pss_one (ps_ret pe_bl)) pss_nil)
 (pss_cons (ps_for (passes_of rfl) rfl (pi_enumT rfl T.f_enumerate (pa_cons (pv 1) pa_nil)) (pg_tup rfl (pgs_cons (pg_name (i := 3) sc_is_context.nd rfl (Or.inl rfl)) (pgs_cons (pg_name (i := 4) sc_is_context.nd rfl (Or.inl rfl)) pgs_nil)))
 (pss_one (ps_if (PW.pt (pw_and (pt_not (pt_val (pe_cx (E := E) C_is_set (hr.mono (by decide)) rfl (passes_call (takes_of rfl rfl rfl rfl) (fun _ _ _ _ z => z)) (pa_cons (pv 0) (pa_cons (pv 4) pa_nil))))) (pw_and1 (pt_not (PW.pt (pw_and (pt_cmpR op_eq (pv 3) (pv 2) (nomark _)) (pw_and1 (pt_cmpR op_eq (pv 4) (pe_gl rfl T.c_EDGE) (nomark _))))))))) (pss_one (ps_ret pe_bl)) pss_nil)))
 (pss_one (ps_ret pe_bl)))), ?_⟩
    refine ⟨_, rfl, a, ps.map V.str, rfl, .inr hT, _, _, rfl, rfl, _, rfl, ?_⟩
    rw [List.length_map]
    unfold isCtx at h
    by_cases c : (2 : Int) < ((ps.length : Nat) : Int)
    · rw [decide_eq_false (by omega), Bool.false_and] at h
      exact iT (dT c) (h _ (Same.refl _))
    · rw [decide_eq_true (by omega), Bool.true_and] at h
      refine iF (dF c) ⟨_, rfl, _, _, rfl, hT, ?_⟩
      rw [List.length_map]
      refine for_it walk_en (fun i σ H' => Same H H' ∧ (∀ j, j < i → ctxAt l (ps.getD j "") e (j : Nat) = true) ∧ ∃ x y, σ = [some (.str l), some (.ref a), some (.int e), x, y]) ⟨Same.refl _, fun j hj => absurd hj (Nat.not_lt_zero _), none, none, rfl⟩
        (fun i σ H' _ p => same_t p.1 hT) (fun i x σ H1 H2 hi p y => ?_) (fun σ H1 p => ?_)
      · obtain ⟨s1, all, u, v, rfl⟩ := p
        obtain ⟨t, rfl, ht, hy⟩ := y
        simp only [getD_strs hi] at hy
        subst hy
        refine ⟨t, _, rfl, .inl (Rd.of upd_same), rfl, _, _, rfl, _, _, rfl, rfl, ?_⟩
        refine ⟨_, rfl, _, rfl, l, _, rfl, hl, fun H3 s3 => ⟨_, rfl, ?_⟩⟩
        have s4 : Same H H3 := (s1.trans (same_new ht)).trans s3
        cases c1 : isSet l (ps.getD i "")
        · refine ⟨_, rfl, _, rfl, rfl, _, rfl, ?_⟩
          rw [decI]
          cases c2 : decide (((i : Nat) : Int) = e)
          · refine h _ s4 |> fun z => ?_
            rw [all_range_not hi (by unfold ctxAt; rw [c1, c2]; rfl)] at z
            exact z
          · refine ⟨_, rfl, rfl, _, rfl, ?_⟩
            rw [decS]
            cases c3 : decide (ps.getD i "" = "#")
            · refine h _ s4 |> fun z => ?_
              rw [all_range_not hi (by unfold ctxAt; rw [c1, c2, c3]; rfl)] at z
              exact z
            · refine ⟨s4, fun j hj => ?_, _, _, rfl⟩
              rcases Nat.lt_succ_iff_lt_or_eq.mp hj with q | q
              · exact all j q
              · rw [q]
                unfold ctxAt
                rw [c1, c2, c3]
                rfl
        · refine ⟨s4, fun j hj => ?_, _, _, rfl⟩
          rcases Nat.lt_succ_iff_lt_or_eq.mp hj with q | q
          · exact all j q
          · rw [q]
            unfold ctxAt
            rw [c1]
            rfl
      · rw [all_range_succ p.2.1] at h
        exact h _ p.1
abbrev s_is_new : Stmt := top 22
theorem sc_is_new : FnScope ["letters", "new"] ["letters", "new"] (defScope s_is_new) := ⟨rfl, rfl, rfl, by decide +kernel, rfl, by decide +kernel, by decide +kernel⟩
theorem ok_is_new (T : Tops K mg) (F : Fun K "is_new" "is_new" s_is_new f fd) : FnOk P w K mg base (L2.CX P w) 1 f fd ["letters", "new"] (sp_is_new K) := by
  refine F.okX sc_is_new (fun vs H Q E h => ?_) (fun cdv A outer s H vs Q E hr h => ?_)
  · obtain ⟨l, n, rfl, hn, h⟩ := h
    rfl
  · obtain ⟨l, n, rfl, hn, h⟩ := h
    refine ⟨_, (pss_one (ps_ret (pe_and (pe_cmpR op_le (pe_callB call_len_str rfl T.f_len boot_len (pa_cons (pv 1) pa_nil)) (pe_gl rfl T.c_MOST_NEW) (nomark _)) (pe_one (pe_cmpR op_eq (pe_bm PySem.F.plainAttrs_str PySem.F.slot_str_strip PySem.F.type_str_strip mt_stripChars (pv 1) (pa_cons (pv 0) pa_nil)) pe_str (nomark _)))))), ?_⟩
    refine ⟨_, rfl, _, rfl, hn, _, _, rfl, rfl, _, rfl, ?_⟩
    unfold isNew at h
    cases c : decide (((n.length : Nat) : Int) ≤ 3) <;> rw [c] at h
    · exact h
    · refine ⟨_, rfl, rfl, _, rfl, _, _, rfl, rfl, hn, rfl, ?_⟩
      rw [decS]
      exact h
abbrev s_is_rule : Stmt := top 23
theorem sc_is_rule : FnScope ["k", "rule", "letters", "letter", "new", "left", "right"] ["k", "rule"] (defScope s_is_rule) := ⟨rfl, rfl, rfl, by decide +kernel, rfl, by decide +kernel, by decide +kernel⟩
theorem ok_is_rule (T : Tops K mg) (C_is_context : CalX P w K mg base 2 "_is_context" (sp_is_context K)) (C_is_new : CalX P w K mg base 1 "is_new" (sp_is_new K)) (C_letters_of : CalX P w K mg base 3 "letters_of" (sp_letters_of K)) (F : Fun K "is_rule" "is_rule" s_is_rule f fd) : FnOk P w K mg base (L2.CX P w) 4 f fd ["k", "rule"] (sp_is_rule K) := by
  refine F.okX sc_is_rule (fun vs H Q E h => ?_) (fun cdv A outer s H vs Q E hr h => ?_)
  · obtain ⟨k, a, R, rfl, hR, sm, h⟩ := h
    rfl
  · obtain ⟨k, a, R, rfl, hR, sm, h⟩ := h
    refine ⟨_, (pss_cons (ps_set (i := 2) sc_is_rule.nd rfl (Or.inl rfl) (pe_cx (E := E) C_letters_of (hr.mono (by decide)) rfl (passes_call (takes_of rfl rfl rfl rfl) (fun _ _ _ _ z => z)) (pa_cons (pv 0) pa_nil)))
 (pss_cons (ps_asg (pv 1) (pg_tup rfl (pgs_cons (pg_name (i := 3) sc_is_rule.nd rfl (Or.inl rfl)) (pgs_cons (pg_name (i := 4) sc_is_rule.nd rfl (Or.inl rfl)) (pgs_cons (pg_name (i := 5) sc_is_rule.nd rfl (Or.inl rfl)) (pgs_cons (pg_name (i := 6) sc_is_rule.nd rfl (Or.inl rfl)) pgs_nil))))))
 (pss_cons (ps_if (PW.pt (pw_or (pt_cmpR op_ne (pe_callB call_len_str rfl T.f_len boot_len (pa_cons (pv 3) pa_nil)) pe_int (nomark _)) (pw_or (pt_cmpR op_notIn_sign (pv 3) (pv 2) (by rfl)) (pw_or1 (pt_not (pt_val (pe_cx (E := E) C_is_new (hr.mono (by decide)) rfl (passes_call (takes_of rfl rfl rfl rfl) (fun _ _ _ _ z => z)) (pa_cons (pv 2) (pa_cons (pv 4) pa_nil))))))))) (pss_one (ps_ret pe_bl)) pss_nil)
 (pss_one (ps_ret (pe_and (pe_cx (E := E) C_is_context (hr.mono (by decide)) rfl (passes_call (takes_of rfl rfl rfl rfl) (fun _ _ _ _ z => z)) (pa_cons (pv 2) (pa_cons (pv 5) (pa_cons pe_int pa_nil)))) (pe_one (pe_cx (E := E) C_is_context (hr.mono (by decide)) rfl (passes_call (takes_of rfl rfl rfl rfl) (fun _ _ _ _ z => z)) (pa_cons (pv 2) (pa_cons (pv 6) (pa_cons (pe_op op_sub (pe_callB call_len_seq rfl T.f_len boot_len (pa_cons (pv 6) pa_nil)) pe_int) pa_nil))))))))))), ?_⟩
    obtain ⟨al, ar, h1, h2, h3⟩ := hR.ex
    refine ⟨_, rfl, k, rfl, ?_⟩
    cases e : numOk k <;> rw [e] at h
    · exact h
    · refine ⟨_, rfl, a, _, rfl, h1, rfl, _, _, rfl, _, _, rfl, _, _, rfl, _, _, rfl, rfl, ?_⟩
      refine ⟨_, rfl, _, rfl, le_line sm.c, rfl, _, rfl, ?_⟩
      simp only [if_true] at h
      unfold isRule at h
      rw [decI]
      cases c1 : decide (((R.c.length : Nat) : Int) = 1) <;> rw [c1] at h
      · exact h _ (Same.refl _)
      · have c0 : R.c = tx [R.c.cps.getD 0 0] := oneS (by have := of_decide_eq_true c1; omega)
        have hl := letters_len k
        refine ⟨_, rfl, _, rfl, R.c.cps.getD 0 0, letters k, congrArg V.str c0, rfl, _, rfl, ?_⟩
        cases c2 : decide (R.c.cps.getD 0 0 ∈ (letters k).cps.toList) <;> rw [c2] at h
        · exact h _ (Same.refl _)
        · refine ⟨_, rfl, _, rfl, letters k, R.n, rfl, le_line sm.n, _, rfl, ?_⟩
          cases c3 : isNew (letters k) R.n <;> rw [c3] at h
          · exact h _ (Same.refl _)
          · refine ⟨_, rfl, _, rfl, letters k, al, R.l, 0, rfl, h2, by omega, fun H1 s1 => ⟨_, rfl, ?_⟩⟩
            cases c4 : isCtx (letters k) R.l 0 <;> rw [c4] at h
            · exact h _ s1
            · refine ⟨_, rfl, _, rfl, _, rfl, ar, _, rfl, .inr (same_t s1 h3), _, _, rfl, rfl, ?_⟩
              rw [List.length_map]
              exact ⟨letters k, ar, R.r, _, rfl, same_t s1 h3, by omega, fun H2 s2 => h _ (s1.trans s2)⟩
abbrev s_is_rules : Stmt := top 24
theorem sc_is_rules : FnScope ["k", "rules", "rule"] ["k", "rules"] (defScope s_is_rules) := ⟨rfl, rfl, rfl, by decide +kernel, rfl, by decide +kernel, by decide +kernel⟩
theorem ok_is_rules (T : Tops K mg) (C_check_number : CalX P w K mg base 2 "check_number" (sp_check_number K)) (C_is_rule : CalX P w K mg base 4 "is_rule" (sp_is_rule K)) (F : Fun K "is_rules" "is_rules" s_is_rules f fd) : FnOk P w K mg base (L2.CX P w) 5 f fd ["k", "rules"] (sp_is_rules K) := by
  refine F.okX sc_is_rules (fun vs H Q E h => ?_) (fun cdv A outer s H vs Q E hr h => ?_)
  · obtain ⟨k, a, Rs, rfl, hR, sm, hl, h⟩ := h
    rfl
  · obtain ⟨k, a, Rs, rfl, hR, sm, hl, h⟩ := h
    refine ⟨_, (pss_cons (ps_expr (pe_cx (E := E) C_check_number (hr.mono (by decide)) rfl (passes_call (takes_of rfl rfl rfl rfl) (fun _ _ _ _ z => z)) (pa_cons (pv 0) pa_nil)))
 (pss_one (ps_ret (pe_and (pe_cmpR op_le (pe_callB call_len_seq rfl T.f_len boot_len (pa_cons (pv 1) pa_nil)) (pe_gl rfl T.c_MOST_RULES) (nomark _)) (pe_one (pe_callB (cr_all rfl) rfl T.f_all boot_all (pa_cons (pe_lc (own := [("rule", 2)]) rfl sc_is_rules.nd (pi_tup (pv 1)) (blkOk_by (N := ["k", "rules", "rule"]) (sc := defScope s_is_rules) (by decide +kernel)) (fun _ _ _ _ _ => (pg_name (i := 2) sc_is_rules.nd rfl (Or.inl rfl))) (fun _ _ _ _ _ => pts_nil) (fun _ _ _ _ _ => (pe_cx (E := E0) C_is_rule (hr.mono (by decide)) rfl passL (pa_cons (pv 0) (pa_cons (pv 2) pa_nil))))) pa_nil))))))), ?_⟩
    obtain ⟨as, h1, h2, h3⟩ := hR.ex
    refine ⟨_, rfl, k, rfl, ?_⟩
    cases e : numOk k <;> rw [e] at h
    · exact h
    · simp only [if_true] at h
      unfold isRules at h
      refine ⟨_, rfl, a, _, rfl, .inr h1, _, _, rfl, rfl, _, rfl, ?_⟩
      rw [List.length_map, h2]
      cases c : decide (((Rs.length : Nat) : Int) ≤ 8) <;> rw [c] at h
      · exact h _ (Same.refl _)
      · refine ⟨_, rfl, a, rfl, ⟨_, h1⟩, fun D hD => ?_⟩
        refine lc_pure (walk_tup (xs := as.map V.ref)) (fun i => some (.bl (isRule k (Rs.getD i Rl.nil)))) hD (by rw [List.length_map, h2]; exact le_line hl) (fun _ s1 => same_t s1 h1) (fun i H x H' y => by rw [y.1]; exact Same.refl _) (fun i x H1 H2 N C hi s1 y hN hC => ?_) (fun H1 s1 hl1 => ?_)
        · obtain ⟨rfl, hx⟩ := y
          obtain ⟨hi2, rfl⟩ := ref_at hx
          rw [h2] at hi2
          refine ⟨rfl, _, rfl, _, rfl, k, _, _, rfl, (h3 i hi2).same s1, sm _ (getD_rl hi2), ?_⟩
          rw [e]
          exact fun H3 s3 => hC _ rfl _ s3
        · rw [range_some, List.length_map, h2] at hl1
          have e2 : (List.range Rs.length).map (fun i => V.bl (isRule k (Rs.getD i Rl.nil))) = (Rs.map (isRule k)).map V.bl := by
            conv => rhs; rw [← range_list Rs Rl.nil]
            rw [List.map_map, List.map_map]
            rfl
          rw [e2] at hl1
          refine ⟨D, _, rfl, .inl (Rd.of hl1), ?_⟩
          have e3 : (Rs.map (isRule k)).all id = Rs.all (isRule k) := by rw [List.all_map]; rfl
          rw [e3]
          exact h _ s1
abbrev s_check_rules : Stmt := top 25
theorem sc_check_rules : FnScope ["k", "rules"] ["k", "rules"] (defScope s_check_rules) := ⟨rfl, rfl, rfl, by decide +kernel, rfl, by decide +kernel, by decide +kernel⟩
theorem ok_check_rules (T : Tops K mg) (C_is_rules : CalX P w K mg base 5 "is_rules" (sp_is_rules K)) (F : Fun K "check_rules" "check_rules" s_check_rules f fd) : FnOk P w K mg base (L2.CX P w) 6 f fd ["k", "rules"] (sp_check_rules K) := by
  refine F.okX sc_check_rules (fun vs H Q E h => ?_) (fun cdv A outer s H vs Q E hr h => ?_)
  · obtain ⟨k, a, Rs, rfl, hR, sm, hl, h⟩ := h
    rfl
  · obtain ⟨k, a, Rs, rfl, hR, sm, hl, h⟩ := h
    refine ⟨_, (pss_one (ps_if (pt_not (pt_val (pe_cx (E := E) C_is_rules (hr.mono (by decide)) rfl (passes_call (takes_of rfl rfl rfl rfl) (fun _ _ _ _ z => z)) (pa_cons (pv 0) (pa_cons (pv 1) pa_nil))))) (pss_one (ps_raiseC T.e_NotRule rfl (takes_of rfl rfl rfl rfl) rfl)) pss_nil)), ?_⟩
    refine ⟨_, rfl, _, rfl, k, a, Rs, rfl, hR, sm, hl, ?_⟩
    cases e : numOk k <;> rw [e] at h
    · exact h
    · simp only [if_true] at h ⊢
      refine fun H1 s1 => ⟨_, rfl, ?_⟩
      have h := h H1 s1
      cases c : isRules k Rs <;> rw [c] at h <;> exact h
abbrev s_fits : Stmt := top 26
theorem sc_fits : FnScope ["place", "word", "at"] ["place", "word", "at"] (defScope s_fits) := ⟨rfl, rfl, rfl, by decide +kernel, rfl, by decide +kernel, by decide +kernel⟩
theorem ok_fits (T : Tops K mg) (F : Fun K "_fits" "_fits" s_fits f fd) : FnOk P w K mg base (L2.CX P w) 1 f fd ["place", "word", "at"] (sp_fits K) := by
  refine F.okX sc_fits (fun vs H Q E h => ?_) (fun cdv A outer s H vs Q E hr h => ?_)
  · obtain ⟨p, w, i, rfl, hw, h⟩ := h
    rfl
  · obtain ⟨p, w, i, rfl, hw, h⟩ := h
    refine ⟨_, (pss_cons (ps_if (PW.pt (pw_or (pt_cmpR op_lt (pv 2) pe_int (nomark _)) (pw_or1 (pt_cmpR op_ge (pv 2) (pe_callB call_len_str rfl T.f_len boot_len (pa_cons (pv 1) pa_nil)) (nomark _))))) (pss_one (ps_ret (pe_cmpR op_eq (pv 0) (pe_gl rfl T.c_EDGE) (nomark _)))) pss_nil)
 (pss_one (ps_ret (pe_cmpR op_in_sign (pe_ix ix_str (pv 1) (pv 2) (fun _ _ => rfl)) (pv 0) (by rfl))))), ?_⟩
    refine ⟨_, rfl, _, _, rfl, rfl, _, rfl, ?_⟩
    unfold fits at h
    by_cases c : i < 0
    · rw [if_pos (.inl c)] at h
      refine iT (dT c) (iT rfl ⟨_, rfl, rfl, ?_⟩)
      rw [decS]
      exact h
    · refine iF (dF c) ⟨_, rfl, _, rfl, _, rfl, hw, _, _, rfl, rfl, _, rfl, ?_⟩
      by_cases c2 : ((w.length : Nat) : Int) ≤ i
      · rw [if_pos (.inr c2)] at h
        refine iT (dT c2) ⟨_, rfl, rfl, ?_⟩
        rw [decS]
        exact h
      · rw [if_neg (by omega)] at h
        exact iF (dF c2) ⟨_, rfl, _, rfl, _, _, _, rfl, rfl, hw, at_str (by omega) (by omega), _, rfl, _, _, rfl, rfl, h⟩
abbrev s_all_fit : Stmt := top 27
theorem sc_all_fit : FnScope ["places", "word", "begin", "at", "place"] ["places", "word", "begin"] (defScope s_all_fit) := ⟨rfl, rfl, rfl, by decide +kernel, rfl, by decide +kernel, by decide +kernel⟩
theorem ok_all_fit (T : Tops K mg) (C_fits : CalX P w K mg base 1 "_fits" (sp_fits K)) (F : Fun K "_all_fit" "_all_fit" s_all_fit f fd) : FnOk P w K mg base (L2.CX P w) 2 f fd ["places", "word", "begin"] (sp_all_fit K) := by
  refine F.okX sc_all_fit (fun vs H Q E h => ?_) (fun cdv A outer s H vs Q E hr h => ?_)
  · obtain ⟨a, ps, w, b, rfl, hT, hw, h⟩ := h
    rfl
  · obtain ⟨a, ps, w, b, rfl, hT, hw, h⟩ := h
    refine ⟨_, (pss_cons (ps_for (passes_of rfl) rfl (pi_enumT rfl T.f_enumerate (pa_cons (pv 0) pa_nil)) (pg_tup rfl (pgs_cons (pg_name (i := 3) sc_all_fit.nd rfl (Or.inl rfl)) (pgs_cons (pg_name (i := 4) sc_all_fit.nd rfl (Or.inl rfl)) pgs_nil)))
 (pss_one (ps_if (pt_not (pt_val (pe_cx (E := E) C_fits (hr.mono (by decide)) rfl (passes_call (takes_of rfl rfl rfl rfl) (fun _ _ _ _ z => z)) (pa_cons (pv 4) (pa_cons (pv 1) (pa_cons (pe_op op_add (pv 2) (pv 3)) pa_nil)))))) (pss_one (ps_ret pe_bl)) pss_nil)))
 (pss_one (ps_ret pe_bl))), ?_⟩
    refine ⟨_, rfl, _, _, rfl, hT, ?_⟩
    rw [List.length_map]
    unfold allFit at h
    refine for_it walk_en (fun i σ H' => Same H H' ∧ (∀ j, j < i → fits (ps.getD j "") w (b + (j : Nat)) = true) ∧ ∃ x y, σ = [some (.ref a), some (.str w), some (.int b), x, y]) ⟨Same.refl _, fun j hj => absurd hj (Nat.not_lt_zero _), none, none, rfl⟩
      (fun i σ H' _ p => same_t p.1 hT) (fun i x σ H1 H2 hi p y => ?_) (fun σ H1 p => ?_)
    · obtain ⟨s1, all, u, v, rfl⟩ := p
      obtain ⟨t, rfl, ht, hy⟩ := y
      simp only [getD_strs hi] at hy
      subst hy
      refine ⟨t, _, rfl, .inl (Rd.of upd_same), rfl, _, _, rfl, _, _, rfl, rfl, ?_⟩
      have s4 : Same H (upd H1 t (.tup [.int (i : Nat), .str (ps.getD i "")])) := s1.trans (same_new ht)
      refine ⟨_, rfl, _, rfl, _, rfl, _, rfl, _, _, rfl, rfl, _, _, _, rfl, hw, _, rfl, ?_⟩
      cases c : fits (ps.getD i "") w (b + (i : Nat))
      · have z := h _ s4
        rw [all_range_not hi c] at z
        exact z
      · refine ⟨s4, fun j hj => ?_, _, _, rfl⟩
        rcases Nat.lt_succ_iff_lt_or_eq.mp hj with q | q
        · exact all j q
        · rw [q]
          exact c
    · rw [all_range_succ p.2.1] at h
      exact h _ p.1
abbrev s_indexes_of : Stmt := top 28
theorem sc_indexes_of : FnScope ["rule", "word", "letter", "_", "left", "right", "at", "found"] ["rule", "word"] (defScope s_indexes_of) := ⟨rfl, rfl, rfl, by decide +kernel, rfl, by decide +kernel, by decide +kernel⟩
theorem ok_indexes_of (T : Tops K mg) (C_all_fit : CalX P w K mg base 2 "_all_fit" (sp_all_fit K)) (F : Fun K "indexes_of" "indexes_of" s_indexes_of f fd) : FnOk P w K mg base (L2.CX P w) 3 f fd ["rule", "word"] (sp_indexes_of K) := by
  refine F.okX sc_indexes_of (fun vs H Q E h => ?_) (fun cdv A outer s H vs Q E hr h => ?_)
  · obtain ⟨a, R, w, rfl, hR, hw, h⟩ := h
    rfl
  · obtain ⟨a, R, w, rfl, hR, hw, h⟩ := h
    refine ⟨_, (pss_cons (ps_asg (pv 0) (pg_tup rfl (pgs_cons (pg_name (i := 2) sc_indexes_of.nd rfl (Or.inr rfl)) (pgs_cons (pg_name (i := 3) sc_indexes_of.nd rfl (Or.inl rfl)) (pgs_cons (pg_name (i := 4) sc_indexes_of.nd rfl (Or.inr rfl)) (pgs_cons (pg_name (i := 5) sc_indexes_of.nd rfl (Or.inr rfl)) pgs_nil))))))
 (pss_one (ps_ret (pe_lc (own := [("at", 6), ("found", 7)]) rfl sc_indexes_of.nd (pi_enumS rfl T.f_enumerate (pa_cons (pv 1) pa_nil)) (blkOk_by (N := ["rule", "word", "letter", "_", "left", "right", "at", "found"]) (sc := defScope s_indexes_of) (by decide +kernel)) (fun _ _ _ _ _ => (pg_tupK (K := K) (n := 2) rfl rfl (pgs_cons (pg_name (i := 6) sc_indexes_of.nd rfl (Or.inl rfl)) (pgs_cons (pg_name (i := 7) sc_indexes_of.nd rfl (Or.inl rfl)) pgs_nil)))) (fun _ _ _ _ _ => pts_one (PW.pt (pw_and (pt_cmpR op_eq (pv 7) (pv 2) (nomark _)) (pw_and (pt_val (pe_cx (E := E0) C_all_fit (hr.mono (by decide)) rfl passL (pa_cons (pv 4) (pa_cons (pv 1) (pa_cons (pe_op op_sub (pv 6) (pe_callB (call_len_seqK (K := K) rfl) rfl T.f_len boot_len (pa_cons (pv 4) pa_nil))) pa_nil))))) (pw_and1 (pt_val (pe_cx (E := E0) C_all_fit (hr.mono (by decide)) rfl passL (pa_cons (pv 5) (pa_cons (pv 1) (pa_cons (pe_op op_add (pv 6) pe_int) pa_nil)))))))))) (fun _ _ _ _ _ => (pv 6)))))), ?_⟩
    obtain ⟨al, ar, h1, h2, h3⟩ := hR.ex
    refine ⟨_, rfl, a, _, rfl, h1, rfl, _, _, rfl, _, _, rfl, _, _, rfl, _, _, rfl, rfl, ?_⟩
    refine ⟨_, rfl, w, rfl, fun D hD => ?_⟩
    refine lc_pure walk_en (fun i => keep (standsAt R w i) (.int (i : Nat))) hD (le_line hw) (fun _ _ => trivial) (fun i H x H' y => ?_) (fun i x H1 H2 N C hi s1 y hN hC => ?_) (fun H1 s1 hl1 => ?_)
    · obtain ⟨t, _, ht, rfl⟩ := y
      exact same_new ht
    · obtain ⟨t, rfl, ht, rfl⟩ := y
      refine ⟨t, _, rfl, .inl (Rd.of upd_same), rfl, _, _, rfl, _, _, rfl, rfl, rfl, ?_⟩
      have s2 : Same H (upd H1 t (.tup [.int (i : Nat), .str (tx [w.cps.getD i 0])])) := s1.trans (same_new ht)
      refine ⟨_, rfl, _, rfl, rfl, _, rfl, ?_⟩
      rw [decS]
      cases c1 : decide (tx [w.cps.getD i 0] = R.c)
      · exact hN (keep_f (by unfold standsAt; rw [c1]; rfl)) _ (Same.refl _)
      · refine ⟨_, rfl, _, rfl, _, rfl, _, rfl, al, _, rfl, .inr (same_t s2 h2), _, _, rfl, rfl, ?_⟩
        rw [List.length_map]
        refine ⟨al, R.l, w, _, rfl, same_t s2 h2, le_line hw, fun H3 s3 => ⟨_, rfl, ?_⟩⟩
        cases c2 : allFit R.l w (((i : Nat) : Int) - ((R.l.length : Nat) : Int))
        · exact hN (keep_f (by unfold standsAt; rw [c1, c2]; rfl)) _ s3
        · refine ⟨_, rfl, _, rfl, _, rfl, _, _, rfl, rfl, ar, R.r, w, _, rfl, same_t (s2.trans s3) h3, le_line hw, fun H4 s4 => ⟨_, rfl, ?_⟩⟩
          cases c3 : allFit R.r w (((i : Nat) : Int) + 1)
          · exact hN (keep_f (by unfold standsAt; rw [c1, c2, c3]; rfl)) _ (s3.trans s4)
          · exact ⟨_, rfl, hC _ (keep_t (by unfold standsAt; rw [c1, c2, c3]; rfl)) _ (s3.trans s4)⟩
    · refine h D H1 hD s1 ?_
      rw [hl1]
      rw [keep_map]
      rfl
abbrev s_parts_of : Stmt := top 29
theorem sc_parts_of : FnScope ["rule", "word", "parts", "at"] ["rule", "word"] (defScope s_parts_of) := ⟨rfl, rfl, rfl, by decide +kernel, rfl, by decide +kernel, by decide +kernel⟩
theorem ok_parts_of (T : Tops K mg) (C_indexes_of : CalX P w K mg base 3 "indexes_of" (sp_indexes_of K)) (F : Fun K "parts_of" "parts_of" s_parts_of f fd) : FnOk P w K mg base (L2.CX P w) 4 f fd ["rule", "word"] (sp_parts_of K) := by
  refine F.okX sc_parts_of (fun vs H Q E h => ?_) (fun cdv A outer s H vs Q E hr h => ?_)
  · obtain ⟨a, R, w, rfl, hR, hw, h⟩ := h
    rfl
  · obtain ⟨a, R, w, rfl, hR, hw, h⟩ := h
    refine ⟨_, (pss_cons (ps_set (i := 2) sc_parts_of.nd rfl (Or.inl rfl) (pe_callTy (call_list_text rfl) rfl T.f_list boot_list (pa_cons (pv 1) pa_nil)))
 (pss_cons (ps_for (passes_of rfl) rfl (pi_list (pe_cx (E := E) C_indexes_of (hr.mono (by decide)) rfl (passes_call (takes_of rfl rfl rfl rfl) (fun _ _ _ _ z => z)) (pa_cons (pv 0) (pa_cons (pv 1) pa_nil)))) (pg_name (i := 3) sc_parts_of.nd rfl (Or.inl rfl))
 (pss_one (ps_asg (pe_ix ix_tup (pv 0) pe_int (fun _ _ => rfl)) (pg_sub (pv 2) (pv 3) set_list))))
 (pss_one (ps_ret (pv 2))))), ?_⟩
    refine ⟨_, rfl, w, rfl, le_line hw, fun q hq => ?_⟩
    have sq : Same H (upd H q (.lst ((Sv.signs w).map V.str))) := same_new hq
    refine ⟨_, rfl, _, rfl, a, R, w, rfl, hR.same sq, hw, fun p H1 np s1 hp => ?_⟩
    refine ⟨p, rfl, ⟨_, .inl (Rd.of hp)⟩, ?_⟩
    have qp : p ≠ q := fun e => by
      subst e
      rw [upd_same] at np
      cases np
    refine for_it walk_list (fun i σ H' => (∃ x, σ = [some (.ref a), some (.str w), some (.ref q), x]) ∧ H' q = some (.lst (((stood R w).take i).foldl (fun acc j => acc.set j (V.str R.n)) ((Sv.signs w).map V.str))) ∧ ∀ b o, b ≠ q → H1 b = some o → H' b = some o)
      ⟨⟨_, rfl⟩, s1 _ _ upd_same, fun b o _ z => z⟩ (fun i σ H' _ z => .inl (Rd.of (z.2.2 _ _ qp hp))) (fun i x σ H2 H3 hi z y => ?_) (fun σ H2 z => ?_)
    · obtain ⟨⟨x0, rfl⟩, hq2, o2⟩ := z
      obtain ⟨rfl, hx⟩ := y
      rw [List.length_map] at hi
      have ex : x = V.int (((stood R w)[i] : Nat) : Int) := by
        rw [List.getElem?_map, List.getElem?_eq_getElem hi] at hx
        exact (Option.some.inj hx).symm
      subst ex
      have hj : (stood R w)[i] < w.cps.size := List.mem_range.mp (List.mem_filter.mp (List.getElem_mem hi)).1
      obtain ⟨al, ar, h1, h2, h3⟩ := hR.ex
      have h1' : SqT K H3 a [.str R.c, .str R.n, .ref al, .ref ar] := by
        rcases same_t (sq.trans s1) h1 with z | z
        · rcases z with z | ⟨o, z⟩
          · exact .inl (.inl (o2 _ _ (fun e => by subst e; rw [s1 _ _ upd_same] at z; cases z) z))
          · exact .inl (.inr ⟨o, o2 _ _ (fun e => by subst e; rw [s1 _ _ upd_same] at z; cases z) z⟩)
        · exact .inr z
      refine ⟨_, rfl, a, _, _, _, rfl, rfl, h1', rfl, _, rfl, _, rfl, q, _, _, (stood R w)[i], rfl, rfl, hq2, ?_, ⟨_, rfl⟩, ?_, fun b o hb hz => ?_⟩
      · unfold ixN
        rw [foldl_set, List.length_map, signs_len, if_pos (by omega), if_pos (by omega)]
        rfl
      · rw [upd_same, List.take_add_one, List.foldl_append, List.getElem?_eq_getElem hi]
        rfl
      · rw [upd_ne hb]
        exact o2 b o hb hz
    · obtain ⟨⟨x0, rfl⟩, hq2, o2⟩ := z
      rw [List.length_map, List.take_length, parts_foldl] at hq2
      exact ⟨_, rfl, h q H2 hq (fun b o z => o2 b o (fun e => by rw [e, hq] at z; cases z) (s1 _ _ (sq _ _ z))) hq2⟩
abbrev s_check_list : Stmt := top 32
theorem sc_check_list : FnScope ["k", "rules", "word"] ["k", "rules", "word"] (defScope s_check_list) := ⟨rfl, rfl, rfl, by decide +kernel, rfl, by decide +kernel, by decide +kernel⟩
theorem ok_check_list (T : Tops K mg) (C_check_rules : CalX P w K mg base 6 "check_rules" (sp_check_rules K)) (C_check_word : CalX P w K mg base 5 "check_word" (sp_check_word K)) (F : Fun K "check_list" "check_list" s_check_list f fd) : FnOk P w K mg base (L2.CX P w) 7 f fd ["k", "rules", "word"] (sp_check_list K) := by
  refine F.okX sc_check_list (fun vs H Q E h => ?_) (fun cdv A outer s H vs Q E hr h => ?_)
  · obtain ⟨k, a, Rs, w, rfl, hR, sm, hl, hw, h⟩ := h
    rfl
  · obtain ⟨k, a, Rs, w, rfl, hR, sm, hl, hw, h⟩ := h
    refine ⟨_, (pss_cons (ps_expr (pe_cx (E := E) C_check_rules (hr.mono (by decide)) rfl (passes_call (takes_of rfl rfl rfl rfl) (fun _ _ _ _ z => z)) (pa_cons (pv 0) (pa_cons (pv 1) pa_nil))))
 (pss_one (ps_expr (pe_cx (E := E) C_check_word (hr.mono (by decide)) rfl (passes_call (takes_of rfl rfl rfl rfl) (fun _ _ _ _ z => z)) (pa_cons (pv 0) (pa_cons (pv 2) pa_nil)))))), ?_⟩
    refine ⟨_, rfl, _, rfl, k, a, Rs, rfl, hR, sm, hl, ?_⟩
    unfold errL at h
    cases e : numOk k <;> rw [e] at h
    · exact h _ (Same.refl _)
    · refine fun H1 s1 => ?_
      cases c : isRules k Rs <;> rw [c] at h
      · exact h _ s1
      · refine ⟨_, rfl, _, rfl, k, w, rfl, le_line hw, ?_⟩
        rw [e]
        cases d : isWord k w <;> rw [d] at h
        · exact h _ s1
        · exact h _ s1
abbrev s_check_made : Stmt := top 33
theorem sc_check_made : FnScope ["word"] ["word"] (defScope s_check_made) := ⟨rfl, rfl, rfl, by decide +kernel, rfl, by decide +kernel, by decide +kernel⟩
theorem ok_check_made (T : Tops K mg) (F : Fun K "check_made" "check_made" s_check_made f fd) : FnOk P w K mg base (L2.CX P w) 1 f fd ["word"] (sp_check_made K) := by
  refine F.okX sc_check_made (fun vs H Q E h => ?_) (fun cdv A outer s H vs Q E hr h => ?_)
  · obtain ⟨w, rfl, hw, h⟩ := h
    rfl
  · obtain ⟨w, rfl, hw, h⟩ := h
    refine ⟨_, (pss_one (ps_if (pt_cmpR op_gt (pe_callB call_len_str rfl T.f_len boot_len (pa_cons (pv 0) pa_nil)) (pe_gl rfl T.c_LONGEST_MADE) (nomark _)) (pss_one (ps_raiseC T.e_TooLarge rfl (takes_of rfl rfl rfl rfl) rfl)) pss_nil)), ?_⟩
    refine ⟨_, rfl, w, rfl, hw, _, _, rfl, rfl, _, rfl, iB (fun c => ?_) fun c => ?_⟩
    · rw [if_pos (by have := of_decide_eq_true c; omega)] at h
      exact h
    · rw [if_neg (by have := of_decide_eq_false c; omega)] at h
      exact h
abbrev s_joined : Stmt := top 35
theorem sc_joined : FnScope ["parts", "lengths", "groups", "begin", "length"] ["parts", "lengths"] (defScope s_joined) := ⟨rfl, rfl, rfl, by decide +kernel, rfl, by decide +kernel, by decide +kernel⟩
theorem ok_joined (T : Tops K mg) (F : Fun K "_joined" "_joined" s_joined f fd) : FnOk P w K mg base (L2.CX P w) 1 f fd ["parts", "lengths"] (sp_joined K) := by
  refine F.okX sc_joined (fun vs H Q E h => ?_) (fun cdv A outer s H vs Q E hr h => ?_)
  · obtain ⟨p, q, ps, ns, rfl, hp, hq, hs, hn, h⟩ := h
    rfl
  · obtain ⟨p, q, ps, ns, rfl, hp, hq, hs, hn, h⟩ := h
    refine ⟨_, (pss_cons (ps_set (i := 2) sc_joined.nd rfl (Or.inl rfl) (pe_lst pa_nil))
 (pss_cons (ps_set (i := 3) sc_joined.nd rfl (Or.inl rfl) pe_int)
 (pss_cons (ps_for (passes_of rfl) rfl (pi_list (pv 1)) (pg_name (i := 4) sc_joined.nd rfl (Or.inl rfl))
 (pss_cons (ps_expr (pe_bm PySem.F.plainAttrs_list PySem.F.slot_list_append PySem.F.type_list_append mt_append (pv 2) (pa_cons (pe_join pe_str (pe_slice sl_list (pv 0) (po_some (pv 3)) (po_some (pe_op op_add (pv 3) (pv 4))))) pa_nil)))
 (pss_one (ps_aug sc_joined.nd (i := 3) rfl (Or.inl rfl) (pv 4) ip_add))))
 (pss_one (ps_ret (pv 2)))))), ?_⟩
    refine ⟨by rw [sizeLine_eq]; show 0 ≤ 16777216; decide, fun r hr0 => ?_⟩
    have s0 := same_new (o := .lst []) hr0
    refine ⟨_, rfl, q, rfl, ⟨_, same_l s0 hq⟩, ?_⟩
    refine for_it (walk_list (xs := ns.map fun n => V.int (n : Nat))) (fun i σ H' => (∃ x, σ = [some (.ref p), some (.ref q), some (.ref r), some (.int (((ns.take i).sum : Nat) : Int)), x]) ∧ H' r = some (.lst ((joinFrom ps 0 (ns.take i)).map V.str)) ∧ Same H H')
      ⟨⟨_, rfl⟩, upd_same, s0⟩ (fun i σ H' _ z => same_l z.2.2 hq) (fun i x σ H1 H2 hi z y => ?_) (fun σ H1 z => ?_)
    · obtain ⟨⟨x0, rfl⟩, hr1, s1⟩ := z
      obtain ⟨rfl, hx⟩ := y
      rw [List.length_map] at hi
      have ex : x = V.int ((ns[i] : Nat) : Int) := by
        rw [List.getElem?_map, List.getElem?_eq_getElem hi] at hx
        exact (Option.some.inj hx).symm
      subst ex
      have tk : ns.take (i + 1) = ns.take i ++ [ns[i]] := by rw [List.take_add_one, List.getElem?_eq_getElem hi]; rfl
      have ea : (((ns.take i).sum : Nat) : Int) + ((ns[i] : Nat) : Int) = (((ns.take i).sum + ns[i] : Nat) : Int) := by omega
      refine ⟨_, rfl, .inl ⟨rfl, _, .inl (Rd.of hr1)⟩, ⟨_, rfl⟩, _, rfl, _, rfl, _, rfl, _, rfl, _, rfl, _, _, rfl, rfl, _, rfl, p, _, rfl, same_l s1 hp, fun t ht => ?_⟩
      rw [ea, cut_mid, ← List.map_drop, ← List.map_take]
      have s2 := same_new (o := .lst (((ps.drop (ns.take i).sum).take ns[i]).map V.str)) ht
      refine ⟨_, t, _, rfl, rfl, .inl (.inl (Rd.of upd_same)), ?_, ?_⟩
      · have e3 : ("" : Str).length = 0 := rfl
        rw [e3, List.map_take, List.map_drop]
        have := sum_take_le ((ps.map (·.length)).drop (ns.take i).sum) ns[i]
        have := sum_drop_le (ps.map (·.length)) (ns.take i).sum
        omega
      · rw [join_jn]
        have hr2 := s2 _ _ hr1
        refine ⟨r, _, _, rfl, rfl, hr2, ?_, _, rfl, _, rfl, _, _, rfl, rfl, ⟨some (.int ((ns[i] : Nat) : Int)), ?_⟩, ?_, fun b o z => ?_⟩
        · rw [List.length_map, joinFrom_len, List.length_take, sizeLine_eq]
          omega
        · rw [tk, List.sum_append, List.sum_singleton, ← ea]
          rfl
        · rw [upd_same, tk, joinFrom_snoc, List.map_append, Nat.zero_add]
          rfl
        · rw [upd_ne (fun e => by rw [e, hr0] at z; cases z)]
          exact s2 _ _ (s1 _ _ z)
    · obtain ⟨⟨x0, rfl⟩, hr1, s1⟩ := z
      rw [List.length_map, List.take_length] at hr1
      exact ⟨_, rfl, h r H1 hr0 s1 hr1⟩
abbrev s_u_pieces : Stmt := top 36
theorem sc_u_pieces : FnScope ["rules", "word", "found", "rule", "parts", "piece"] ["rules", "word"] (defScope s_u_pieces) := ⟨rfl, rfl, rfl, by decide +kernel, rfl, by decide +kernel, by decide +kernel⟩
theorem ok_u_pieces (T : Tops K mg) (C_joined : CalX P w K mg base 1 "_joined" (sp_joined K)) (C_check_made : CalX P w K mg base 1 "check_made" (sp_check_made K)) (C_parts_of : CalX P w K mg base 4 "parts_of" (sp_parts_of K)) (F : Fun K "_pieces" "_pieces" s_u_pieces f fd) : FnOk P w K mg base (L2.CX P w) 5 f fd ["rules", "word"] (sp_u_pieces K) := by
  refine F.okX sc_u_pieces (fun vs H Q E h => ?_) (fun cdv A outer s H vs Q E hr h => ?_)
  · obtain ⟨a, Rs, w, rfl, hR, sm, hl, hw, h⟩ := h
    rfl
  · obtain ⟨a, Rs, w, rfl, hR, sm, hl, hw, h⟩ := h
    refine ⟨_, (pss_cons (ps_set (i := 2) sc_u_pieces.nd rfl (Or.inl rfl) (pe_callTy (call_list_text rfl) rfl T.f_list boot_list (pa_cons (pv 1) pa_nil)))
 (pss_cons (ps_for (passes_of rfl) rfl (pi_tup (pv 0)) (pg_name (i := 3) sc_u_pieces.nd rfl (Or.inl rfl))
 (pss_cons (ps_set (i := 4) sc_u_pieces.nd rfl (Or.inl rfl) (pe_cx (E := E) C_parts_of (hr.mono (by decide)) rfl (passes_call (takes_of rfl rfl rfl rfl) (fun _ _ _ _ z => z)) (pa_cons (pv 3) (pa_cons (pe_join pe_str (pv 2)) pa_nil))))
 (pss_cons (ps_expr (pe_cx (E := E) C_check_made (hr.mono (by decide)) rfl (passes_call (takes_of rfl rfl rfl rfl) (fun _ _ _ _ z => z)) (pa_cons (pe_join pe_str (pv 4)) pa_nil)))
 (pss_one (ps_set (i := 2) sc_u_pieces.nd rfl (Or.inl rfl) (pe_cx (E := E) C_joined (hr.mono (by decide)) rfl (passes_call (takes_of rfl rfl rfl rfl) (fun _ _ _ _ z => z)) (pa_cons (pv 4) (pa_cons (pe_lc (own := [("piece", 5)]) rfl sc_u_pieces.nd (pi_list (pv 2)) (blkOk_by (N := ["rules", "word", "found", "rule", "parts", "piece"]) (sc := defScope s_u_pieces) (by decide +kernel)) (fun _ _ _ _ _ => (pg_name (i := 5) sc_u_pieces.nd rfl (Or.inl rfl))) (fun _ _ _ _ _ => pts_nil) (fun _ _ _ _ _ => (pe_callB call_len_str rfl T.f_len boot_len (pa_cons (pv 5) pa_nil)))) pa_nil))))))))
 (pss_one (ps_ret (pv 2))))), ?_⟩
    obtain ⟨as, h1, h2, h3⟩ := hR.ex
    refine ⟨_, rfl, w, rfl, le_line hw, fun q0 hq0 => ?_⟩
    have s0 := same_new (o := .lst ((Sv.signs w).map V.str)) hq0
    refine ⟨_, rfl, a, rfl, ⟨_, same_t s0 h1⟩, ?_⟩
    refine for_it (walk_tup (xs := as.map V.ref)) (fun i σ H' => (∃ (q : Addr) (x y z : Option V), σ = [some (.ref a), some (.str w), some (.ref q), x, y, z] ∧ H q = none ∧ H' q = some (.lst ((piecesOf (Rs.take i) w).map V.str))) ∧ Same H H' ∧ big (Rs.take i) w = false)
      ⟨⟨q0, _, _, _, rfl, hq0, upd_same⟩, s0, rfl⟩ (fun i σ H' _ z => same_t z.2.1 h1) (fun i x σ H1 H2 hi z y => ?_) (fun σ H1 z => ?_)
    · obtain ⟨⟨q, x0, y0, z0, rfl, nq, hq⟩, s1, nb⟩ := z
      obtain ⟨rfl, hx⟩ := y
      obtain ⟨hi2, rfl⟩ := ref_at hx
      rw [h2] at hi2
      have fl := form_len hw nb
      have R0 := sm _ (getD_rl hi2)
      have cl := change_len (Rs.getD i Rl.nil) (formOf (Rs.take i) w) R0.n
      have ej := piecesOf_jn (Rs.take i) w
      have el := piecesOf_len (Rs.take i) w
      have esum : ((piecesOf (Rs.take i) w).map (·.length)).sum = (formOf (Rs.take i) w).length := by rw [← jn_len, ej]
      have e3 : ("" : Str).length = 0 := rfl
      refine ⟨_, rfl, ⟨_, rfl⟩, _, rfl, _, q, _, rfl, rfl, .inl (.inl (Rd.of hq)), by rw [e3, esum]; omega, ?_⟩
      rw [join_jn, ej]
      refine ⟨_, _, _, rfl, (h3 i hi2).same s1, by omega, fun p H3 np s3 hp => ?_⟩
      have psum := parts_sum (Rs.getD i Rl.nil) (formOf (Rs.take i) w) R0.n
      have hz : (formOf (Rs.take i) w).cps.size = (formOf (Rs.take i) w).length := rfl
      refine ⟨⟨_, rfl⟩, _, rfl, _, p, _, rfl, rfl, .inl (.inl (Rd.of hp)), by rw [e3]; omega, ?_⟩
      rw [join_jn]
      refine ⟨_, rfl, by rw [sizeLine_eq]; show (change (Rs.getD i Rl.nil) (formOf (Rs.take i) w)).length ≤ _; omega, ?_⟩
      have bs := big_snoc (Rs.take i) (Rs.getD i Rl.nil) w
      rw [← take_succ_rl Rs hi2, nb, Bool.false_or] at bs
      by_cases c : 2000 < (change (Rs.getD i Rl.nil) (formOf (Rs.take i) w)).length
      · rw [decide_eq_true c] at bs
        rw [big_take bs] at h
        exact pT c (h _ (s1.trans s3))
      · rw [decide_eq_false c] at bs
        refine pF c ⟨_, rfl, _, rfl, q, rfl, ⟨_, .inl (Rd.of (s3 _ _ hq))⟩, fun D hD => ?_⟩
        refine lc_pure (walk_list (xs := (piecesOf (Rs.take i) w).map V.str)) (fun j => some (.int (((piecesOf (Rs.take i) w).getD j "").length : Nat))) hD ?_ (fun _ s4 => .inl (Rd.of (s4 _ _ (s3 _ _ hq)))) (fun i H x H' y => by rw [y.1]; exact Same.refl _) (fun j x H4 H5 N C hj s4 y hN hC => ?_) (fun H4 s4 hl4 => ?_)
        · rw [List.length_map, el]
          exact le_line hw
        · obtain ⟨rfl, hx⟩ := y
          rw [List.length_map] at hj
          have ex : x = V.str ((piecesOf (Rs.take i) w).getD j "") := by
            rw [List.getElem?_map, List.getElem?_eq_getElem hj] at hx
            rw [List.getD_eq_getElem?_getD, List.getElem?_eq_getElem hj]
            exact (Option.some.inj hx).symm
          subst ex
          have pl : ((piecesOf (Rs.take i) w).getD j "").length ≤ (formOf (Rs.take i) w).length := by
            rw [← esum]
            exact le_sum_mem (List.mem_map.mpr ⟨_, getD_mem hj, rfl⟩)
          exact ⟨rfl, _, rfl, _, rfl, by rw [sizeLine_eq]; omega, hC _ rfl _ (Same.refl _)⟩
        · have e5 : (List.range ((piecesOf (Rs.take i) w).map V.str).length).filterMap (fun j => some (V.int (((piecesOf (Rs.take i) w).getD j "").length : Nat))) = ((piecesOf (Rs.take i) w).map (·.length)).map fun n => V.int (n : Nat) := by
            rw [range_some, List.length_map]
            conv => rhs; rw [← range_list (piecesOf (Rs.take i) w) ""]
            rw [List.map_map, List.map_map]
            rfl
          rw [e5] at hl4
          refine ⟨p, D, _, _, rfl, .inl (Rd.of (s4 _ _ hp)), .inl (Rd.of hl4), by omega, by rw [List.length_map, el]; omega, fun r H6 nr s6 hr6 => ?_⟩
          have s16 := ((s1.trans s3).trans s4).trans s6
          refine ⟨⟨r, _, _, _, rfl, ?_, ?_⟩, s16, bs⟩
          · cases z : H r with
            | none => rfl
            | some o => rw [s4 _ _ (s3 _ _ (s1 _ _ z))] at nr; cases nr
          · rw [hr6, take_succ_rl Rs hi2, piecesOf_snoc]
            unfold piecesStep
            rw [ej]
    · obtain ⟨⟨q, x0, y0, z0, rfl, nq, hq⟩, s1, nb⟩ := z
      rw [List.length_map, h2, List.take_length] at hq nb
      rw [nb] at h
      exact ⟨_, rfl, h q H1 nq s1 hq⟩
abbrev s_pieces : Stmt := top 37
theorem sc_pieces : FnScope ["k", "rules", "word"] ["k", "rules", "word"] (defScope s_pieces) := ⟨rfl, rfl, rfl, by decide +kernel, rfl, by decide +kernel, by decide +kernel⟩
theorem ok_pieces (T : Tops K mg) (C_u_pieces : CalX P w K mg base 5 "_pieces" (sp_u_pieces K)) (C_check_list : CalX P w K mg base 7 "check_list" (sp_check_list K)) (F : Fun K "pieces" "pieces" s_pieces f fd) : FnOk P w K mg base (L2.CX P w) 8 f fd ["k", "rules", "word"] (sp_pieces K) := by
  refine F.okX sc_pieces (fun vs H Q E h => ?_) (fun cdv A outer s H vs Q E hr h => ?_)
  · obtain ⟨k, a, Rs, w, rfl, hR, sm, hl, hw, h⟩ := h
    rfl
  · obtain ⟨k, a, Rs, w, rfl, hR, sm, hl, hw, h⟩ := h
    refine ⟨_, (pss_cons (ps_expr (pe_cx (E := E) C_check_list (hr.mono (by decide)) rfl (passes_call (takes_of rfl rfl rfl rfl) (fun _ _ _ _ z => z)) (pa_cons (pv 0) (pa_cons (pv 1) (pa_cons (pv 2) pa_nil)))))
 (pss_one (ps_ret (pe_cx (E := E) C_u_pieces (hr.mono (by decide)) rfl (passes_call (takes_of rfl rfl rfl rfl) (fun _ _ _ _ z => z)) (pa_cons (pv 1) (pa_cons (pv 2) pa_nil)))))), ?_⟩
    refine ⟨_, rfl, _, rfl, _, rfl, k, a, Rs, w, rfl, hR, sm, hl, hw, fun H1 s1 => ?_⟩
    unfold errS at h
    cases e : errL k Rs w with
    | some e =>
      rw [e] at h
      exact h _ s1
    | none =>
      rw [e] at h
      refine ⟨_, rfl, _, rfl, a, Rs, w, rfl, hR.same s1, sm, hl, hw, ?_⟩
      cases b : big Rs w <;> rw [b] at h
      · exact fun p H2 np s2 hp => h _ s1 p H2 np s2 hp
      · exact fun H2 s2 => h _ (s1.trans s2)
abbrev s_trace_of : Stmt := top 38
theorem sc_trace_of : FnScope ["k", "rules", "word", "trace", "at", "piece"] ["k", "rules", "word"] (defScope s_trace_of) := ⟨rfl, rfl, rfl, by decide +kernel, rfl, by decide +kernel, by decide +kernel⟩
theorem ok_trace_of (T : Tops K mg) (C_pieces : CalX P w K mg base 8 "pieces" (sp_pieces K)) (F : Fun K "trace_of" "trace_of" s_trace_of f fd) : FnOk P w K mg base (L2.CX P w) 9 f fd ["k", "rules", "word"] (sp_trace_of K) := by
  refine F.okX sc_trace_of (fun vs H Q E h => ?_) (fun cdv A outer s H vs Q E hr h => ?_)
  · obtain ⟨k, a, Rs, w, rfl, hR, sm, hl, hw, h⟩ := h
    rfl
  · obtain ⟨k, a, Rs, w, rfl, hR, sm, hl, hw, h⟩ := h
    refine ⟨_, (pss_cons (ps_set (i := 3) sc_trace_of.nd rfl (Or.inl rfl) (pe_lst pa_nil))
 (pss_cons (ps_for (passes_of rfl) rfl (pi_enum rfl T.f_enumerate (pa_cons (pe_cx (E := E) C_pieces (hr.mono (by decide)) rfl (passes_call (takes_of rfl rfl rfl rfl) (fun _ _ _ _ z => z)) (pa_cons (pv 0) (pa_cons (pv 1) (pa_cons (pv 2) pa_nil)))) pa_nil)) (pg_tup rfl (pgs_cons (pg_name (i := 4) sc_trace_of.nd rfl (Or.inl rfl)) (pgs_cons (pg_name (i := 5) sc_trace_of.nd rfl (Or.inl rfl)) pgs_nil)))
 (pss_one (ps_expr (pe_bm PySem.F.plainAttrs_list PySem.F.slot_list_extend PySem.F.type_list_extend mt_extend (pv 3) (pa_cons (pe_op op_rep (pe_lst (pa_cons (pv 4) pa_nil)) (pe_callB call_len_str rfl T.f_len boot_len (pa_cons (pv 5) pa_nil))) pa_nil)))))
 (pss_one (ps_ret (pv 3))))), ?_⟩
    refine ⟨by rw [sizeLine_eq]; show 0 ≤ 16777216; decide, fun t ht => ?_⟩
    have s0 := same_new (o := .lst []) ht
    refine ⟨_, rfl, _, rfl, _, rfl, k, a, Rs, w, rfl, hR.same s0, sm, hl, hw, fun H1 s1 => ?_⟩
    cases e : errS k Rs w with
    | some e =>
      rw [e] at h
      exact h _ (s0.trans s1)
    | none =>
      rw [e] at h
      refine fun p H2 np s2 hp => ?_
      have ht2 : H2 t = some (.lst []) := s2 _ _ (s1 _ _ upd_same)
      have pt : p ≠ t := fun e => by
        rw [e, s1 _ _ upd_same] at np
        cases np
      have el := piecesOf_len Rs w
      have nb : big Rs w = false := by
        unfold errS at e
        cases b : big Rs w with
        | false => rfl
        | true =>
          cases e2 : errL k Rs w with
          | none => rw [e2, b] at e; cases e
          | some z => rw [e2] at e; cases e
      have fl := form_len hw nb
      have esum : ((piecesOf Rs w).map (·.length)).sum = (formOf Rs w).length := by rw [← jn_len, piecesOf_jn]
      refine ⟨p, _, rfl, .inl (Rd.of hp), ?_⟩
      refine for_it (walk_enum (xs := (piecesOf Rs w).map V.str)) (fun i σ H' => (∃ x y, σ = [some (.int k), some (.ref a), some (.str w), some (.ref t), x, y]) ∧ H' t = some (.lst ((traceTake (piecesOf Rs w) i).map V.int)) ∧ ∀ b o, b ≠ t → H2 b = some o → H' b = some o)
        ⟨⟨_, _, rfl⟩, ht2, fun b o _ z => z⟩ (fun i σ H' _ z => .inl (Rd.of (z.2.2 _ _ pt hp))) (fun i x σ H3 H4 hi z y => ?_) (fun σ H3 z => ?_)
      · obtain ⟨⟨x0, y0, rfl⟩, ht3, o3⟩ := z
        obtain ⟨T, x1, v1, rfl, nT, rfl, hx1, hv1⟩ := y
        rw [List.length_map] at hi
        have e1 : x1 = .int (i : Nat) := (Option.some.inj hx1).symm
        have e2 : v1 = .str ((piecesOf Rs w).getD i "") := by
          have hv1 : ((piecesOf Rs w).map V.str)[i]? = some v1 := hv1
          rw [List.getElem?_map, List.getElem?_eq_getElem hi] at hv1
          rw [List.getD_eq_getElem?_getD, List.getElem?_eq_getElem hi]
          exact (Option.some.inj hv1).symm
        subst e1 e2
        have sT := same_new (o := .tup [.int (i : Nat), .str ((piecesOf Rs w).getD i "")]) nT
        have ht4 := sT _ _ ht3
        have pl : ((piecesOf Rs w).getD i "").length ≤ (formOf Rs w).length := by
          rw [← esum]
          exact le_sum_mem (List.mem_map.mpr ⟨_, getD_mem hi, rfl⟩)
        refine ⟨T, _, rfl, .inl (Rd.of upd_same), rfl, _, _, rfl, _, _, rfl, rfl, ?_⟩
        refine ⟨_, rfl, .inl ⟨rfl, _, .inl (Rd.of ht4)⟩, _, rfl, by rw [sizeLine_eq]; show 1 ≤ 16777216; decide, fun p1 hp1 => ⟨_, rfl, _, rfl, by rw [sizeLine_eq]; omega, p1, _, [.int (i : Nat)], rfl, rfl, upd_same, by omega, by omega, by rw [sizeLine_eq, Int.toNat_natCast]; show 1 * _ ≤ _; omega, fun p2 hp2 => ?_⟩⟩
        have s5 := same_new (o := .lst [.int (i : Nat)]) hp1
        have s6 := same_new (o := .lst (List.replicate ((((piecesOf Rs w).getD i "").length : Nat) : Int).toNat [V.int (i : Nat)]).flatten) hp2
        have ht6 := s6 _ _ (s5 _ _ ht4)
        have er : (List.replicate ((((piecesOf Rs w).getD i "").length : Nat) : Int).toNat [V.int (i : Nat)]).flatten = (List.replicate ((piecesOf Rs w).getD i "").length ((i : Nat) : Int)).map V.int := by
          rw [Int.toNat_natCast, List.map_replicate]
          generalize ((piecesOf Rs w).getD i "").length = n
          induction n with
          | zero => rfl
          | succ n ih => rw [List.replicate_succ, List.flatten_cons, ih, List.replicate_succ]; rfl
        have tl := traceTake_len (piecesOf Rs w) i (Nat.le_of_lt hi)
        have ts := sum_take_le ((piecesOf Rs w).map (·.length)) i
        refine ⟨t, p2, _, _, rfl, rfl, ht6, upd_same, ?_, ⟨_, _, rfl⟩, ?_, fun b o nb z => ?_⟩
        · rw [er, List.length_map, List.length_map, List.length_replicate, tl, sizeLine_eq]
          omega
        · rw [upd_same, er, traceTake_succ, List.map_append]
        · rw [upd_ne nb]
          exact s6 _ _ (s5 _ _ (sT _ _ (o3 b o nb z)))
      · obtain ⟨⟨x0, y0, rfl⟩, ht3, o3⟩ := z
        rw [List.length_map] at ht3
        refine ⟨_, rfl, h H (Same.refl _) t H3 (fun b o z => o3 b o (fun e => by rw [e, ht] at z; cases z) (s2 _ _ (s1 _ _ (s0 _ _ z)))) ht3⟩
abbrev s_piece_of : Stmt := top 39
theorem sc_piece_of : FnScope ["k", "rules", "word", "at"] ["k", "rules", "word", "at"] (defScope s_piece_of) := ⟨rfl, rfl, rfl, by decide +kernel, rfl, by decide +kernel, by decide +kernel⟩
theorem ok_piece_of (T : Tops K mg) (C_u_pieces : CalX P w K mg base 5 "_pieces" (sp_u_pieces K)) (C_check_list : CalX P w K mg base 7 "check_list" (sp_check_list K)) (F : Fun K "piece_of" "piece_of" s_piece_of f fd) : FnOk P w K mg base (L2.CX P w) 8 f fd ["k", "rules", "word", "at"] (sp_piece_of K) := by
  refine F.okX sc_piece_of (fun vs H Q E h => ?_) (fun cdv A outer s H vs Q E hr h => ?_)
  · obtain ⟨k, a, Rs, w, m, rfl, hR, sm, hl, hw, h⟩ := h
    rfl
  · obtain ⟨k, a, Rs, w, m, rfl, hR, sm, hl, hw, h⟩ := h
    refine ⟨_, (pss_cons (ps_expr (pe_cx (E := E) C_check_list (hr.mono (by decide)) rfl (passes_call (takes_of rfl rfl rfl rfl) (fun _ _ _ _ z => z)) (pa_cons (pv 0) (pa_cons (pv 1) (pa_cons (pv 2) pa_nil)))))
 (pss_cons (ps_if (PW.pt (pw_or (pt_cmpR op_lt (pv 3) pe_int (nomark _)) (pw_or1 (pt_cmpR op_ge (pv 3) (pe_callB call_len_str rfl T.f_len boot_len (pa_cons (pv 2) pa_nil)) (nomark _))))) (pss_one (ps_raiseC T.e_BadNumber rfl (takes_of rfl rfl rfl rfl) rfl)) pss_nil)
 (pss_one (ps_ret (pe_ix ix_list (pe_cx (E := E) C_u_pieces (hr.mono (by decide)) rfl (passes_call (takes_of rfl rfl rfl rfl) (fun _ _ _ _ z => z)) (pa_cons (pv 1) (pa_cons (pv 2) pa_nil))) (pv 3) (fun _ _ => rfl)))))), ?_⟩
    refine ⟨_, rfl, _, rfl, _, rfl, k, a, Rs, w, rfl, hR, sm, hl, hw, fun H1 s1 => ?_⟩
    cases e : errL k Rs w with
    | some e =>
      have h := h _ s1
      rw [e] at h
      exact h
    | none =>
      rw [e] at h
      simp only at h
      have hR1 := hR.same s1
      by_cases c : m < 0 ∨ (w.length : Int) ≤ m
      · rw [if_pos c] at h
        refine ⟨_, rfl, _, _, rfl, rfl, _, rfl, ?_⟩
        refine iB (fun c1 => iT rfl (h _ s1)) fun c1 => ?_
        have := of_decide_eq_false c1
        exact ⟨_, rfl, _, rfl, w, rfl, le_line hw, _, _, rfl, rfl, _, rfl, iT (dT (by omega)) (h _ s1)⟩
      · rw [if_neg c] at h
        refine ⟨_, rfl, _, _, rfl, rfl, _, rfl, iF (dF (by omega)) ⟨_, rfl, _, rfl, w, rfl, le_line hw, _, _, rfl, rfl, _, rfl, iF (dF (by omega)) ?_⟩⟩
        refine ⟨_, rfl, _, rfl, a, Rs, w, rfl, hR1, sm, hl, hw, ?_⟩
        cases b : big Rs w
        · rw [b] at h
          refine fun p H2 np s2 hp => ?_
          have el := piecesOf_len Rs w
          have hz : (w.length : Int) = w.length := rfl
          refine ⟨_, rfl, p, _, _, _, rfl, rfl, .inl (Rd.of hp), ?_, h _ s1 _ s2⟩
          have em : m = ((m.toNat : Nat) : Int) := by omega
          rw [em]
          refine atI_nat ?_
          rw [List.getElem?_map, List.getElem?_eq_getElem (by omega), Int.toNat_natCast, List.getD_eq_getElem?_getD, List.getElem?_eq_getElem (by omega)]
          rfl
        · rw [b] at h
          exact fun H2 s2 => h _ (s1.trans s2)
abbrev s_lost : Stmt := top 40
theorem sc_lost : FnScope ["k", "rules", "word", "at", "piece"] ["k", "rules", "word"] (defScope s_lost) := ⟨rfl, rfl, rfl, by decide +kernel, rfl, by decide +kernel, by decide +kernel⟩
theorem ok_lost (T : Tops K mg) (C_pieces : CalX P w K mg base 8 "pieces" (sp_pieces K)) (F : Fun K "lost" "lost" s_lost f fd) : FnOk P w K mg base (L2.CX P w) 9 f fd ["k", "rules", "word"] (sp_lost K) := by
  refine F.okX sc_lost (fun vs H Q E h => ?_) (fun cdv A outer s H vs Q E hr h => ?_)
  · obtain ⟨k, a, Rs, w, rfl, hR, sm, hl, hw, h⟩ := h
    rfl
  · obtain ⟨k, a, Rs, w, rfl, hR, sm, hl, hw, h⟩ := h
    refine ⟨_, (pss_one (ps_ret (pe_lc (own := [("at", 3), ("piece", 4)]) rfl sc_lost.nd (pi_enum rfl T.f_enumerate (pa_cons (pe_cx (E := E) C_pieces (hr.mono (by decide)) rfl (passes_call (takes_of rfl rfl rfl rfl) (fun _ _ _ _ z => z)) (pa_cons (pv 0) (pa_cons (pv 1) (pa_cons (pv 2) pa_nil)))) pa_nil)) (blkOk_by (N := ["k", "rules", "word", "at", "piece"]) (sc := defScope s_lost) (by decide +kernel)) (fun _ _ _ _ _ => (pg_tupK (K := K) (n := 2) rfl rfl (pgs_cons (pg_name (i := 3) sc_lost.nd rfl (Or.inl rfl)) (pgs_cons (pg_name (i := 4) sc_lost.nd rfl (Or.inl rfl)) pgs_nil)))) (fun _ _ _ _ _ => pts_one (pt_cmpR op_eq (pv 4) pe_str (nomark _))) (fun _ _ _ _ _ => (pv 3))))), ?_⟩
    refine ⟨_, rfl, _, rfl, _, rfl, k, a, Rs, w, rfl, hR, sm, hl, hw, fun H1 s1 => ?_⟩
    cases e : errS k Rs w with
    | some e =>
      rw [e] at h
      exact h _ s1
    | none =>
      rw [e] at h
      refine fun p H2 np s2 hp => ?_
      refine ⟨p, _, rfl, .inl (Rd.of hp), fun D hD => ?_⟩
      refine lc_pure (walk_enum (xs := (piecesOf Rs w).map V.str)) (fun i => keep (decide ((piecesOf Rs w).getD i "" = "")) (.int (i : Nat))) hD ?_ (fun _ s3 => .inl (Rd.of (s3 _ _ hp))) (fun i H x H' y => ?_) (fun i x H3 H4 N C hi s3 y hN hC => ?_) (fun H3 s3 hl3 => ?_)
      · rw [List.length_map, piecesOf_len]
        exact le_line hw
      · obtain ⟨t, x1, v1, _, ht, rfl, _⟩ := y
        exact same_new ht
      · obtain ⟨t, x1, v1, rfl, ht, rfl, hx1, hv1⟩ := y
        rw [List.length_map] at hi
        have e1 : x1 = .int (i : Nat) := (Option.some.inj hx1).symm
        have e2 : v1 = .str ((piecesOf Rs w).getD i "") := by
          have hv1 : ((piecesOf Rs w).map V.str)[i]? = some v1 := hv1
          rw [List.getElem?_map, List.getElem?_eq_getElem hi] at hv1
          rw [List.getD_eq_getElem?_getD, List.getElem?_eq_getElem hi]
          exact (Option.some.inj hv1).symm
        subst e1 e2
        refine ⟨t, _, rfl, .inl (Rd.of upd_same), rfl, _, _, rfl, _, _, rfl, rfl, rfl, ?_⟩
        refine ⟨_, rfl, rfl, _, rfl, ?_⟩
        rw [decS]
        cases c : decide ((piecesOf Rs w).getD i "" = "")
        · exact hN (keep_f c) _ (Same.refl _)
        · exact ⟨_, rfl, hC _ (keep_t c) _ (Same.refl _)⟩
      · refine h _ s1 D H3 (s2.trans s3) ?_
        rw [hl3, keep_map, List.length_map]
abbrev s_law_number : Stmt := top 42
theorem sc_law_number : FnScope ["cell"] ["cell"] (defScope s_law_number) := ⟨rfl, rfl, rfl, by decide +kernel, rfl, by decide +kernel, by decide +kernel⟩
theorem ok_law_number (T : Tops K mg) (F : Fun K "_law_number" "_law_number" s_law_number f fd) : FnOk P w K mg base (L2.CX P w) 1 f fd ["cell"] (sp_law_number K) := by
  refine F.okX sc_law_number (fun vs H Q E h => ?_) (fun cdv A outer s H vs Q E hr h => ?_)
  · obtain ⟨i, rfl, h⟩ := h
    rfl
  · obtain ⟨i, rfl, h⟩ := h
    refine ⟨_, (pss_cons (ps_if (pt_cmpR op_lt (pv 0) pe_int (nomark _)) (pss_one (ps_ret (pe_op op_sub pe_int (pv 0)))) pss_nil)
 (pss_one (ps_ret (pv 0)))), ?_⟩
    refine ⟨_, rfl, _, _, rfl, rfl, _, rfl, ?_⟩
    by_cases c : i < 0
    · refine iT (dT c) ⟨_, rfl, _, _, rfl, rfl, ?_⟩
      have e : (0 : Int) - i = ((i.natAbs : Nat) : Int) := by omega
      show Q (.int (0 - i)) H
      rw [e]
      exact h
    · refine iF (dF c) ⟨_, rfl, ?_⟩
      have e : ((i.natAbs : Nat) : Int) = i := by omega
      rw [e] at h
      exact h
abbrev s_law_draws : Stmt := top 43
theorem sc_law_draws : FnScope ["script", "draws", "cell", "rest", "k", "once", "twice"] ["script"] (defScope s_law_draws) := ⟨rfl, rfl, rfl, by decide +kernel, rfl, by decide +kernel, by decide +kernel⟩
theorem ok_law_draws (T : Tops K mg) (C_law_number : CalX P w K mg base 1 "_law_number" (sp_law_number K)) (F : Fun K "_law_draws" "_law_draws" s_law_draws f fd) : FnOk P w K mg base (L2.CX P w) 2 f fd ["script"] (sp_law_draws K) := by
  refine F.okX sc_law_draws (fun vs H Q E h => ?_) (fun cdv A outer s H vs Q E hr h => ?_)
  · obtain ⟨a, ns, rfl, hs, hn, h⟩ := h
    rfl
  · obtain ⟨a, ns, rfl, hs, hn, h⟩ := h
    refine ⟨_, (pss_cons (ps_set (i := 1) sc_law_draws.nd rfl (Or.inl rfl) (pe_lst pa_nil))
 (pss_cons (ps_for (passes_of rfl) rfl (pi_list (pv 0)) (pg_name (i := 2) sc_law_draws.nd rfl (Or.inl rfl))
 (pss_cons (ps_set (i := 3) sc_law_draws.nd rfl (Or.inl rfl) (pe_cx (E := E) C_law_number (hr.mono (by decide)) rfl (passes_call (takes_of rfl rfl rfl rfl) (fun _ _ _ _ z => z)) (pa_cons (pv 2) pa_nil)))
 (pss_one (ps_if (pt_cmpR op_ge (pv 3) pe_int (nomark _)) (pss_one (ps_for (passes_of rfl) rfl (pi_range1 rfl T.f_range (pa_cons pe_int pa_nil)) (pg_name (i := 4) sc_law_draws.nd rfl (Or.inl rfl))
 (pss_cons (ps_if (pt_cmpR op_eq (pv 3) pe_int (nomark _)) (pss_one ps_break) pss_nil)
 (pss_cons (ps_expr (pe_bm PySem.F.plainAttrs_list PySem.F.slot_list_append PySem.F.type_list_append mt_append (pv 1) (pa_cons (pe_op op_mod (pe_callTy call_int1 rfl T.f_int boot_int (pa_cons (pv 3) pa_nil)) pe_int) pa_nil)))
 (pss_one (ps_set (i := 3) sc_law_draws.nd rfl (Or.inl rfl) (pe_op op_fdivW (pv 3) pe_int))))))) (pss_cons (ps_set (i := 5) sc_law_draws.nd rfl (Or.inl rfl) (pe_op op_mod (pe_callTy call_int1 rfl T.f_int boot_int (pa_cons (pe_op op_add (pe_op op_mulW (pv 3) pe_int) pe_int) pa_nil)) pe_int))
 (pss_cons (ps_set (i := 6) sc_law_draws.nd rfl (Or.inl rfl) (pe_op op_mod (pe_callTy call_int1 rfl T.f_int boot_int (pa_cons (pe_op op_add (pe_op op_mulW (pv 5) pe_int) (pv 3)) pa_nil)) pe_int))
 (pss_one (ps_expr (pe_bm PySem.F.plainAttrs_list PySem.F.slot_list_extend PySem.F.type_list_extend mt_extend (pv 1) (pa_cons (pe_lst (pa_cons (pe_op op_mod (pe_callTy call_int1 rfl T.f_int boot_int (pa_cons (pv 3) pa_nil)) pe_int) (pa_cons (pe_op op_mod (pe_callTy call_int1 rfl T.f_int boot_int (pa_cons (pv 5) pa_nil)) pe_int) (pa_cons (pe_op op_mod (pe_callTy call_int1 rfl T.f_int boot_int (pa_cons (pv 6) pa_nil)) pe_int) pa_nil)))) pa_nil))))))))))
 (pss_one (ps_ret (pv 1))))), ?_⟩
    refine ⟨by rw [sizeLine_eq]; show 0 ≤ 16777216; decide, fun d hd => ?_⟩
    refine ⟨_, rfl, a, rfl, ⟨_, same_l (same_new hd) hs⟩, ?_⟩
    refine for_it walk_list (fun i σ H' => Same H H' ∧ (∃ x1 x2 x3 x4 x5, σ = [some (.ref a), some (.ref d), x1, x2, x3, x4, x5]) ∧ ∃ ms : List Int, H' d = some (.lst (ms.map V.int)) ∧ ms.length ≤ 60 * i ∧ ∀ n ∈ ms, 0 ≤ n ∧ n < 1000)
      ⟨same_new hd, ⟨_, _, _, _, _, rfl⟩, [], upd_same, Nat.zero_le _, fun _ m => (nomatch m)⟩ (fun i σ H' _ z => same_l z.1 hs) (fun i x σ H1 H2 hi z y => ?_) (fun σ H1 z => ?_)
    · obtain ⟨s1, ⟨x1, x2, x3, x4, x5, rfl⟩, ms, hm, hml, hmb⟩ := z
      obtain ⟨rfl, hx⟩ := y
      rw [List.length_map] at hi
      have ex : x = V.int ns[i] := by
        rw [List.getElem?_map, List.getElem?_eq_getElem hi] at hx
        exact (Option.some.inj hx).symm
      subst ex
      refine ⟨_, rfl, _, rfl, ?_⟩
      have hr0 : (0 : Int) ≤ ((ns[i].natAbs : Nat) : Int) := by omega
      generalize ((ns[i].natAbs : Nat) : Int) = r at hr0 ⊢
      refine ⟨_, rfl, _, _, rfl, rfl, _, rfl, ?_⟩
      by_cases c : (1000000000000000000 : Int) ≤ r
      · refine iT (dT c) ⟨60, rfl, by decide, by decide, ?_⟩
        refine for_range (n := 60) (fun j σ H' => Same H H' ∧ (∃ r x2 x3 x4 x5, σ = [some (.ref a), some (.ref d), x2, some (.int r), x3, x4, x5]) ∧ ∃ ms : List Int, H' d = some (.lst (ms.map V.int)) ∧ ms.length ≤ 60 * i + j ∧ ∀ n ∈ ms, 0 ≤ n ∧ n < 1000)
          ⟨s1, ⟨_, _, _, _, _, rfl⟩, ms, hm, hml, hmb⟩ (fun j σ H2 hj z => ?_) (fun σ H2 z => ?_)
        · obtain ⟨s2, ⟨r, x2, x3, x4, x5, rfl⟩, ms, hm, hml, hmb⟩ := z
          refine ⟨_, rfl, rfl, _, rfl, ?_⟩
          rw [decI]
          by_cases c0 : r = 0
          · refine iT (dT c0) ⟨s2, ⟨_, _, _, _, _, rfl⟩, ms, hm, by omega, hmb⟩
          · refine iF (dF c0) ⟨_, rfl, .inl ⟨rfl, _, .inl (Rd.of hm)⟩, _, rfl, .inl ⟨_, rfl, _, _, rfl, rfl, m1000, d, _, _, rfl, rfl, hm, ?_, ?_⟩⟩
            · rw [List.length_map, sizeLine_eq]
              omega
            · have hr := mod_in (n := r) (m := 1000) (by decide)
              refine ⟨_, rfl, _, _, rfl, rfl, ⟨by decide, by decide⟩, fun b o q => ?_, ⟨_, _, _, _, _, rfl⟩, ms ++ [r % 1000], ?_, ?_, fun n m => ?_⟩
              · rw [upd_ne (fun e => by rw [e, hd] at q; cases q)]
                exact s2 _ _ q
              · rw [upd_same, List.map_append]
                rfl
              · rw [List.length_append]
                show ms.length + 1 ≤ _
                omega
              · rcases List.mem_append.mp m with m | m
                · exact hmb n m
                · rw [List.mem_singleton.mp m]
                  exact hr
        · obtain ⟨s2, ⟨r, x2, x3, x4, x5, rfl⟩, ms, hm, hml, hmb⟩ := z
          exact ⟨s2, ⟨_, _, _, _, _, rfl⟩, ms, hm, by omega, hmb⟩
      · have h1 := mod_in (n := r * 48271 + 11) (m := 2147483647) (by decide)
        refine iF (dF c) ⟨_, rfl, _, _, rfl, rfl, wide_mul (a := 60) (b := 16) (by omega) (by decide) (by decide) (by decide) (by decide), _, _, rfl, rfl, .inl ⟨_, rfl, _, _, rfl, rfl, by show (0 : Int) < 2147483647; decide, ?_⟩⟩
        refine ⟨_, rfl, _, _, rfl, rfl, wide_mul (a := 60) (b := 17) (by omega) (by decide) (by decide) (by decide) (by decide), _, rfl, _, _, rfl, rfl, .inl ⟨_, rfl, _, _, rfl, rfl, by show (0 : Int) < 2147483629; decide, ?_⟩⟩
        refine ⟨_, rfl, .inl ⟨rfl, _, .inl (Rd.of hm)⟩, _, rfl, .inl ⟨_, rfl, _, _, rfl, rfl, m1000, _, rfl, .inl ⟨_, rfl, _, _, rfl, rfl, m1000, _, rfl, .inl ⟨_, rfl, _, _, rfl, rfl, m1000, by rw [sizeLine_eq]; show 3 ≤ 16777216; decide, fun p hp => ?_⟩⟩⟩⟩
        have pd : d ≠ p := fun e => by rw [← e, hm] at hp; cases hp
        refine ⟨d, p, _, _, rfl, rfl, by rw [upd_ne pd]; exact hm, upd_same, ?_, ?_⟩
        · rw [List.length_map, sizeLine_eq]
          show ms.length + 3 ≤ _
          omega
        · generalize r * 48271 + 11 = t1 at h1 ⊢
          refine ⟨fun b o q => ?_, ⟨_, _, _, _, _, rfl⟩, ms ++ [r % 1000, t1 % 2147483647 % 1000, (t1 % 2147483647 * 69621 + r) % 2147483629 % 1000], ?_, ?_, fun n m => ?_⟩
          · rw [upd_ne (fun e => by rw [e, hd] at q; cases q), upd_ne (fun e => by rw [e] at q; rw [s1 _ _ q] at hp; cases hp)]
            exact s1 _ _ q
          · rw [upd_same, List.map_append]
            rfl
          · rw [List.length_append]
            show ms.length + 3 ≤ _
            omega
          · rcases List.mem_append.mp m with m | m
            · exact hmb n m
            · have z1 := mod_in (n := r) (m := 1000) (by decide)
              have z2 := mod_in (n := t1 % 2147483647) (m := 1000) (by decide)
              have z3 := mod_in (n := (t1 % 2147483647 * 69621 + r) % 2147483629) (m := 1000) (by decide)
              rcases List.mem_cons.mp m with q | m
              · rw [q]; exact z1
              · rcases List.mem_cons.mp m with q | m
                · rw [q]; exact z2
                · rw [List.mem_singleton.mp m]; exact z3
    · obtain ⟨s1, ⟨x1, x2, x3, x4, x5, rfl⟩, ms, hm, hml, hmb⟩ := z
      exact ⟨_, rfl, h d H1 hd s1 ⟨ms, hm, hmb⟩⟩
abbrev s_law_next : Stmt := top 44
theorem sc_law_next : FnScope ["draws"] ["draws"] (defScope s_law_next) := ⟨rfl, rfl, rfl, by decide +kernel, rfl, by decide +kernel, by decide +kernel⟩
theorem ok_law_next (T : Tops K mg) (F : Fun K "_law_next" "_law_next" s_law_next f fd) : FnOk P w K mg base (L2.CX P w) 1 f fd ["draws"] (sp_law_next K) := by
  refine F.okX sc_law_next (fun vs H Q E h => ?_) (fun cdv A outer s H vs Q E hr h => ?_)
  · obtain ⟨d, rfl, hd, h⟩ := h
    rfl
  · obtain ⟨d, rfl, hd, h⟩ := h
    refine ⟨_, (pss_cons (ps_if (pt_truth (pv 0) (fun _ => rfl)) (pss_one (ps_ret (pe_bm0 PySem.F.plainAttrs_list PySem.F.slot_list_pop PySem.F.type_list_pop mt_pop (pv 0)))) pss_nil)
 (pss_one (ps_ret pe_int))), ?_⟩
    obtain ⟨ns, hn, hb⟩ := hd
    refine ⟨_, rfl, _, .inl ⟨_, .inl (Rd.of hn), rfl⟩, ?_⟩
    by_cases c : ns = []
    · subst c
      exact h 0 H (by decide) (by decide) ⟨[], hn, hb⟩ (KeepX.refl _)
    · have hl : 0 < ns.length := List.length_pos_iff.mpr c
      have e : (!(ns.map V.int).isEmpty) = true := by
        cases ns with
        | nil => exact absurd rfl c
        | cons a b => rfl
      refine iT e ⟨_, rfl, .inl ⟨rfl, _, .inl (Rd.of hn)⟩, d, _, V.int ns[ns.length - 1], rfl, rfl, hn, ?_, ?_⟩
      · rw [List.length_map, List.getElem?_map, List.getElem?_eq_getElem (by omega)]
        rfl
      · have hm := hb _ (List.getElem_mem (show ns.length - 1 < ns.length by omega))
        refine h _ _ hm.1 hm.2 ⟨ns.dropLast, ?_, fun n m => hb n ((List.dropLast_sublist ns).subset m)⟩ (fun b o nb q => ?_)
        · rw [upd_same, List.map_dropLast]
        · rw [upd_ne nb]
          exact q
abbrev s_law_string : Stmt := top 45
theorem sc_law_string : FnScope ["draws", "k", "most", "j"] ["draws", "k", "most"] (defScope s_law_string) := ⟨rfl, rfl, rfl, by decide +kernel, rfl, by decide +kernel, by decide +kernel⟩
theorem ok_law_string (T : Tops K mg) (C_law_next : CalX P w K mg base 1 "_law_next" (sp_law_next K)) (F : Fun K "_law_string" "_law_string" s_law_string f fd) : FnOk P w K mg base (L2.CX P w) 2 f fd ["draws", "k", "most"] (sp_law_string K) := by
  refine F.okX sc_law_string (fun vs H Q E h => ?_) (fun cdv A outer s H vs Q E hr h => ?_)
  · obtain ⟨d, k, m, rfl, hd, k1, k6, m0, m1, h⟩ := h
    rfl
  · obtain ⟨d, k, m, rfl, hd, k1, k6, m0, m1, h⟩ := h
    refine ⟨_, (pss_one (ps_ret (pe_join pe_str (pe_lc (own := [("j", 3)]) rfl sc_law_string.nd (pi_range1 rfl T.f_range (pa_cons (pe_op op_mod (pe_callTy call_int1 rfl T.f_int boot_int (pa_cons (pe_cx (E := E) C_law_next (hr.mono (by decide)) rfl (passes_call (takes_of rfl rfl rfl rfl) (fun _ _ _ _ z => z)) (pa_cons (pv 0) pa_nil)) pa_nil)) (pe_op op_add (pv 2) pe_int)) pa_nil)) (blkOk_by (N := ["draws", "k", "most", "j"]) (sc := defScope s_law_string) (by decide +kernel)) (fun _ _ _ _ _ => (pg_name (i := 3) sc_law_string.nd rfl (Or.inl rfl))) (fun _ _ _ _ _ => pts_nil) (fun _ _ _ _ _ => (pe_ix ix_str pe_str (pe_op op_mod (pe_callTy call_int1 rfl T.f_int boot_int (pa_cons (pe_cx (E := E0) C_law_next (hr.mono (by decide)) rfl passL (pa_cons (pv 0) pa_nil)) pa_nil)) (pv 1)) (fun _ _ => rfl))))))), ?_⟩
    refine ⟨⟨_, rfl⟩, _, rfl, d, rfl, hd, fun n H1 n0 n1 d1 x1 => .inl ⟨_, rfl, _, rfl, _, _, rfl, rfl, _, _, rfl, rfl, by omega, _, rfl, ?_, ?_, fun D hD => ?_⟩⟩
    · have := (mod_in (n := n) (m := m + 1) (by omega)).1
      omega
    · have := (mod_in (n := n) (m := m + 1) (by omega)).2
      omega
    have hr := mod_in (n := n) (m := m + 1) (by omega)
    refine lc_draw walk_range (fun y => ∃ c, y = .str (tx [c]) ∧ LetK k c) hD d1 (le_line (m := 1000) (by omega)) (fun _ _ => trivial) (fun i H x H' y => y.1) (fun i x H2 N C hi d2 x2 y hC => ?_) (fun H2 ys hl hp hy d2 x2 => ?_)
    · obtain ⟨_, rfl⟩ := y
      refine ⟨rfl, _, rfl, d, rfl, d2, fun n2 H3 n20 n21 d3 x3 => .inl ⟨_, rfl, _, rfl, _, _, rfl, rfl, by omega, ?_⟩⟩
      have hk := mod_in (n := n2) (m := k) (by omega)
      refine ⟨_, _, _, rfl, rfl, by decide +kernel, at_str hk.1 (by rw [abc_len]; omega), hC _ _ ⟨_, rfl, ?_⟩ d3 x3⟩
      rw [abc_at _ (by omega)]
      constructor <;> omega
    · obtain ⟨cs, rfl, hc⟩ : ∃ cs : List Nat, ys = (cs.map fun c => tx [c]).map V.str ∧ ∀ c ∈ cs, LetK k c := by
        clear hy hl
        induction ys with
        | nil => exact ⟨[], rfl, fun _ m => (nomatch m)⟩
        | cons y ys ih =>
          obtain ⟨cs, e, hc⟩ := ih fun z m => hp z (List.mem_cons_of_mem _ m)
          obtain ⟨c, e1, h1⟩ := hp y List.mem_cons_self
          refine ⟨c :: cs, by rw [e, e1]; rfl, fun z m => ?_⟩
          rcases List.mem_cons.mp m with q | q
          · rw [q]; exact h1
          · exact hc z q
      rw [List.length_map, List.length_map] at hl
      refine ⟨_, D, _, rfl, rfl, .inl (.inl (Rd.of hy)), ?_, ?_⟩
      · rw [sum_signs, List.length_map]
        have e3 : ("" : Str).length = 0 := rfl
        rw [e3]
        omega
      · rw [join_jn, jn_signs]
        refine h _ _ ⟨?_, hc⟩ d2 (x1.trans x2)
        rw [tx_len]
        omega
abbrev s_law_place : Stmt := top 46
theorem sc_law_place : FnScope ["draws", "k", "bits", "j"] ["draws", "k"] (defScope s_law_place) := ⟨rfl, rfl, rfl, by decide +kernel, rfl, by decide +kernel, by decide +kernel⟩
theorem ok_law_place (T : Tops K mg) (C_law_next : CalX P w K mg base 1 "_law_next" (sp_law_next K)) (F : Fun K "_law_place" "_law_place" s_law_place f fd) : FnOk P w K mg base (L2.CX P w) 2 f fd ["draws", "k"] (sp_law_place K) := by
  refine F.okX sc_law_place (fun vs H Q E h => ?_) (fun cdv A outer s H vs Q E hr h => ?_)
  · obtain ⟨d, k, rfl, hd, k2, k6, h⟩ := h
    rfl
  · obtain ⟨d, k, rfl, hd, k2, k6, h⟩ := h
    refine ⟨_, (pss_cons (ps_set (i := 2) sc_law_place.nd rfl (Or.inr rfl) (pe_op op_add pe_int (pe_op op_mod (pe_callTy call_int1 rfl T.f_int boot_int (pa_cons (pe_cx (E := E) C_law_next (hr.mono (by decide)) rfl (passes_call (takes_of rfl rfl rfl rfl) (fun _ _ _ _ z => z)) (pa_cons (pv 0) pa_nil)) pa_nil)) (pe_op op_sub (pe_op op_shl pe_int (pv 1)) pe_int))))
 (pss_one (ps_ret (pe_join pe_str (pe_lc (own := [("j", 3)]) rfl sc_law_place.nd (pi_range1 rfl T.f_range (pa_cons (pv 1) pa_nil)) (blkOk_by (N := ["draws", "k", "bits", "j"]) (sc := defScope s_law_place) (by decide +kernel)) (fun _ _ _ _ _ => (pg_name (i := 3) sc_law_place.nd rfl (Or.inl rfl))) (fun _ _ _ _ _ => pts_one (pt_cmpR op_eq (pe_op op_mod (pe_op op_fdiv (pv 2) (pe_ix (ix_listK (K := K) rfl) (pe_lst (pa_cons pe_int (pa_cons pe_int (pa_cons pe_int (pa_cons pe_int (pa_cons pe_int (pa_cons pe_int pa_nil))))))) (pv 3) (fun _ _ => rfl))) pe_int) pe_int (nomark _))) (fun _ _ _ _ _ => (pe_ix ix_str pe_str (pv 3) (fun _ _ => rfl)))))))), ?_⟩
    refine ⟨_, rfl, d, rfl, hd, fun n H1 n0 n1 d1 x1 => .inl ⟨_, rfl, _, rfl, _, _, rfl, rfl, ⟨by omega, by omega, by decide⟩, _, _, rfl, rfl, ?_⟩⟩
    obtain ⟨kn, rfl⟩ : ∃ kn : Nat, k = (kn : Int) := ⟨k.toNat, by omega⟩
    have hp2 : (2 : Int) ^ ((kn : Nat) : Int).toNat = ((2 ^ kn : Nat) : Int) := by rw [Int.toNat_natCast]; simp
    have hp4 : 4 ≤ 2 ^ kn := Nat.pow_le_pow_right (n := 2) (by decide) (show 2 ≤ kn by omega)
    refine ⟨_, _, rfl, rfl, by show (0 : Int) < 1 * 2 ^ ((kn : Nat) : Int).toNat - 1; rw [hp2]; omega, _, _, rfl, rfl, ?_⟩
    obtain ⟨b, hb, b1, b2⟩ : ∃ b : Nat, (1 : Int) + n % (1 * 2 ^ ((kn : Nat) : Int).toNat - 1) = (b : Int) ∧ 1 ≤ b ∧ b < 2 ^ kn := by
      have := mod_in (n := n) (m := 1 * 2 ^ ((kn : Nat) : Int).toNat - 1) (by rw [hp2]; omega)
      rw [hp2] at this ⊢
      exact ⟨((1 : Int) + n % (1 * ((2 ^ kn : Nat) : Int) - 1)).toNat, by omega, by omega, by omega⟩
    have b64 : b < 64 := Nat.lt_of_lt_of_le b2 (Nat.pow_le_pow_right (n := 2) (by decide) (show kn ≤ 6 by omega))
    show gName 2 (V.int (1 + n % (1 * 2 ^ ((kn : Nat) : Int).toNat - 1))) _ _ _
    rw [hb]
    refine ⟨⟨_, rfl⟩, _, rfl, _, rfl, by omega, by omega, fun D hD => ?_⟩
    rw [Int.toNat_natCast]
    refine lc_pure walk_range (fun i => keep (decide ((b / 2 ^ i) % 2 = 1)) (.str (tx [97 + i]))) hD (le_line (m := 6) (by omega)) (fun _ _ => trivial) (fun i H x H' y => by rw [y.1]; exact Same.refl _) (fun i x H2 H3 N C hi s2 y hN hC => ?_) (fun H2 s2 hl2 => ?_)
    · obtain ⟨rfl, rfl⟩ := y
      refine ⟨rfl, _, rfl, by rw [sizeLine_eq]; show 6 ≤ 16777216; decide, fun p hp => ⟨_, rfl, p, _, _, _, rfl, rfl, .inl (Rd.of upd_same), at_list .non (by omega) (by show (0 : Int) + (i : Nat) < 6; omega), ?_⟩⟩
      have s4 := same_new (o := .lst [.int 1, .int 2, .int 4, .int 8, .int 16, .int 32]) hp
      have ei : ((0 : Int) + ((i : Nat) : Int)).toNat = i := by omega
      rw [ei, pow_at i (by omega)]
      have hpi : (2 : Nat) ^ i ≤ 2 ^ 6 := Nat.pow_le_pow_right (n := 2) (by decide) (show i ≤ 6 by omega)
      have hp0 : 0 < (2 : Nat) ^ i := Nat.pow_pos (by decide)
      refine ⟨_, _, rfl, rfl, ⟨by omega, by omega⟩, _, _, rfl, rfl, by show (0 : Int) < 2; decide, rfl, _, rfl, ?_⟩
      have ed : (((b : Nat) : Int) / ((2 ^ i : Nat) : Int)) % 2 = (((b / 2 ^ i) % 2 : Nat) : Int) := by omega
      rw [decI]
      show if decide ((((b : Nat) : Int) / ((2 ^ i : Nat) : Int)) % 2 = 1) = true then _ else _
      rw [ed]
      by_cases c : (b / 2 ^ i) % 2 = 1
      · refine iT (dT (by omega)) ⟨_, rfl, _, _, _, rfl, rfl, by decide +kernel, at_str (by omega) (by rw [abc_len]; omega), hC _ ?_ _ s4⟩
        rw [ei, abc_at i (by omega)]
        exact keep_t (dT c)
      · exact iF (dF (by omega)) (hN (keep_f (dF c)) _ s4)
    · rw [keep_map] at hl2
      have e : ((List.range kn).filter fun j => decide ((b / 2 ^ j) % 2 = 1)).map (fun i => V.str (tx [97 + i])) = ((((List.range kn).filter fun j => decide ((b / 2 ^ j) % 2 = 1)).map fun j => 97 + j).map fun c => tx [c]).map V.str := by
        rw [List.map_map, List.map_map]
        rfl
      rw [e] at hl2
      refine ⟨_, D, _, rfl, rfl, .inl (.inl (Rd.of hl2)), ?_, ?_⟩
      · rw [sum_signs, List.length_map, List.length_map]
        have := List.length_filter_le (fun j => decide ((b / 2 ^ j) % 2 = 1)) (List.range kn)
        rw [List.length_range] at this
        have e3 : ("" : Str).length = 0 := rfl
        rw [e3]
        omega
      · rw [join_jn, jn_signs]
        exact h _ _ (place_all kn (by omega) (by omega) b b64 b1 b2) (d1.same s2) (x1.trans (.of s2))
abbrev s_law_context : Stmt := top 47
theorem sc_law_context : FnScope ["draws", "k", "j"] ["draws", "k"] (defScope s_law_context) := ⟨rfl, rfl, rfl, by decide +kernel, rfl, by decide +kernel, by decide +kernel⟩
theorem ok_law_context (T : Tops K mg) (C_law_next : CalX P w K mg base 1 "_law_next" (sp_law_next K)) (C_law_place : CalX P w K mg base 2 "_law_place" (sp_law_place K)) (F : Fun K "_law_context" "_law_context" s_law_context f fd) : FnOk P w K mg base (L2.CX P w) 3 f fd ["draws", "k"] (sp_law_context K) := by
  refine F.okX sc_law_context (fun vs H Q E h => ?_) (fun cdv A outer s H vs Q E hr h => ?_)
  · obtain ⟨d, k, rfl, hd, k2, k6, h⟩ := h
    rfl
  · obtain ⟨d, k, rfl, hd, k2, k6, h⟩ := h
    refine ⟨_, (pss_one (ps_ret (pe_lc (own := [("j", 2)]) rfl sc_law_context.nd (pi_range1 rfl T.f_range (pa_cons (pe_ix ix_list (pe_lst (pa_cons pe_int (pa_cons pe_int (pa_cons pe_int (pa_cons pe_int (pa_cons pe_int pa_nil)))))) (pe_op op_mod (pe_callTy call_int1 rfl T.f_int boot_int (pa_cons (pe_cx (E := E) C_law_next (hr.mono (by decide)) rfl (passes_call (takes_of rfl rfl rfl rfl) (fun _ _ _ _ z => z)) (pa_cons (pv 0) pa_nil)) pa_nil)) pe_int) (fun _ _ => rfl)) pa_nil)) (blkOk_by (N := ["draws", "k", "j"]) (sc := defScope s_law_context) (by decide +kernel)) (fun _ _ _ _ _ => (pg_name (i := 2) sc_law_context.nd rfl (Or.inl rfl))) (fun _ _ _ _ _ => pts_nil) (fun _ _ _ _ _ => (pe_cx (E := E0) C_law_place (hr.mono (by decide)) rfl passL (pa_cons (pv 0) (pa_cons (pv 1) pa_nil))))))), ?_⟩
    refine ⟨by rw [sizeLine_eq]; show 5 ≤ 16777216; decide, fun p hp => ?_⟩
    have s0 := same_new (o := .lst [.int 0, .int 0, .int 1, .int 1, .int 2]) hp
    refine ⟨_, rfl, d, rfl, hd.same s0, fun n H1 n0 n1 d1 x1 => .inl ⟨_, rfl, _, _, rfl, rfl, by show (0 : Int) < 5; decide, ?_⟩⟩
    have hn := mod_in (n := n) (m := 5) (by decide)
    obtain ⟨m, hm, m0, m2⟩ := at5 hn.1 hn.2
    refine ⟨p, _, _, _, rfl, rfl, .inl (Rd.of (x1 _ _ (Ne.symm fun e => ?_) upd_same)), hm, m, rfl, by omega, by omega, fun D hD => ?_⟩
    · exact hd.ne hp e.symm
    refine lc_draw walk_range (fun y => ∃ p, y = .str p ∧ isSet (letters k) p = true) hD d1 (le_line (m := 6) (by omega)) (fun _ _ => trivial) (fun i H x H' y => y.1) (fun i x H2 N C hi d2 x2 y hC => ?_) (fun H2 ys hl hp hy d2 x2 => ?_)
    · obtain ⟨_, rfl⟩ := y
      exact ⟨rfl, _, rfl, _, rfl, d, k, rfl, d2, k2, k6, fun p H3 hp d3 x3 => hC _ _ ⟨p, rfl, hp⟩ d3 x3⟩
    · obtain ⟨ps, rfl, hps⟩ := strs_all hp
      rw [List.length_map] at hl
      have x01 : KeepX d H H1 := (KeepX.of s0).trans x1
      exact h D ps H2 (by omega) hps (x01.free (d1.ne hD) hD) hy d2 (x01.trans x2)
abbrev s_law_rule : Stmt := top 48
theorem sc_law_rule : FnScope ["draws", "k", "letter", "new", "left", "right", "edge"] ["draws", "k"] (defScope s_law_rule) := ⟨rfl, rfl, rfl, by decide +kernel, rfl, by decide +kernel, by decide +kernel⟩
theorem ok_law_rule (T : Tops K mg) (C_law_context : CalX P w K mg base 3 "_law_context" (sp_law_context K)) (C_law_next : CalX P w K mg base 1 "_law_next" (sp_law_next K)) (C_law_string : CalX P w K mg base 2 "_law_string" (sp_law_string K)) (F : Fun K "_law_rule" "_law_rule" s_law_rule f fd) : FnOk P w K mg base (L2.CX P w) 4 f fd ["draws", "k"] (sp_law_rule K) := by
  refine F.okX sc_law_rule (fun vs H Q E h => ?_) (fun cdv A outer s H vs Q E hr h => ?_)
  · obtain ⟨d, k, rfl, hd, k2, k6, h⟩ := h
    rfl
  · obtain ⟨d, k, rfl, hd, k2, k6, h⟩ := h
    refine ⟨_, (pss_cons (ps_set (i := 2) sc_law_rule.nd rfl (Or.inl rfl) (pe_ix ix_str pe_str (pe_op op_mod (pe_callTy call_int1 rfl T.f_int boot_int (pa_cons (pe_cx (E := E) C_law_next (hr.mono (by decide)) rfl (passes_call (takes_of rfl rfl rfl rfl) (fun _ _ _ _ z => z)) (pa_cons (pv 0) pa_nil)) pa_nil)) (pv 1)) (fun _ _ => rfl)))
 (pss_cons (ps_set (i := 3) sc_law_rule.nd rfl (Or.inl rfl) (pe_cx (E := E) C_law_string (hr.mono (by decide)) rfl (passes_call (takes_of rfl rfl rfl rfl) (fun _ _ _ _ z => z)) (pa_cons (pv 0) (pa_cons (pv 1) (pa_cons (pe_ix ix_list (pe_lst (pa_cons pe_int (pa_cons pe_int (pa_cons pe_int pa_nil)))) (pe_op op_mod (pe_callTy call_int1 rfl T.f_int boot_int (pa_cons (pe_cx (E := E) C_law_next (hr.mono (by decide)) rfl (passes_call (takes_of rfl rfl rfl rfl) (fun _ _ _ _ z => z)) (pa_cons (pv 0) pa_nil)) pa_nil)) pe_int) (fun _ _ => rfl)) pa_nil)))))
 (pss_cons (ps_set (i := 4) sc_law_rule.nd rfl (Or.inl rfl) (pe_cx (E := E) C_law_context (hr.mono (by decide)) rfl (passes_call (takes_of rfl rfl rfl rfl) (fun _ _ _ _ z => z)) (pa_cons (pv 0) (pa_cons (pv 1) pa_nil))))
 (pss_cons (ps_set (i := 5) sc_law_rule.nd rfl (Or.inl rfl) (pe_cx (E := E) C_law_context (hr.mono (by decide)) rfl (passes_call (takes_of rfl rfl rfl rfl) (fun _ _ _ _ z => z)) (pa_cons (pv 0) (pa_cons (pv 1) pa_nil))))
 (pss_cons (ps_set (i := 6) sc_law_rule.nd rfl (Or.inl rfl) (pe_op op_mod (pe_callTy call_int1 rfl T.f_int boot_int (pa_cons (pe_cx (E := E) C_law_next (hr.mono (by decide)) rfl (passes_call (takes_of rfl rfl rfl rfl) (fun _ _ _ _ z => z)) (pa_cons (pv 0) pa_nil)) pa_nil)) pe_int))
 (Evl.pss_cut (ps_if (pt_cmpR op_in_seq (pv 6) (pe_lst (pa_cons pe_int (pa_cons pe_int pa_nil))) (by rfl)) (pss_one (ps_set (i := 4) sc_law_rule.nd rfl (Or.inl rfl) (pe_op op_cat (pe_lst (pa_cons pe_str pa_nil)) (pe_slice sl_list (pv 4) (po_some (pe_un un_neg pe_int)) po_none)))) pss_nil)
 (Evl.pss_cut (ps_if (pt_cmpR op_in_seq (pv 6) (pe_lst (pa_cons pe_int (pa_cons pe_int pa_nil))) (by rfl)) (pss_one (ps_set (i := 5) sc_law_rule.nd rfl (Or.inl rfl) (pe_op op_cat (pe_slice sl_list (pv 5) po_none (po_some pe_int)) (pe_lst (pa_cons pe_str pa_nil))))) pss_nil)
 (pss_one (ps_ret (pe_tup (pa_cons (pv 2) (pa_cons (pv 3) (pa_cons (pe_callTy call_tuple_of rfl T.f_tuple boot_tuple (pa_cons (pv 4) pa_nil)) (pa_cons (pe_callTy call_tuple_of rfl T.f_tuple boot_tuple (pa_cons (pv 5) pa_nil)) pa_nil)))))))))))))), ?_⟩
    refine ⟨_, rfl, d, rfl, hd, fun n1 H1 a1 b1 d1 x1 => .inl ⟨_, rfl, _, rfl, _, _, rfl, rfl, by show (0 : Int) < k; omega, ?_⟩⟩
    have hn1 := mod_in (n := n1) (m := k) (by omega)
    refine ⟨_, _, _, rfl, rfl, by decide +kernel, at_str hn1.1 (by rw [abc_len]; omega), ?_⟩
    have hl1 : LetK k ((("abcdef" : Str).cps.getD (n1 % k).toNat 0)) := by
      rw [abc_at _ (by omega)]
      constructor <;> omega
    generalize (("abcdef" : Str).cps.getD (n1 % k).toNat 0) = c at hl1 ⊢
    refine ⟨_, rfl, _, rfl, by rw [sizeLine_eq]; show 3 ≤ 16777216; decide, fun p hp => ?_⟩
    have s1 := same_new (o := .lst [.int 1, .int 2, .int 3]) hp
    refine ⟨_, rfl, d, rfl, d1.same s1, fun n2 H2 a2 b2 d2 x2 => .inl ⟨_, rfl, _, _, rfl, rfl, by show (0 : Int) < 3; decide, ?_⟩⟩
    have hn2 := mod_in (n := n2) (m := 3) (by decide)
    obtain ⟨m, hm, m1, m3⟩ := at3 hn2.1 hn2.2
    refine ⟨p, _, _, _, rfl, rfl, .inl (Rd.of (x2 _ _ (d1.ne hp) upd_same)), hm, d, k, m, rfl, d2, by omega, k6, by omega, by omega, fun w H3 hw d3 x3 => ?_⟩
    refine ⟨_, rfl, _, rfl, d, k, rfl, d3, k2, k6, fun q1 ls H4 l1 l2 l3 l4 d4 x4 => ?_⟩
    refine ⟨_, rfl, _, rfl, d, k, rfl, d4, k2, k6, fun q2 rs H5 r1 r2 r3 r4 d5 x5 => ?_⟩
    refine ⟨_, rfl, d, rfl, d5, fun n3 H6 a3 b3 d6 x6 => .inl ⟨_, rfl, _, _, rfl, rfl, by show (0 : Int) < 6; decide, ?_⟩⟩
    have q1d : q1 ≠ d := fun e => by
      obtain ⟨ns, z, _⟩ := d3
      rw [e, z] at l3
      cases l3
    have q2d : q2 ≠ d := fun e => by
      obtain ⟨ns, z, _⟩ := d4
      rw [e, z] at r3
      cases r3
    have x06 : KeepX d H H6 := ((((x1.trans (.of s1)).trans x2).trans x3).trans x4).trans (x5.trans x6)
    have lq : H6 q1 = some (.lst (ls.map V.str)) := x6 _ _ q1d (x5 _ _ q1d l4)
    have rq : H6 q2 = some (.lst (rs.map V.str)) := x6 _ _ q2d r4
    refine ⟨fun σ' H' => ∃ (q : Addr) (ps : List Str), σ' = [some (.ref d), some (.int k), some (.str (tx [c])), some (.str w), some (.ref q), some (.ref q2), some (.int (n3 % 6))] ∧ q ≠ d ∧ H' q = some (.lst (ps.map V.str)) ∧ isCtx (letters k) ps 0 = true ∧ ps.length ≤ 2 ∧ H' q2 = some (.lst (rs.map V.str)) ∧ Dw H' d ∧ KeepX d H H', ?_, ?_⟩
    · refine ⟨_, rfl, by rw [sizeLine_eq]; show 2 ≤ 16777216; decide, fun p1 hp1 => ⟨p1, _, rfl, .inl (.inl (Rd.of upd_same)), rfl, rfl, _, rfl, iB (fun _ => ?_) fun _ => ?_⟩⟩
      · have s2 := same_new (o := .lst [.int 1, .int 3]) hp1
        refine ⟨by rw [sizeLine_eq]; show 1 ≤ 16777216; decide, fun p2 hp2 => ?_⟩
        have s3 := same_new (o := .lst [.str "#"]) hp2
        refine ⟨_, rfl, _, rfl, _, rfl, q1, _, rfl, .inl (Rd.of (s3 _ _ (s2 _ _ lq))), fun p3 hp3 => ?_⟩
        have s4 := same_new (o := .lst (cutV (ls.map V.str) (some (-1)) none)) hp3
        have e23 : p2 ≠ p3 := fun e => by rw [← e, upd_same] at hp3; cases hp3
        refine ⟨p2, p3, [.str "#"], _, rfl, rfl, s4 _ _ upd_same, upd_same, ?_, fun p4 hp4 => ?_⟩
        · have := cutV_length (ls.map V.str) (some (-1)) none
          rw [List.length_map] at this
          rw [sizeLine_eq]
          show 1 + _ ≤ _
          omega
        · have s5 := same_new (o := .lst ([.str "#"] ++ cutV (ls.map V.str) (some (-1)) none)) hp4
          have s25 := ((s2.trans s3).trans s4).trans s5
          have hll : (ls.drop (ls.length - 1)).length ≤ 1 := by rw [List.length_drop]; omega
          refine ⟨p4, ("#" : Str) :: ls.drop (ls.length - 1), rfl, ((d6.same (s2.trans (s3.trans s4))).ne hp4), ?_, isCtx_left hll fun z mz => l2 z (List.mem_of_mem_drop mz), by rw [List.length_cons]; omega, s25 _ _ rq, d6.same s25, x06.trans (.of s25)⟩
          rw [upd_same, cut_last]
          rfl
      · have s2 := same_new (o := .lst [.int 1, .int 3]) hp1
        exact ⟨q1, ls, rfl, q1d, s2 _ _ lq, isCtx_sets l1 l2, l1, s2 _ _ rq, d6.same s2, x06.trans (.of s2)⟩
    · rintro σ' H' ⟨q, ps, rfl, qd, hq, hc, hcl, rq', d7, x7⟩
      refine ⟨fun σ' H' => ∃ (q2 : Addr) (rs : List Str), σ' = [some (.ref d), some (.int k), some (.str (tx [c])), some (.str w), some (.ref q), some (.ref q2), some (.int (n3 % 6))] ∧ H' q2 = some (.lst (rs.map V.str)) ∧ isCtx (letters k) rs (((rs.length : Nat) : Int) - 1) = true ∧ rs.length ≤ 2 ∧ H' q = some (.lst (ps.map V.str)) ∧ Dw H' d ∧ KeepX d H H', ?_, ?_⟩
      · refine ⟨_, rfl, by rw [sizeLine_eq]; show 2 ≤ 16777216; decide, fun p1 hp1 => ⟨p1, _, rfl, .inl (.inl (Rd.of upd_same)), rfl, rfl, _, rfl, iB (fun _ => ?_) fun _ => ?_⟩⟩
        · have s2 := same_new (o := .lst [.int 2, .int 3]) hp1
          refine ⟨_, rfl, _, rfl, q2, _, rfl, .inl (Rd.of (s2 _ _ rq')), fun p3 hp3 => ?_⟩
          have s3 := same_new (o := .lst (cutV (rs.map V.str) none (some 1))) hp3
          refine ⟨by rw [sizeLine_eq]; show 1 ≤ 16777216; decide, fun p2 hp2 => ?_⟩
          have s4 := same_new (o := .lst [.str "#"]) hp2
          refine ⟨p3, p2, _, [.str "#"], rfl, rfl, s4 _ _ upd_same, upd_same, ?_, fun p4 hp4 => ?_⟩
          · have := cutV_length (rs.map V.str) none (some 1)
            rw [List.length_map] at this
            rw [sizeLine_eq]
            show _ + 1 ≤ _
            omega
          · have s5 := same_new (o := .lst (cutV (rs.map V.str) none (some 1) ++ [.str "#"])) hp4
            have s25 := ((s2.trans s3).trans s4).trans s5
            have hll : (rs.take 1).length ≤ 1 := by rw [List.length_take]; omega
            refine ⟨p4, rs.take 1 ++ [("#" : Str)], rfl, ?_, isCtx_right hll fun z mz => r2 z (List.mem_of_mem_take mz), by rw [List.length_append]; show _ + 1 ≤ 2; omega, s25 _ _ hq, d7.same s25, x7.trans (.of s25)⟩
            rw [upd_same, cut_first, List.map_append]
            rfl
        · have s2 := same_new (o := .lst [.int 2, .int 3]) hp1
          exact ⟨q2, rs, rfl, s2 _ _ rq', isCtx_sets r1 r2, r1, s2 _ _ hq, d7.same s2, x7.trans (.of s2)⟩
      · rintro σ' H'' ⟨q2, rs, rfl, rq', hr2, hr2l, hq, d8, x8⟩
        refine ⟨_, rfl, _, rfl, _, rfl, q, _, rfl, .inl ⟨.inl (Rd.of hq), fun t1 ht1 => ?_⟩⟩
        have s2 := same_new (o := .tup (ps.map V.str)) ht1
        refine ⟨_, rfl, q2, _, rfl, .inl ⟨.inl (Rd.of (s2 _ _ rq')), fun t2 ht2 => ?_⟩⟩
        have s3 := same_new (o := .tup (rs.map V.str)) ht2
        refine ⟨by rw [sizeLine_eq]; show 4 ≤ 16777216; decide, fun t3 ht3 => ?_⟩
        have s4 := same_new (o := .tup [.str (tx [c]), .str w, .ref t1, .ref t2]) ht3
        have s24 := (s2.trans s3).trans s4
        refine h t3 ⟨tx [c], w, ps, rs⟩ _ ⟨t1, t2, .inl (Rd.of upd_same), .inl (Rd.of (s4 _ _ (s3 _ _ upd_same))), .inl (Rd.of (s4 _ _ upd_same))⟩ ?_ (d8.same s24) (x8.trans (.of s24))
        have e1 : ((((tx [c]).length : Nat) : Int) = 1) := rfl
        have e2 : (tx [c]).cps.getD 0 0 = c := rfl
        unfold isRule isNew
        show (decide ((((tx [c]).length : Nat) : Int) = 1) && decide ((tx [c]).cps.getD 0 0 ∈ (letters k).cps.toList) && (decide (((w.length : Nat) : Int) ≤ 3) && decide (Txt.stripChars w (letters k) = "")) && isCtx (letters k) ps 0 && isCtx (letters k) rs (((rs.length : Nat) : Int) - 1)) = true
        rw [hc, hr2, e2, decide_eq_true e1, decide_eq_true ((mem_letters k2 k6 c).mpr hl1), decide_eq_true (strip_all fun z mz => (mem_letters k2 k6 z).mpr (hw.2 z mz)), decide_eq_true (show ((w.length : Nat) : Int) ≤ 3 by have := hw.1; omega)]
        rfl
abbrev s_law_rules : Stmt := top 49
theorem sc_law_rules : FnScope ["draws", "k", "most", "j"] ["draws", "k", "most"] (defScope s_law_rules) := ⟨rfl, rfl, rfl, by decide +kernel, rfl, by decide +kernel, by decide +kernel⟩
theorem ok_law_rules (T : Tops K mg) (C_law_next : CalX P w K mg base 1 "_law_next" (sp_law_next K)) (C_law_rule : CalX P w K mg base 4 "_law_rule" (sp_law_rule K)) (F : Fun K "_law_rules" "_law_rules" s_law_rules f fd) : FnOk P w K mg base (L2.CX P w) 5 f fd ["draws", "k", "most"] (sp_law_rules K) := by
  refine F.okX sc_law_rules (fun vs H Q E h => ?_) (fun cdv A outer s H vs Q E hr h => ?_)
  · obtain ⟨d, k, m, rfl, hd, k2, k6, m0, m1, h⟩ := h
    rfl
  · obtain ⟨d, k, m, rfl, hd, k2, k6, m0, m1, h⟩ := h
    refine ⟨_, (pss_one (ps_ret (pe_callTy call_tuple_of rfl T.f_tuple boot_tuple (pa_cons (pe_lc (own := [("j", 3)]) rfl sc_law_rules.nd (pi_range1 rfl T.f_range (pa_cons (pe_op op_mod (pe_callTy call_int1 rfl T.f_int boot_int (pa_cons (pe_cx (E := E) C_law_next (hr.mono (by decide)) rfl (passes_call (takes_of rfl rfl rfl rfl) (fun _ _ _ _ z => z)) (pa_cons (pv 0) pa_nil)) pa_nil)) (pe_op op_add (pv 2) pe_int)) pa_nil)) (blkOk_by (N := ["draws", "k", "most", "j"]) (sc := defScope s_law_rules) (by decide +kernel)) (fun _ _ _ _ _ => (pg_name (i := 3) sc_law_rules.nd rfl (Or.inl rfl))) (fun _ _ _ _ _ => pts_nil) (fun _ _ _ _ _ => (pe_cx (E := E0) C_law_rule (hr.mono (by decide)) rfl passL (pa_cons (pv 0) (pa_cons (pv 1) pa_nil))))) pa_nil)))), ?_⟩
    refine ⟨_, rfl, d, rfl, hd, fun n H1 n0 n1 d1 x1 => .inl ⟨_, rfl, _, rfl, _, _, rfl, rfl, _, _, rfl, rfl, by show (0 : Int) < m + 1; omega, ?_⟩⟩
    have hn := mod_in (n := n) (m := m + 1) (by omega)
    refine ⟨_, rfl, by omega, by omega, fun D hD => ?_⟩
    have hne := d1.ne hD
    refine lc_it walk_range (fun i H => KeepX d H1 H ∧ Dw H d ∧ ∃ (as : List Addr) (Rs : List Rl), H D = some (.lst (as.map V.ref)) ∧ as.length = i ∧ Rs.length = i ∧ (∀ R ∈ Rs, isRule k R = true) ∧ ∀ j, j < i → RuleAt K H (as.getD j 0) (Rs.getD j Rl.nil))
      ⟨.of (same_new hD), d1.same (same_new hD), [], [], upd_same, rfl, rfl, fun _ z => (nomatch z), fun _ z => absurd z (Nat.not_lt_zero _)⟩ (fun _ _ _ _ => trivial) (fun i x H2 H3 hi p y => ?_) (fun H2 p => ?_)
    · obtain ⟨x2, d2, as, Rs, hD2, la, lr, ir, ra⟩ := p
      obtain ⟨rfl, rfl⟩ := y
      refine ⟨rfl, _, rfl, _, rfl, d, k, rfl, d2, k2, k6, fun a R H4 hR isR d4 x4 => ?_⟩
      have hD4 := x4 _ _ hne hD2
      have kd : KeepD d D H4 (upd H4 D (.lst (as.map V.ref ++ [V.ref a]))) := fun b o _ nb q => by rw [upd_ne nb]; exact q
      refine ⟨_, hD4, by rw [List.length_map, la, sizeLine_eq]; omega, fun b o nb q => ?_, ?_, as ++ [a], Rs ++ [R], ?_, ?_, ?_, fun S mS => ?_, fun j hj => ?_⟩
      · rw [upd_ne (fun e => by rw [e, hD] at q; cases q)]
        exact x4 _ _ nb (x2 _ _ nb q)
      · obtain ⟨ns, q, r⟩ := d4
        exact ⟨ns, by rw [upd_ne (Ne.symm hne)]; exact q, r⟩
      · rw [upd_same, List.map_append]
        rfl
      · rw [List.length_append, la]
        rfl
      · rw [List.length_append, lr]
        rfl
      · rcases List.mem_append.mp mS with z | z
        · exact ir S z
        · rw [List.mem_singleton.mp z]
          exact isR
      · by_cases c : j < i
        · rw [List.getD_eq_getElem?_getD, List.getElem?_append_left (by omega), ← List.getD_eq_getElem?_getD, List.getD_eq_getElem?_getD (l := Rs ++ [R]), List.getElem?_append_left (by omega), ← List.getD_eq_getElem?_getD]
          exact ((ra j c).keep x4 d2).keepD kd d4 hD4
        · have e : j = i := by omega
          subst e
          have e1 : (as ++ [a]).getD j 0 = a := by
            rw [List.getD_eq_getElem?_getD, List.getElem?_append_right (by omega), la, Nat.sub_self]
            rfl
          have e2 : (Rs ++ [R]).getD j Rl.nil = R := by
            rw [List.getD_eq_getElem?_getD, List.getElem?_append_right (by omega), lr, Nat.sub_self]
            rfl
          rw [e1, e2]
          exact hR.keepD kd d4 hD4
    · obtain ⟨x2, d2, as, Rs, hD2, la, lr, ir, ra⟩ := p
      refine ⟨D, _, rfl, .inl ⟨.inl (Rd.of hD2), fun t ht => ?_⟩⟩
      have st := same_new (o := .tup (as.map V.ref)) ht
      refine h t Rs _ ⟨as, .inl (Rd.of upd_same), by rw [la, lr], fun j hj => (ra j (by rw [lr] at hj; exact hj)).same st⟩ ?_ ir (d2.same st) ((x1.trans x2).trans (.of st))
      rw [lr]
      omega
abbrev s_law_at : Stmt := top 50
theorem sc_law_at : FnScope ["word", "at"] ["word", "at"] (defScope s_law_at) := ⟨rfl, rfl, rfl, by decide +kernel, rfl, by decide +kernel, by decide +kernel⟩
theorem ok_law_at (T : Tops K mg) (F : Fun K "_law_at" "_law_at" s_law_at f fd) : FnOk P w K mg base (L2.CX P w) 1 f fd ["word", "at"] (sp_law_at K) := by
  refine F.okX sc_law_at (fun vs H Q E h => ?_) (fun cdv A outer s H vs Q E hr h => ?_)
  · obtain ⟨w, i, rfl, hw, h⟩ := h
    rfl
  · obtain ⟨w, i, rfl, hw, h⟩ := h
    refine ⟨_, (pss_cons (ps_if (pt_chain op_le op_lt pe_int (pv 1) (pe_callB call_len_str rfl T.f_len boot_len (pa_cons (pv 0) pa_nil))) (pss_one (ps_ret (pe_ix ix_str (pv 0) (pv 1) (fun _ _ => rfl)))) pss_nil)
 (pss_one (ps_ret pe_str))), ?_⟩
    refine ⟨_, rfl, _, _, rfl, rfl, _, rfl, iB (fun c => ?_) fun c => ?_⟩
    · have c := of_decide_eq_true c
      refine ⟨_, rfl, _, rfl, hw, _, _, rfl, rfl, _, rfl, iB (fun c2 => ?_) fun c2 => ?_⟩
      · have c2 := of_decide_eq_true c2
        have e : lawSign w i = w.cps.getD i.toNat 0 := if_pos ⟨c, c2⟩
        rw [e] at h
        exact ⟨_, rfl, _, rfl, _, _, _, rfl, rfl, hw, at_str c c2, h⟩
      · have c2 := of_decide_eq_false c2
        have e : lawSign w i = 35 := if_neg fun z => c2 z.2
        rw [e] at h
        exact h
    · have c := of_decide_eq_false c
      have e : lawSign w i = 35 := if_neg fun z => c z.1
      rw [e] at h
      exact ⟨_, rfl, h⟩
abbrev s_law_is_there : Stmt := top 51
theorem sc_law_is_there : FnScope ["rule", "word", "at", "letter", "new", "left", "right", "j"] ["rule", "word", "at"] (defScope s_law_is_there) := ⟨rfl, rfl, rfl, by decide +kernel, rfl, by decide +kernel, by decide +kernel⟩
theorem ok_law_is_there (T : Tops K mg) (C_law_at : CalX P w K mg base 1 "_law_at" (sp_law_at K)) (F : Fun K "_law_is_there" "_law_is_there" s_law_is_there f fd) : FnOk P w K mg base (L2.CX P w) 2 f fd ["rule", "word", "at"] (sp_law_is_there K) := by
  refine F.okX sc_law_is_there (fun vs H Q E h => ?_) (fun cdv A outer s H vs Q E hr h => ?_)
  · obtain ⟨a, R, w, i, rfl, hR, hl, hr2, hi, hw, h⟩ := h
    rfl
  · obtain ⟨a, R, w, i, rfl, hR, hl, hr2, hi, hw, h⟩ := h
    refine ⟨_, (pss_cons (ps_asg (pv 0) (pg_tup rfl (pgs_cons (pg_name (i := 3) sc_law_is_there.nd rfl (Or.inl rfl)) (pgs_cons (pg_name (i := 4) sc_law_is_there.nd rfl (Or.inl rfl)) (pgs_cons (pg_name (i := 5) sc_law_is_there.nd rfl (Or.inl rfl)) (pgs_cons (pg_name (i := 6) sc_law_is_there.nd rfl (Or.inl rfl)) pgs_nil))))))
 (pss_cons (ps_if (pt_cmpR op_ne (pe_ix ix_str (pv 1) (pv 2) (fun _ _ => rfl)) (pv 3) (nomark _)) (pss_one (ps_ret pe_bl)) pss_nil)
 (pss_cons (ps_for (passes_of rfl) rfl (pi_range1 rfl T.f_range (pa_cons (pe_callB call_len_seq rfl T.f_len boot_len (pa_cons (pv 5) pa_nil)) pa_nil)) (pg_name (i := 7) sc_law_is_there.nd rfl (Or.inl rfl))
 (pss_one (ps_if (pt_cmpR op_notIn_sign (pe_cx (E := E) C_law_at (hr.mono (by decide)) rfl (passes_call (takes_of rfl rfl rfl rfl) (fun _ _ _ _ z => z)) (pa_cons (pv 1) (pa_cons (pe_op op_add (pe_op op_sub (pv 2) (pe_callB call_len_seq rfl T.f_len boot_len (pa_cons (pv 5) pa_nil))) (pv 7)) pa_nil))) (pe_ix ix_tup (pv 5) (pv 7) (fun _ _ => rfl)) (by rfl)) (pss_one (ps_ret pe_bl)) pss_nil)))
 (pss_cons (ps_for (passes_of rfl) rfl (pi_range1 rfl T.f_range (pa_cons (pe_callB call_len_seq rfl T.f_len boot_len (pa_cons (pv 6) pa_nil)) pa_nil)) (pg_name (i := 7) sc_law_is_there.nd rfl (Or.inl rfl))
 (pss_one (ps_if (pt_cmpR op_notIn_sign (pe_cx (E := E) C_law_at (hr.mono (by decide)) rfl (passes_call (takes_of rfl rfl rfl rfl) (fun _ _ _ _ z => z)) (pa_cons (pv 1) (pa_cons (pe_op op_add (pe_op op_add (pv 2) pe_int) (pv 7)) pa_nil))) (pe_ix ix_tup (pv 6) (pv 7) (fun _ _ => rfl)) (by rfl)) (pss_one (ps_ret pe_bl)) pss_nil)))
 (pss_one (ps_ret pe_bl)))))), ?_⟩
    obtain ⟨al, ar, h1, h2, h3⟩ := hR.ex
    refine ⟨_, rfl, a, _, rfl, h1, rfl, _, _, rfl, _, _, rfl, _, _, rfl, _, _, rfl, rfl, ?_⟩
    refine ⟨_, rfl, _, rfl, w, _, _, rfl, rfl, hw, at_str (by omega) (by omega), _, rfl, rfl, _, rfl, ?_⟩
    rw [Int.toNat_natCast, decS]
    unfold lawThere at h
    cases c1 : decide (tx [w.cps.getD i 0] = R.c) <;> rw [c1] at h
    · exact h
    · refine ⟨_, rfl, al, _, rfl, .inr h2, _, rfl, by rw [List.length_map]; omega, by rw [List.length_map]; omega, ?_⟩
      rw [List.length_map, Int.toNat_natCast]
      refine for_range (n := R.l.length) (fun j σ H' => H' = H ∧ (∀ m, m < j → decide (lawSign w ((((i : Nat) : Int) - ((R.l.length : Nat) : Int)) + ((m : Nat) : Int)) ∈ (R.l.getD m "").cps.toList) = true) ∧ ∃ x, σ = [some (.ref a), some (.str w), some (.int (i : Nat)), some (.str R.c), some (.str R.n), some (.ref al), some (.ref ar), x])
        ⟨rfl, fun m hm => absurd hm (Nat.not_lt_zero _), _, rfl⟩ (fun j σ H' hj z => ?_) (fun σ H' z => ?_)
      · obtain ⟨rfl, all, x, rfl⟩ := z
        refine ⟨_, rfl, _, rfl, _, rfl, al, _, rfl, .inr h2, _, _, rfl, rfl, _, rfl, _, _, rfl, rfl, w, _, rfl, hw, _, rfl, _, rfl, al, _, _, _, rfl, rfl, h2, at_list .non (by omega) (by rw [List.length_map]; omega), ?_⟩
        rw [List.length_map]
        have ej : ((0 : Int) + ((j : Nat) : Int)).toNat = j := by omega
        rw [ej, getD_strs hj, Int.zero_add]
        refine ⟨_, _, rfl, rfl, _, rfl, iB (fun c => ?_) fun c => ?_⟩
        · have c := Bool.not_eq_true' _ |>.mp c
          rw [show lawFit R.l w (((i : Nat) : Int) - ((R.l.length : Nat) : Int)) = false from all_range_not hj c] at h
          exact h
        · have c := Bool.not_eq_false' _ |>.mp c
          refine ⟨rfl, fun m hm => ?_, _, rfl⟩
          rcases Nat.lt_succ_iff_lt_or_eq.mp hm with q | q
          · exact all m q
          · rw [q]
            exact c
      · obtain ⟨rfl, all, x, rfl⟩ := z
        rw [show lawFit R.l w (((i : Nat) : Int) - ((R.l.length : Nat) : Int)) = true from all_range_succ all, Bool.true_and, Bool.true_and] at h
        refine ⟨_, rfl, ar, _, rfl, .inr h3, _, rfl, by rw [List.length_map]; omega, by rw [List.length_map]; omega, ?_⟩
        rw [List.length_map, Int.toNat_natCast]
        refine for_range (n := R.r.length) (fun j σ H'' => H'' = H' ∧ (∀ m, m < j → decide (lawSign w ((((i : Nat) : Int) + 1) + ((m : Nat) : Int)) ∈ (R.r.getD m "").cps.toList) = true) ∧ ∃ x, σ = [some (.ref a), some (.str w), some (.int (i : Nat)), some (.str R.c), some (.str R.n), some (.ref al), some (.ref ar), x])
          ⟨rfl, fun m hm => absurd hm (Nat.not_lt_zero _), _, rfl⟩ (fun j σ H'' hj z => ?_) (fun σ H'' z => ?_)
        · obtain ⟨rfl, all, x, rfl⟩ := z
          refine ⟨_, rfl, _, rfl, _, _, rfl, rfl, _, rfl, _, _, rfl, rfl, w, _, rfl, hw, _, rfl, _, rfl, ar, _, _, _, rfl, rfl, h3, at_list .non (by omega) (by rw [List.length_map]; omega), ?_⟩
          have ej : ((0 : Int) + ((j : Nat) : Int)).toNat = j := by omega
          rw [ej, getD_strs hj, Int.zero_add]
          refine ⟨_, _, rfl, rfl, _, rfl, iB (fun c => ?_) fun c => ?_⟩
          · have c := Bool.not_eq_true' _ |>.mp c
            rw [show lawFit R.r w (((i : Nat) : Int) + 1) = false from all_range_not hj c] at h
            exact h
          · have c := Bool.not_eq_false' _ |>.mp c
            refine ⟨rfl, fun m hm => ?_, _, rfl⟩
            rcases Nat.lt_succ_iff_lt_or_eq.mp hm with q | q
            · exact all m q
            · rw [q]
              exact c
        · obtain ⟨rfl, all, x, rfl⟩ := z
          rw [show lawFit R.r w (((i : Nat) : Int) + 1) = true from all_range_succ all] at h
          exact h
abbrev s_law_followed : Stmt := top 54
theorem sc_law_followed : FnScope ["rules", "word", "at", "marked", "rule", "shown", "longer", "letter", "origin", "pair", "sign"] ["rules", "word"] (defScope s_law_followed) := ⟨rfl, rfl, rfl, by decide +kernel, rfl, by decide +kernel, by decide +kernel⟩
theorem ok_law_followed (T : Tops K mg) (C_law_is_there : CalX P w K mg base 2 "_law_is_there" (sp_law_is_there K)) (F : Fun K "_law_followed" "_law_followed" s_law_followed f fd) : FnOk P w K mg base (L2.CX P w) 3 f fd ["rules", "word"] (sp_law_followed K) := by
  refine F.okX sc_law_followed (fun vs H Q E h => ?_) (fun cdv A outer s H vs Q E hr h => ?_)
  · obtain ⟨k, a, Rs, w, rfl, hR, mk, hl, hw, h⟩ := h
    rfl
  · obtain ⟨k, a, Rs, w, rfl, hR, mk, hl, hw, h⟩ := h
    refine ⟨_, (pss_cons (ps_setLc (i := 3) (own := [("at", 2)]) (by rfl) sc_law_followed.nd rfl rfl (sw_true rfl rfl rfl (by decide +kernel)) (pi_range1 rfl T.f_range (pa_cons (pe_callB call_len_str rfl T.f_len boot_len (pa_cons (pv 1) pa_nil)) pa_nil)) (blkOk_by (N := ["rules", "word", "at", "marked", "rule", "shown", "longer", "letter", "origin", "pair", "sign"]) (sc := defScope s_law_followed) (by decide +kernel)) (fun _ _ _ _ _ => (pg_name (i := 2) sc_law_followed.nd rfl (Or.inl rfl))) (fun _ _ _ _ _ => pts_nil) (fun _ _ _ _ _ => (pe_tup (pa_cons (pe_ix ix_str (pv 1) (pv 2) (fun _ _ => rfl)) (pa_cons (pv 2) pa_nil)))))
 (pss_cons (ps_for (passes_of rfl) rfl (pi_tup (pv 0)) (pg_name (i := 4) sc_law_followed.nd rfl (Or.inl rfl))
 (pss_cons (ps_set (i := 5) sc_law_followed.nd rfl (Or.inl rfl) (pe_join pe_str (pe_lc (own := [("pair", 9)]) rfl sc_law_followed.nd (pi_list (pv 3)) (blkOk_by (N := ["rules", "word", "at", "marked", "rule", "shown", "longer", "letter", "origin", "pair", "sign"]) (sc := defScope s_law_followed) (by decide +kernel)) (fun _ _ _ _ _ => (pg_name (i := 9) sc_law_followed.nd rfl (Or.inl rfl))) (fun _ _ _ _ _ => pts_nil) (fun _ _ _ _ _ => (pe_ix (ix_tupK (K := K) rfl) (pv 9) pe_int (fun _ _ => rfl))))))
 (pss_cons (ps_set (i := 6) sc_law_followed.nd rfl (Or.inl rfl) (pe_lst pa_nil))
 (pss_cons (ps_for (passes_of rfl) rfl (pi_range1 rfl T.f_range (pa_cons (pe_callB call_len_seq rfl T.f_len boot_len (pa_cons (pv 3) pa_nil)) pa_nil)) (pg_name (i := 2) sc_law_followed.nd rfl (Or.inl rfl))
 (pss_cons (ps_asg (pe_ix ix_list (pv 3) (pv 2) (fun _ _ => rfl)) (pg_tup rfl (pgs_cons (pg_name (i := 7) sc_law_followed.nd rfl (Or.inl rfl)) (pgs_cons (pg_name (i := 8) sc_law_followed.nd rfl (Or.inr rfl)) pgs_nil))))
 (pss_one (ps_if (pt_val (pe_cx (E := E) C_law_is_there (hr.mono (by decide)) rfl (passes_call (takes_of rfl rfl rfl rfl) (fun _ _ _ _ z => z)) (pa_cons (pv 4) (pa_cons (pv 5) (pa_cons (pv 2) pa_nil))))) (pss_one (ps_set (i := 6) sc_law_followed.nd rfl (Or.inl rfl) (pe_op op_cat (pv 6) (pe_lc (own := [("sign", 10)]) rfl sc_law_followed.nd (pi_str (pe_ix ix_tup (pv 4) pe_int (fun _ _ => rfl))) (blkOk_by (N := ["rules", "word", "at", "marked", "rule", "shown", "longer", "letter", "origin", "pair", "sign"]) (sc := defScope s_law_followed) (by decide +kernel)) (fun _ _ _ _ _ => (pg_name (i := 10) sc_law_followed.nd rfl (Or.inl rfl))) (fun _ _ _ _ _ => pts_nil) (fun _ _ _ _ _ => (pe_tup (pa_cons (pv 10) (pa_cons (pv 8) pa_nil)))))))) (pss_one (ps_expr (pe_bm PySem.F.plainAttrs_list PySem.F.slot_list_append PySem.F.type_list_append mt_append (pv 6) (pa_cons (pe_tup (pa_cons (pv 7) (pa_cons (pv 8) pa_nil))) pa_nil))))))))
 (pss_one (ps_set (i := 3) sc_law_followed.nd rfl (Or.inl rfl) (pv 6)))))))
 (pss_one (ps_ret (pv 3))))), ?_⟩
    obtain ⟨as, h1, h2, h3⟩ := hR.ex
    refine ⟨_, rfl, w, rfl, le_line (by omega), _, rfl, by omega, by omega, fun D hD => ?_⟩
    refine lc_it walk_range (fun i H' => Same H H' ∧ ∃ bs : List Addr, H' D = some (.lst (bs.map V.ref)) ∧ MsAt K H' bs ((marked [] w).take i))
      ⟨same_new hD, [], upd_same, .nil⟩ (fun _ _ _ _ => trivial) (fun i x H2 H3 hi p y => ?_) (fun H2 p => ?_)
    · obtain ⟨s2, bs, hD2, mb⟩ := p
      obtain ⟨rfl, rfl⟩ := y
      have hi : i < w.length := by omega
      have lb := mb.1
      rw [List.length_take, marked_len] at lb
      have lb2 : bs.length ≤ 8 := by have : (formOf [] w).length = w.length := rfl; omega
      refine ⟨rfl, _, rfl, _, rfl, _, _, _, rfl, rfl, le_line (by omega), at_str (by omega) (by omega), ?_⟩
      refine ⟨_, rfl, by rw [sizeLine_eq]; show 2 ≤ 16777216; decide, fun t ht => ?_⟩
      have ej : ((0 : Int) + ((i : Nat) : Int)).toNat = i := by omega
      simp only [ej, Int.zero_add]
      have st := same_new (o := .tup [.str (tx [w.cps.getD i 0]), .int (i : Nat)]) ht
      have hD4 := st _ _ hD2
      refine ⟨_, hD4, by rw [List.length_map, sizeLine_eq]; omega, fun b o q => ?_, bs ++ [t], ?_, ?_⟩
      · rw [upd_ne (fun e => by rw [e, hD] at q; cases q)]
        exact st _ _ (s2 _ _ q)
      · rw [upd_same, List.map_append]
        rfl
      · rw [marked_take w i hi]
        exact ((mb.same st).app (.one (.inl (.inl upd_same)))).upd hD4
    · obtain ⟨s2, bs, hD2, mb⟩ := p
      have et : (marked [] w).take w.length = marked [] w := List.take_of_length_le (by rw [marked_len]; exact Nat.le_refl _)
      rw [Int.toNat_natCast, et] at mb
      refine ⟨_, rfl, a, rfl, ⟨_, same_t s2 h1⟩, ?_⟩
      refine for_it (walk_tup (xs := as.map V.ref)) (fun i σ H' => (∃ (q : Addr) (bs : List Addr) (x2 x4 x5 x6 x7 x8 x9 x10 : Option V), σ = [some (.ref a), some (.str w), x2, some (.ref q), x4, x5, x6, x7, x8, x9, x10] ∧ H' q = some (.lst (bs.map V.ref)) ∧ MsAt K H' bs (marked (Rs.take i) w)) ∧ Same H H')
        ⟨⟨D, bs, _, _, _, _, _, _, _, _, rfl, hD2, mb⟩, s2⟩ (fun i σ H' _ z => same_t z.2 h1) (fun i x σ H3 H4 hi z y => ?_) (fun σ H3 z => ?_)
      · obtain ⟨⟨q, bs, x2, x4, x5, x6, x7, x8, x9, x10, rfl, hq, mb⟩, s3⟩ := z
        obtain ⟨rfl, hx⟩ := y
        obtain ⟨hi2, rfl⟩ := ref_at hx
        rw [h2] at hi2
        have fl := form_648 mk hl hw (Nat.le_of_lt hi2)
        have lb := mb.1
        rw [marked_len] at lb
        refine ⟨⟨_, rfl⟩, _, rfl, q, rfl, ⟨_, .inl (Rd.of hq)⟩, fun D2 nD2 => ?_⟩
        refine lc_pure (walk_list (xs := bs.map V.ref)) (fun j => some (.str ((marked (Rs.take i) w).getD j ("", 0)).1)) nD2 ?_ (fun _ s4 => .inl (Rd.of (s4 _ _ hq))) (fun i H x H' y => by rw [y.1]; exact Same.refl _) (fun j x H5 H6 N C hj s5 y hN hC => ?_) (fun H5 s5 hl5 => ?_)
        · rw [List.length_map, lb]
          exact le_line (by omega)
        · obtain ⟨rfl, hx⟩ := y
          obtain ⟨hj2, rfl⟩ := ref_at hx
          have rt := (mb.same s5).2 j (by rw [← mb.1]; exact hj2)
          exact ⟨rfl, _, rfl, _, _, _, _, rfl, rfl, rt, rfl, hC _ rfl _ (Same.refl _)⟩
        · have e5 : (List.range (bs.map V.ref).length).filterMap (fun j => some (V.str ((marked (Rs.take i) w).getD j ("", 0)).1)) = ((marked (Rs.take i) w).map (·.1)).map V.str := by
            rw [range_some, List.length_map, mb.1]
            conv => rhs; rw [← range_list (marked (Rs.take i) w) ("", 0)]
            rw [List.map_map, List.map_map]
            rfl
          rw [e5] at hl5
          have esum : (((marked (Rs.take i) w).map (·.1)).map (·.length)).sum = (formOf (Rs.take i) w).length := by rw [← jn_len, marked_shown]
          have e3 : ("" : Str).length = 0 := rfl
          refine ⟨_, D2, _, rfl, rfl, .inl (.inl (Rd.of hl5)), by rw [e3, esum]; omega, ?_⟩
          rw [join_jn, marked_shown]
          have s35 := s3.trans s5
          have hq5 := s5 _ _ hq
          have mb5 := mb.same s5
          refine ⟨by rw [sizeLine_eq]; show 0 ≤ 16777216; decide, fun r hr0 => ?_⟩
          have sr := same_new (o := .lst []) hr0
          refine ⟨_, rfl, q, _, rfl, .inl (.inl (Rd.of (sr _ _ hq5))), ?_⟩
          refine ⟨_, rfl, by rw [List.length_map]; omega, by rw [List.length_map]; omega, ?_⟩
          rw [List.length_map, Int.toNat_natCast, lb]
          have mj := mk _ (getD_rl hi2)
          have ep : parts (Rs.getD i Rl.nil) (formOf (Rs.take i) w) = lawParts (Rs.getD i Rl.nil) (formOf (Rs.take i) w) (formOf (Rs.take i) w).length := parts_law mj
          have lp : (parts (Rs.getD i Rl.nil) (formOf (Rs.take i) w)).length = (formOf (Rs.take i) w).length := parts_len _ _
          have lm : (marked (Rs.take i) w).length = (formOf (Rs.take i) w).length := marked_len _ _
          refine for_range (n := (formOf (Rs.take i) w).length) (fun j σ H' => (∃ (r : Addr) (cs : List Addr) (y2 y7 y8 y10 : Option V), σ = [some (.ref a), some (.str w), y2, some (.ref q), some (.ref (as.getD i 0)), some (.str (formOf (Rs.take i) w)), some (.ref r), y7, y8, x9, y10] ∧ H5 r = none ∧ H' r = some (.lst (cs.map V.ref)) ∧ MsAt K H' cs (remark ((parts (Rs.getD i Rl.nil) (formOf (Rs.take i) w)).take j) ((marked (Rs.take i) w).take j))) ∧ Same H5 H')
            ⟨⟨r, [], _, _, _, _, rfl, hr0, upd_same, .nil⟩, sr⟩ (fun j σ H6 hj z => ?_) (fun σ H6 z => ?_)
          · obtain ⟨⟨r, cs, y2, y7, y8, y10, rfl, nr, hr6, mc⟩, s6⟩ := z
            have e0 : (0 : Int) + ((j : Nat) : Int) = ((j : Nat) : Int) := Int.zero_add _
            rw [e0]
            have hjb : j < bs.length := by omega
            have rt := (mb5.same s6).2 j (by omega)
            have sp := remark_take (parts (Rs.getD i Rl.nil) (formOf (Rs.take i) w)) (marked (Rs.take i) w) j (by omega) (by omega)
            have ev : (parts (Rs.getD i Rl.nil) (formOf (Rs.take i) w)).getD j "" = if lawThere (Rs.getD i Rl.nil) (formOf (Rs.take i) w) j = true then (Rs.getD i Rl.nil).n else tx [(formOf (Rs.take i) w).cps.getD j 0] := by
              rw [ep]
              unfold lawParts
              rw [List.getD_eq_getElem?_getD, List.getElem?_map, List.getElem?_range hj]
              rfl
            have lc := mc.1
            have rs := remark_some (parts (Rs.getD i Rl.nil) (formOf (Rs.take i) w)) (marked (Rs.take i) w) j (by omega)
            have rz : ((parts (Rs.getD i Rl.nil) (formOf (Rs.take i) w)).map (·.length)).sum ≤ 3 * 648 := by
              have c3 := change_3 mj (formOf (Rs.take i) w)
              have cl : (change (Rs.getD i Rl.nil) (formOf (Rs.take i) w)).length = ((parts (Rs.getD i Rl.nil) (formOf (Rs.take i) w)).map (·.length)).sum := jn_len _
              omega
            refine ⟨_, rfl, _, rfl, q, _, _, .ref (bs.getD j 0), rfl, rfl, .inl (Rd.of (s6 _ _ hq5)), atI_nat (by rw [List.getElem?_map, List.getD_eq_getElem?_getD, List.getElem?_eq_getElem hjb]; rfl), bs.getD j 0, _, rfl, rt, rfl, _, _, rfl, _, _, rfl, rfl, ?_⟩
            have hRi := (h3 i hi2).same (s35.trans s6)
            refine ⟨_, rfl, _, rfl, _, rfl, as.getD i 0, Rs.getD i Rl.nil, formOf (Rs.take i) w, j, rfl, hRi, mj.small.l, mj.small.r, hj, le_line (by omega), _, rfl, iB (fun c => ?_) fun c => ?_⟩
            · rw [if_pos c] at ev
              obtain ⟨al, ar, g1, g2, g3⟩ := hRi.ex
              refine ⟨_, rfl, _, rfl, _, _, _, _, rfl, rfl, g1, rfl, _, rfl, fun D3 nD3 => ?_⟩
              refine lc_it walk_sign (fun m H' => Same H6 H' ∧ ∃ ds : List Addr, H' D3 = some (.lst (ds.map V.ref)) ∧ MsAt K H' ds (((Sv.signs (Rs.getD i Rl.nil).n).take m).map fun c => (c, ((marked (Rs.take i) w).getD j ("", 0)).2)))
                ⟨same_new nD3, [], upd_same, .nil⟩ (fun _ _ _ _ => trivial) (fun m x H7 H8 hm p y => ?_) (fun H7 p => ?_)
              · obtain ⟨s7, ds, hD7, md⟩ := p
                obtain ⟨rfl, rfl⟩ := y
                have ld := md.1
                rw [List.length_map, List.length_take, signs_len] at ld
                have n3 := mj.small.n
                have hz : (Rs.getD i Rl.nil).n.cps.size = (Rs.getD i Rl.nil).n.length := rfl
                refine ⟨rfl, _, rfl, _, rfl, by rw [sizeLine_eq]; show 2 ≤ 16777216; decide, fun t ht => ?_⟩
                have st := same_new (o := .tup [.str (tx [(Rs.getD i Rl.nil).n.cps.getD m 0]), .int (((marked (Rs.take i) w).getD j ("", 0)).2 : Nat)]) ht
                have hD9 := st _ _ hD7
                refine ⟨_, hD9, by rw [List.length_map, sizeLine_eq]; omega, fun b o q => ?_, ds ++ [t], ?_, ?_⟩
                · rw [upd_ne (fun e => by rw [e, nD3] at q; cases q)]
                  exact st _ _ (s7 _ _ q)
                · rw [upd_same, List.map_append]
                  rfl
                · rw [signs_take _ m hm, List.map_append]
                  exact ((md.same st).app (.one (.inl (.inl upd_same)))).upd hD9
              · obtain ⟨s7, ds, hD7, md⟩ := p
                rw [List.take_of_length_le (Nat.le_of_eq (signs_len _)), ← ev] at md
                have ld := md.1
                rw [List.length_map, signs_len, ev] at ld
                have n3 := mj.small.n
                have hz : (Rs.getD i Rl.nil).n.cps.size = (Rs.getD i Rl.nil).n.length := rfl
                refine ⟨r, D3, _, _, rfl, rfl, s7 _ _ hr6, hD7, by rw [List.length_map, List.length_map, sizeLine_eq]; omega, fun p4 hp4 => ?_⟩
                have s8 := same_new (o := .lst (cs.map V.ref ++ ds.map V.ref)) hp4
                refine ⟨⟨p4, cs ++ ds, _, _, _, _, rfl, ?_, ?_, ?_⟩, s6.trans (s7.trans s8)⟩
                · cases z : H5 p4 with
                  | none => rfl
                  | some o => rw [s7 _ _ (s6 _ _ z)] at hp4; cases hp4
                · rw [upd_same, List.map_append]
                · rw [sp]
                  exact ((mc.same s7).app md).same s8
            · rw [if_neg (by rw [c]; exact Bool.false_ne_true)] at ev
              refine ⟨_, rfl, .inl ⟨rfl, _, .inl (Rd.of hr6)⟩, _, rfl, _, rfl, by rw [sizeLine_eq]; show 2 ≤ 16777216; decide, fun t ht => ?_⟩
              have st := same_new (o := .tup [.str ((marked (Rs.take i) w).getD j ("", 0)).1, .int (((marked (Rs.take i) w).getD j ("", 0)).2 : Nat)]) ht
              have hr7 := st _ _ hr6
              refine ⟨r, _, _, rfl, rfl, hr7, by rw [List.length_map, sizeLine_eq]; omega, ⟨r, cs ++ [t], _, _, _, _, rfl, nr, ?_, ?_⟩, fun b o z => ?_⟩
              · rw [upd_same, List.map_append]
                rfl
              · have el : ((marked (Rs.take i) w).getD j ("", 0)).1 = tx [(formOf (Rs.take i) w).cps.getD j 0] := mark_sign _ _ j hj
                have e1 : (Sv.signs ((parts (Rs.getD i Rl.nil) (formOf (Rs.take i) w)).getD j "")).map (fun c => (c, ((marked (Rs.take i) w).getD j ("", 0)).2)) = [(marked (Rs.take i) w).getD j ("", 0)] := by
                  rw [ev]
                  show [(tx [(formOf (Rs.take i) w).cps.getD j 0], ((marked (Rs.take i) w).getD j ("", 0)).2)] = _
                  rw [← el]
                rw [sp, e1]
                exact ((mc.same st).app (.one (.inl (.inl upd_same)))).upd hr7
              · rw [upd_ne (fun e => by rw [e, nr] at z; cases z)]
                exact st _ _ (s6 _ _ z)
          · obtain ⟨⟨r, cs, y2, y7, y8, y10, rfl, nr, hr6, mc⟩, s6⟩ := z
            rw [List.take_of_length_le (l := parts _ _) (by omega), List.take_of_length_le (l := marked _ _) (by omega), ← marked_snoc, ← take_succ_rl Rs hi2] at mc
            exact ⟨_, rfl, ⟨r, cs, _, _, _, _, _, _, _, _, rfl, hr6, mc⟩, s35.trans s6⟩
      · obtain ⟨⟨q, bs, x2, x4, x5, x6, x7, x8, x9, x10, rfl, hq, mb⟩, s3⟩ := z
        rw [List.length_map, h2, List.take_length] at mb
        exact ⟨_, rfl, h q H3 s3 ⟨bs, hq, mb.1, mb.2⟩⟩
abbrev s_law_refuses : Stmt := top 55
theorem sc_law_refuses : FnScope ["k", "rules", "word", "at"] ["k", "rules", "word", "at"] (defScope s_law_refuses) := ⟨rfl, rfl, rfl, by decide +kernel, rfl, by decide +kernel, by decide +kernel⟩
theorem ok_law_refuses (T : Tops K mg) (C_piece_of : CalX P w K mg base 8 "piece_of" (sp_piece_of K)) (F : Fun K "_law_refuses" "_law_refuses" s_law_refuses f fd) : FnOk P w K mg base (L2.CX P w) 9 f fd ["k", "rules", "word", "at"] (sp_law_refuses K) := by
  refine F.okX sc_law_refuses (fun vs H Q E h => ?_) (fun cdv A outer s H vs Q E hr h => ?_)
  · obtain ⟨k, a, Rs, w, m, rfl, hR, sm, hl, hw, er, c, h⟩ := h
    rfl
  · obtain ⟨k, a, Rs, w, m, rfl, hR, sm, hl, hw, er, c, h⟩ := h
    refine ⟨_, (pss_cons (ps_try_only rfl rfl ⟨rfl, by decide, Or.inl T.e_BadNumber.g⟩ (takes_of rfl rfl rfl rfl)
 (fun W pn xe tk _ => (pss_one (ps_expr (pe_cxS C_piece_of (hr.mono (by decide)) rfl tk (pa_cons (pv 0) (pa_cons (pv 1) (pa_cons (pv 2) (pa_cons (pv 3) pa_nil))))))))
 (fun a oe cls d pn hz hf => (pss_one (ps_ret pe_bl))))
 (pss_one (ps_ret pe_bl))), ?_⟩
    refine ⟨_, rfl, _, rfl, _, rfl, _, rfl, k, a, Rs, w, m, rfl, hR, sm, hl, hw, ?_⟩
    rw [er]
    simp only
    rw [if_pos c]
    intro H1 s1
    show ErrE K (WE _ _) .number H1
    unfold ErrE WE
    exact ⟨true, T.n_BadNumber_BadNumber, fun _ b hb => h H1 s1, fun z => (nomatch z)⟩
abbrev s_law : Stmt := top 56
theorem sc_law : FnScope ["script", "draws", "k", "rules", "j", "word", "marked", "parts", "at", "pair"] ["script"] (defScope s_law) := ⟨rfl, rfl, rfl, by decide +kernel, rfl, by decide +kernel, by decide +kernel⟩
theorem goes_law (T : Tops K mg) (C_law_draws : CalX P w K mg base 2 "_law_draws" (sp_law_draws K)) (C_law_followed : CalX P w K mg base 3 "_law_followed" (sp_law_followed K)) (C_law_next : CalX P w K mg base 1 "_law_next" (sp_law_next K)) (C_law_refuses : CalX P w K mg base 9 "_law_refuses" (sp_law_refuses K)) (C_law_rules : CalX P w K mg base 5 "_law_rules" (sp_law_rules K)) (C_law_string : CalX P w K mg base 2 "_law_string" (sp_law_string K)) (C_lost : CalX P w K mg base 9 "lost" (sp_lost K)) (C_piece_of : CalX P w K mg base 8 "piece_of" (sp_piece_of K)) (C_pieces : CalX P w K mg base 8 "pieces" (sp_pieces K)) (C_trace_of : CalX P w K mg base 9 "trace_of" (sp_trace_of K)) (F : Fun K "law" "law" s_law f fd) : LawGoes P w K mg base f fd "script" (sp_law K) := by
  refine law_goes F sc_law (fun cdv s H v Q E hr h => ?_)
  obtain ⟨a, ns, e0, hS, hl, h⟩ := h
  cases e0
  refine ⟨_, (pss_cons (ps_set (i := 1) sc_law.nd rfl (Or.inl rfl) (pe_cx (E := E) C_law_draws (hr.mono (by decide)) rfl (passes_call (takes_of rfl rfl rfl rfl) (fun _ _ _ _ z => z)) (pa_cons (pv 0) pa_nil)))
 (pss_cons (ps_expr (pe_bm0 PySem.F.plainAttrs_list PySem.F.slot_list_reverse PySem.F.type_list_reverse mt_reverse (pv 1)))
 (pss_cons (ps_set (i := 2) sc_law.nd rfl (Or.inl rfl) (pe_op op_add pe_int (pe_op op_mod (pe_callTy call_int1 rfl T.f_int boot_int (pa_cons (pe_cx (E := E) C_law_next (hr.mono (by decide)) rfl (passes_call (takes_of rfl rfl rfl rfl) (fun _ _ _ _ z => z)) (pa_cons (pv 1) pa_nil)) pa_nil)) pe_int)))
 (pss_cons (ps_set (i := 3) sc_law.nd rfl (Or.inl rfl) (pe_cx (E := E) C_law_rules (hr.mono (by decide)) rfl (passes_call (takes_of rfl rfl rfl rfl) (fun _ _ _ _ z => z)) (pa_cons (pv 1) (pa_cons (pv 2) (pa_cons pe_int pa_nil)))))
 (pss_cons (ps_for (passes_of rfl) rfl (pi_range1 rfl T.f_range (pa_cons pe_int pa_nil)) (pg_name (i := 4) sc_law.nd rfl (Or.inl rfl))
 (pss_cons (ps_set (i := 5) sc_law.nd rfl (Or.inl rfl) (pe_cx (E := E) C_law_string (hr.mono (by decide)) rfl (passes_call (takes_of rfl rfl rfl rfl) (fun _ _ _ _ z => z)) (pa_cons (pv 1) (pa_cons (pv 2) (pa_cons pe_int pa_nil)))))
 (pss_cons (ps_set (i := 6) sc_law.nd rfl (Or.inl rfl) (pe_cx (E := E) C_law_followed (hr.mono (by decide)) rfl (passes_call (takes_of rfl rfl rfl rfl) (fun _ _ _ _ z => z)) (pa_cons (pv 3) (pa_cons (pv 5) pa_nil))))
 (pss_cons (ps_if (pt_cmpR op_ne (pe_callB (call_repr rfl (hu64 hr)) rfl T.f_repr boot_repr (pa_cons (pe_cx (E := E) C_trace_of (hr.mono (by decide)) rfl (passes_call (takes_of rfl rfl rfl rfl) (fun _ _ _ _ z => z)) (pa_cons (pv 2) (pa_cons (pv 3) (pa_cons (pv 5) pa_nil)))) pa_nil)) (pe_callB (call_repr rfl (hu64 hr)) rfl T.f_repr boot_repr (pa_cons (pe_lc (own := [("pair", 9)]) rfl sc_law.nd (pi_list (pv 6)) (blkOk_by (N := ["script", "draws", "k", "rules", "j", "word", "marked", "parts", "at", "pair"]) (sc := defScope s_law) (by decide +kernel)) (fun _ _ _ _ _ => (pg_name (i := 9) sc_law.nd rfl (Or.inl rfl))) (fun _ _ _ _ _ => pts_nil) (fun _ _ _ _ _ => (pe_ix (ix_tupK (K := K) rfl) (pv 9) pe_int (fun _ _ => rfl)))) pa_nil)) (nomark _)) (pss_one (ps_ret pe_bl)) pss_nil)
 (pss_cons (ps_set (i := 7) sc_law.nd rfl (Or.inr rfl) (pe_lst pa_nil))
 (pss_cons (ps_for (passes_of rfl) rfl (pi_range1 rfl T.f_range (pa_cons (pe_callB call_len_str rfl T.f_len boot_len (pa_cons (pv 5) pa_nil)) pa_nil)) (pg_name (i := 8) sc_law.nd rfl (Or.inr rfl))
 (pss_one (ps_expr (pe_bm PySem.F.plainAttrs_list PySem.F.slot_list_append PySem.F.type_list_append mt_append (pv 7) (pa_cons (pe_join pe_str (pe_lc (own := [("pair", 9)]) rfl sc_law.nd (pi_list (pv 6)) (blkOk_by (N := ["script", "draws", "k", "rules", "j", "word", "marked", "parts", "at", "pair"]) (sc := defScope s_law) (by decide +kernel)) (fun _ _ _ _ _ => (pg_name (i := 9) sc_law.nd rfl (Or.inl rfl))) (fun _ _ _ _ _ => pts_one (pt_cmpR op_eq (pe_ix (ix_tupK (K := K) rfl) (pv 9) pe_int (fun _ _ => rfl)) (pv 8) (nomark _))) (fun _ _ _ _ _ => (pe_ix (ix_tupK (K := K) rfl) (pv 9) pe_int (fun _ _ => rfl))))) pa_nil)))))
 (pss_cons (ps_if (pt_cmpR op_ne (pe_callB (call_repr rfl (hu64 hr)) rfl T.f_repr boot_repr (pa_cons (pe_cx (E := E) C_pieces (hr.mono (by decide)) rfl (passes_call (takes_of rfl rfl rfl rfl) (fun _ _ _ _ z => z)) (pa_cons (pv 2) (pa_cons (pv 3) (pa_cons (pv 5) pa_nil)))) pa_nil)) (pe_callB (call_repr rfl (hu64 hr)) rfl T.f_repr boot_repr (pa_cons (pv 7) pa_nil)) (nomark _)) (pss_one (ps_ret pe_bl)) pss_nil)
 (pss_cons (ps_if (pt_cmpR op_ne (pe_callB (call_repr rfl (hu64 hr)) rfl T.f_repr boot_repr (pa_cons (pe_cx (E := E) C_lost (hr.mono (by decide)) rfl (passes_call (takes_of rfl rfl rfl rfl) (fun _ _ _ _ z => z)) (pa_cons (pv 2) (pa_cons (pv 3) (pa_cons (pv 5) pa_nil)))) pa_nil)) (pe_callB (call_repr rfl (hu64 hr)) rfl T.f_repr boot_repr (pa_cons (pe_lc (own := [("at", 8)]) rfl sc_law.nd (pi_range1 rfl T.f_range (pa_cons (pe_callB call_len_str rfl T.f_len boot_len (pa_cons (pv 5) pa_nil)) pa_nil)) (blkOk_by (N := ["script", "draws", "k", "rules", "j", "word", "marked", "parts", "at", "pair"]) (sc := defScope s_law) (by decide +kernel)) (fun _ _ _ _ _ => (pg_name (i := 8) sc_law.nd rfl (Or.inl rfl))) (fun _ _ _ _ _ => pts_one (pt_cmpR op_eq (pe_ix (ix_listK (K := K) rfl) (pv 7) (pv 8) (fun _ _ => rfl)) pe_str (nomark _))) (fun _ _ _ _ _ => (pv 8))) pa_nil)) (nomark _)) (pss_one (ps_ret pe_bl)) pss_nil)
 (pss_cons (ps_if (pt_truth (pv 5) (fun _ => rfl)) (pss_cons (ps_set (i := 8) sc_law.nd rfl (Or.inr rfl) (pe_op op_mod (pe_callTy call_int1 rfl T.f_int boot_int (pa_cons (pe_cx (E := E) C_law_next (hr.mono (by decide)) rfl (passes_call (takes_of rfl rfl rfl rfl) (fun _ _ _ _ z => z)) (pa_cons (pv 1) pa_nil)) pa_nil)) (pe_callB call_len_str rfl T.f_len boot_len (pa_cons (pv 5) pa_nil))))
 (pss_one (ps_if (pt_cmpR op_ne (pe_cx (E := E) C_piece_of (hr.mono (by decide)) rfl (passes_call (takes_of rfl rfl rfl rfl) (fun _ _ _ _ z => z)) (pa_cons (pv 2) (pa_cons (pv 3) (pa_cons (pv 5) (pa_cons (pv 8) pa_nil))))) (pe_ix ix_list (pv 7) (pv 8) (fun _ _ => rfl)) (nomark _)) (pss_one (ps_ret pe_bl)) pss_nil))) pss_nil)
 (pss_one (ps_if (PW.pt (pw_or (pt_not (pt_val (pe_cx (E := E) C_law_refuses (hr.mono (by decide)) rfl (passes_call (takes_of rfl rfl rfl rfl) (fun _ _ _ _ z => z)) (pa_cons (pv 2) (pa_cons (pv 3) (pa_cons (pv 5) (pa_cons (pe_callB call_len_str rfl T.f_len boot_len (pa_cons (pv 5) pa_nil)) pa_nil))))))) (pw_or1 (pt_not (pt_val (pe_cx (E := E) C_law_refuses (hr.mono (by decide)) rfl (passes_call (takes_of rfl rfl rfl rfl) (fun _ _ _ _ z => z)) (pa_cons (pv 2) (pa_cons (pv 3) (pa_cons (pv 5) (pa_cons (pe_un un_neg pe_int) pa_nil)))))))))) (pss_one (ps_ret pe_bl)) pss_nil)))))))))))
 (pss_one (ps_ret pe_bl))))))), ?_⟩
  refine ⟨_, rfl, a, ns, rfl, hS, hl, fun d H1 hd s1 dw1 => ?_⟩
  obtain ⟨ms, hms, hmb⟩ := dw1
  refine ⟨_, rfl, .inl ⟨rfl, _, .inl (Rd.of hms)⟩, d, _, rfl, rfl, hms, ?_⟩
  have dw2 : Dw (upd H1 d (.lst (ms.map V.int).reverse)) d := ⟨ms.reverse, by rw [upd_same, List.map_reverse], fun n m => hmb n (List.mem_reverse.mp m)⟩
  generalize upd H1 d (.lst (ms.map V.int).reverse) = H2 at dw2 ⊢
  refine ⟨_, rfl, d, rfl, dw2, fun n H3 n0 n1 dw3 x3 => .inl ⟨_, rfl, _, _, rfl, rfl, by show (0 : Int) < 3; decide, _, _, rfl, rfl, ?_⟩⟩
  have hm := mod_in (n := n) (m := 3) (by decide)
  show gName 2 (V.int (2 + n % 3)) _ _ _
  have k2 : 2 ≤ 2 + n % 3 := by omega
  have k4 : 2 + n % 3 ≤ 4 := by omega
  generalize 2 + n % 3 = k at k2 k4 ⊢
  have k6 : k ≤ 6 := by omega
  refine ⟨_, rfl, _, rfl, d, k, 4, rfl, dw3, k2, k6, by decide, by decide, fun pa Rs H4 hA lA iA dw4 x4 => ?_⟩
  have mA : ∀ R ∈ Rs, Made k R := fun R m => isRule_made k2 k6 (iA R m)
  have sA : ∀ R ∈ Rs, R.Small := fun R m => (mA R m).small
  have pw4 : ∀ n, n ≤ 4 → 3 ^ n ≤ 81 := fun n h => Nat.pow_le_pow_right (n := 3) (by decide) h
  refine ⟨3, rfl, by decide, by decide, ?_⟩
  refine for_range (n := 3) (fun i σ H' => Dw H' d ∧ RulesAt K H' pa Rs ∧ ∃ x4 x5 x6 x7 x8 x9 : Option V, σ = [some (.ref a), some (.ref d), some (.int k), some (.ref pa), x4, x5, x6, x7, x8, x9])
    ⟨dw4, hA, _, _, _, _, _, _, rfl⟩ (fun i0 σ H5 hi0 z => ?_) (fun σ H5 z => ?_)
  · obtain ⟨dw5, hA5, x4, x5, x6, x7, x8, x9, rfl⟩ := z
    refine ⟨_, rfl, _, rfl, d, k, 8, rfl, dw5, by omega, k6, by decide, by decide, fun w H7 hw dw7 x7' => ?_⟩
    have hA7 := hA5.keep x7' dw5
    have wl : w.length ≤ 8 := by have := hw.1; omega
    have ww : Word k w := hw.2
    have mul : ∀ Ss : List Rl, Ss.length ≤ 4 → 3 ^ Ss.length * w.length ≤ 81 * 8 := fun Ss h => Nat.mul_le_mul (pw4 _ h) wl
    have bg : big Rs w = false := big_3 mA (by have := mul Rs (by omega); omega)
    have el : errL k Rs w = none := by
      unfold errL
      rw [numOk_of k2 k6, isRules_of (by omega) iA, isWord_in k2 k6 (by omega) ww]
      rfl
    have es : errS k Rs w = none := by
      unfold errS
      rw [el, bg]
      rfl
    have fl : (formOf Rs w).length ≤ 648 := by
      have := form_648 (k := k) (w := w) mA (by omega) wl (Nat.le_refl Rs.length)
      rwa [List.take_length] at this
    refine ⟨_, rfl, _, rfl, k, pa, Rs, w, rfl, hA7, mA, by omega, wl, fun q H8 s8 mq => ?_⟩
    obtain ⟨bs, hq, bl, bt⟩ := mq
    rw [marked_len] at bl
    have ep := piecesOf_len Rs w
    have pl8 : (piecesOf Rs w).length ≤ 8 := by omega
    obtain ⟨dT, hdT⟩ : ∃ dT : PyData, dT = .list ((traceOf (piecesOf Rs w)).map PyData.int) := ⟨_, rfl⟩
    have mkT : ∀ {H : Hp} {p : Addr}, H p = some (.lst ((traceOf (piecesOf Rs w)).map V.int)) → Dp K H (.ref p) dT := fun h => by
      rw [hdT]
      exact .lst (.inl (Rd.of h)) (dp_ints _)
    have okT : ShowOk dT := by
      rw [hdT]
      have tl : (traceOf (piecesOf Rs w)).length ≤ 648 := by
        rw [← marks_trace, List.length_map]
        have := marked_len Rs w
        unfold marked at this
        omega
      refine Easy.show (n := 30000) (k := 1) (Easy.list (n := 41) (k := 0) (fun d m => ?_) (by rw [List.length_map]; omega)) (by decide) (by decide)
      obtain ⟨j, hj, rfl⟩ := List.mem_map.mp m
      unfold traceOf traceTake at hj
      obtain ⟨l, hl, hjl⟩ := List.mem_flatten.mp hj
      obtain ⟨i, hi, rfl⟩ := List.mem_map.mp hl
      have hi := List.mem_range.mp hi
      rw [List.eq_of_mem_replicate hjl]
      exact .int (by omega) (Nat.le_refl _)
    have esum : ((piecesOf Rs w).map (·.length)).sum = (formOf Rs w).length := by rw [← jn_len, piecesOf_jn]
    have plen : ∀ i, i < (piecesOf Rs w).length → ((piecesOf Rs w).getD i "").length ≤ 648 := fun i hi => by
      have : ((piecesOf Rs w).getD i "").length ≤ ((piecesOf Rs w).map (·.length)).sum := le_sum_mem (List.mem_map.mpr ⟨_, getD_mem hi, rfl⟩)
      omega
    have wF : Word k (formOf Rs w) := by
      have e := stepsOf_get Rs w Rs.length (Nat.le_refl _)
      rw [List.take_length] at e
      exact stepsOf_word mA ww _ (List.mem_of_getElem? e)
    obtain ⟨dP, hdP⟩ : ∃ dP : PyData, dP = .list ((piecesOf Rs w).map PyData.str) := ⟨_, rfl⟩
    have mkP : ∀ {H : Hp} {p : Addr}, H p = some (.lst ((piecesOf Rs w).map V.str)) → Dp K H (.ref p) dP := fun h => by
      rw [hdP]
      exact .lst (.inl (Rd.of h)) (dp_strs _)
    have okP : ShowOk dP := by
      rw [hdP]
      refine Easy.show (n := 8000) (k := 1) (Easy.list (n := 700) (k := 0) (fun d m => ?_) (by rw [List.length_map]; omega)) (by decide) (by decide)
      obtain ⟨p, hp, rfl⟩ := List.mem_map.mp m
      refine .str (fun c hc => LetK.small k6 wF c ?_) ?_
      · rw [← piecesOf_jn]
        exact List.mem_flatten.mpr ⟨_, List.mem_map.mpr ⟨p, hp, rfl⟩, hc⟩
      · have : p.length ≤ ((piecesOf Rs w).map (·.length)).sum := le_sum_mem (List.mem_map.mpr ⟨_, hp, rfl⟩)
        omega
    obtain ⟨dI, hdI⟩ : ∃ dI : PyData, dI = .list (((List.range (piecesOf Rs w).length).filter fun i => decide ((piecesOf Rs w).getD i "" = "")).map fun i => PyData.int (i : Nat)) := ⟨_, rfl⟩
    have mkI : ∀ {H : Hp} {p : Addr}, H p = some (.lst (((List.range (piecesOf Rs w).length).filter fun i => decide ((piecesOf Rs w).getD i "" = "")).map fun i => V.int (i : Nat))) → Dp K H (.ref p) dI := fun h => by
      rw [hdI]
      exact .lst (.inl (Rd.of h)) (dp_all (fun i => .int _) _)
    have okI : ShowOk dI := by
      rw [hdI]
      have al : ((List.range (piecesOf Rs w).length).filter fun i => decide ((piecesOf Rs w).getD i "" = "")).length ≤ (List.range (piecesOf Rs w).length).length := List.length_filter_le _ _
      rw [List.length_range] at al
      refine Easy.show (n := 400) (k := 1) (Easy.list (n := 41) (k := 0) (fun d m => ?_) (by rw [List.length_map]; omega)) (by decide) (by decide)
      obtain ⟨j, hj, rfl⟩ := List.mem_map.mp m
      have := List.mem_range.mp (List.mem_filter.mp hj).1
      exact .int (by omega) (Nat.le_refl _)
    have hA8 := hA7.same s8
    refine ⟨_, rfl, _, rfl, _, rfl, k, pa, Rs, w, rfl, hA8, sA, by omega, by omega, fun H9 s9 => ?_⟩
    rw [es]
    refine fun p1 H10 s10 hp1 => ⟨_, dT, rfl, mkT hp1, okT, ?_⟩
    have s810 := s9.trans s10
    have hq10 := s810 _ _ hq
    refine ⟨_, rfl, q, rfl, ⟨_, .inl (Rd.of hq10)⟩, fun D nD => ?_⟩
    refine lc_pure (walk_list (xs := bs.map V.ref)) (fun j => some (.int (((marked Rs w).getD j ("", 0)).2 : Nat))) nD (by rw [List.length_map, sizeLine_eq]; omega) (fun _ s4 => .inl (Rd.of (s4 _ _ hq10))) (fun i H x H' y => by rw [y.1]; exact Same.refl _) (fun j x H5' H6 N C hj s5 y hN hC => ?_) (fun H11 s11 hl11 => ?_)
    · obtain ⟨rfl, hx⟩ := y
      obtain ⟨hj2, rfl⟩ := ref_at hx
      have rt := same_t (s810.trans s5) (bt j (by rw [marked_len]; omega))
      exact ⟨rfl, _, rfl, _, _, _, _, rfl, rfl, rt, rfl, hC _ rfl _ (Same.refl _)⟩
    have e5 : (List.range (bs.map V.ref).length).filterMap (fun j => some (V.int (((marked Rs w).getD j ("", 0)).2 : Nat))) = (traceOf (piecesOf Rs w)).map V.int := by
      rw [range_some, List.length_map, bl, ← marked_len, ← marks_trace, List.map_map]
      conv => rhs; rw [show marksFrom 0 (piecesOf Rs w) = marked Rs w from rfl, ← range_list (marked Rs w) ("", 0)]
      rw [List.map_map]
      rfl
    rw [e5] at hl11
    refine ⟨_, dT, rfl, mkT hl11, okT, rfl, _, rfl, iF (ne_same rfl) ?_⟩
    have s811 := s810.trans s11
    have hq11 := s811 _ _ hq
    refine ⟨Nat.zero_le _, fun r hr => ?_⟩
    have sr := same_new (o := .lst []) hr
    refine ⟨_, rfl, w, rfl, le_line (by omega), _, rfl, by omega, by omega, ?_⟩
    rw [Int.toNat_natCast]
    refine for_range (n := w.length) (fun i σ H' => (∃ x8 x9 : Option V, σ = [some (.ref a), some (.ref d), some (.int k), some (.ref pa), some (.int (0 + ((i0 : Nat) : Int))), some (.str w), some (.ref q), some (.ref r), x8, x9]) ∧ H' r = some (.lst (((piecesOf Rs w).take i).map V.str)) ∧ Same H11 H')
      ⟨⟨_, _, rfl⟩, upd_same, sr⟩ (fun i σ H12 hi z => ?_) (fun σ H12 z => ?_)
    · obtain ⟨⟨x8, x9, rfl⟩, hr12, s12⟩ := z
      have e0 : (0 : Int) + ((i : Nat) : Int) = ((i : Nat) : Int) := Int.zero_add _
      rw [e0]
      have s812 := s811.trans s12
      have hq12 := s812 _ _ hq
      refine ⟨_, rfl, .inl ⟨rfl, _, .inl (Rd.of hr12)⟩, ⟨_, rfl⟩, _, rfl, q, rfl, ⟨_, .inl (Rd.of hq12)⟩, fun D2 nD2 => ?_⟩
      refine lc_pure (walk_list (xs := bs.map V.ref)) (fun j => keep (decide (((marked Rs w).getD j ("", 0)).2 = i)) (.str ((marked Rs w).getD j ("", 0)).1)) nD2 (by rw [List.length_map, sizeLine_eq]; omega) (fun _ s4 => .inl (Rd.of (s4 _ _ hq12))) (fun i H x H' y => by rw [y.1]; exact Same.refl _) (fun j x H5' H6 N C hj s5 y hN hC => ?_) (fun H13 s13 hl13 => ?_)
      · obtain ⟨rfl, hx⟩ := y
        obtain ⟨hj2, rfl⟩ := ref_at hx
        have rt := same_t (s812.trans s5) (bt j (by rw [marked_len]; omega))
        refine ⟨rfl, _, rfl, _, _, _, _, rfl, rfl, rt, rfl, _, rfl, ?_⟩
        refine ⟨rfl, _, rfl, ?_⟩
        have ed : ∀ m n : Nat, decide (V.int (m : Int) = V.int (n : Int)) = decide (m = n) := fun m n => decide_eq_decide.mpr ⟨fun e => by injection e with e; omega, fun e => by rw [e]⟩
        rw [ed]
        cases c : decide (((marked Rs w).getD j ("", 0)).2 = i)
        · exact hN (keep_f c) _ (Same.refl _)
        · exact ⟨_, rfl, _, _, _, _, rfl, rfl, rt, rfl, hC _ (keep_t c) _ (Same.refl _)⟩
      · have e6 : (List.range (bs.map V.ref).length).filterMap (fun j => keep (decide (((marked Rs w).getD j ("", 0)).2 = i)) (V.str ((marked Rs w).getD j ("", 0)).1)) = (((marked Rs w).filter fun m => decide (m.2 = i)).map (·.1)).map V.str := by
          rw [keep_map, List.length_map, bl, ← marked_len]
          conv => rhs; rw [← range_list (marked Rs w) ("", 0), List.filter_map, List.map_map, List.map_map]
          rfl
        rw [e6] at hl13
        have hp : jn (((marked Rs w).filter fun m => decide (m.2 = i)).map (·.1)) = (piecesOf Rs w).getD i "" := by
          have := marks_piece (piecesOf Rs w) 0 i
          rwa [Nat.zero_add] at this
        have hpi : i < (piecesOf Rs w).length := by omega
        have pl := plen i hpi
        have e3 : ("" : Str).length = 0 := rfl
        refine ⟨_, D2, _, rfl, rfl, .inl (.inl (Rd.of hl13)), by rw [e3, ← jn_len, hp]; omega, ?_⟩
        rw [join_jn, hp]
        have tk : (piecesOf Rs w).take (i + 1) = (piecesOf Rs w).take i ++ [(piecesOf Rs w).getD i ""] := by
          rw [List.take_add_one, List.getElem?_eq_getElem hpi, List.getD_eq_getElem?_getD, List.getElem?_eq_getElem hpi]
          rfl
        refine ⟨r, _, _, rfl, rfl, s13 _ _ hr12, by rw [List.length_map, List.length_take, sizeLine_eq]; omega, ⟨_, _, rfl⟩, ?_, fun b o z => ?_⟩
        · rw [upd_same, tk, List.map_append]
          rfl
        · rw [upd_ne (fun e => by rw [e, hr] at z; cases z)]
          exact s13 _ _ (s12 _ _ z)
    · obtain ⟨⟨x8, x9, rfl⟩, hr12, s12⟩ := z
      rw [List.take_of_length_le (by omega)] at hr12
      have s812 := s811.trans s12
      have hA12 := hA8.same s812
      refine ⟨_, rfl, _, rfl, _, rfl, k, pa, Rs, w, rfl, hA12, sA, by omega, by omega, fun H13 s13 => ?_⟩
      rw [es]
      refine fun p2 H14 np2 s14 hp2 => ⟨_, dP, rfl, mkP hp2, okP, ?_⟩
      have s124 := s13.trans s14
      refine ⟨_, rfl, _, dP, rfl, mkP (s124 _ _ hr12), okP, rfl, _, rfl, iF (ne_same rfl) ?_⟩
      refine ⟨_, rfl, _, rfl, _, rfl, k, pa, Rs, w, rfl, hA12.same s124, sA, by omega, by omega, fun H15 s15 => ?_⟩
      rw [es]
      refine fun p3 H16 s16 hp3 => ⟨_, dI, rfl, mkI hp3, okI, ?_⟩
      have s126 := (s124.trans s15).trans s16
      have hr16 := s126 _ _ hr12
      refine ⟨_, rfl, w, rfl, le_line (by omega), _, rfl, by omega, by omega, fun D2 nD2 => ?_⟩
      rw [Int.toNat_natCast]
      refine lc_pure walk_range (fun j => keep (decide ((piecesOf Rs w).getD j "" = "")) (.int (j : Nat))) nD2 (by rw [sizeLine_eq]; omega) (fun _ _ => trivial) (fun i H x H' y => by rw [y.1]; exact Same.refl _) (fun j x H5' H6 N C hj s5 y hN hC => ?_) (fun H17 s17 hl17 => ?_)
      · obtain ⟨rfl, hx⟩ := y
        have hx : x = V.int ((j : Nat) : Int) := by
          rw [hx]
          show V.int (0 + _) = _
          rw [Int.zero_add]
        subst hx
        refine ⟨rfl, _, rfl, _, rfl, r, _, _, .str ((piecesOf Rs w).getD j ""), rfl, rfl, .inl (Rd.of (s5 _ _ hr16)), atI_nat (by rw [List.getElem?_map, List.getD_eq_getElem?_getD, List.getElem?_eq_getElem (by omega)]; rfl), rfl, _, rfl, ?_⟩
        rw [decS]
        cases c : decide ((piecesOf Rs w).getD j "" = "")
        · exact hN (keep_f c) _ (Same.refl _)
        · exact ⟨_, rfl, hC _ (keep_t c) _ (Same.refl _)⟩
      rw [keep_map, ← ep] at hl17
      refine ⟨_, dI, rfl, mkI hl17, okI, rfl, _, rfl, iF (ne_same rfl) ?_⟩
      have s127 := s126.trans s17
      have hr17 := s127 _ _ hr12
      have hA17 := hA12.same s127
      have dw17 := (dw7.same s8).same (s812.trans s127)
      refine ⟨_, rfl, ?_⟩
      by_cases ew : w.length = 0
      · refine ⟨false, ?_, ?_⟩
        · exact ⟨le_line (by omega), by rw [ew]; rfl⟩
        have hAT := hA17
        have dwT := dw17
        refine ⟨_, rfl, _, rfl, _, rfl, _, rfl, w, rfl, le_line (by omega), k, pa, Rs, w, (w.length : Int), rfl, hAT, sA, by omega, by omega, el, .inr (Int.le_refl _), fun HU sU => ⟨_, rfl, iF rfl ?_⟩⟩
        exact ⟨_, rfl, _, rfl, _, rfl, _, rfl, k, pa, Rs, w, -1, rfl, hAT.same sU, sA, by omega, by omega, el, .inl (by decide), fun HV sV => ⟨_, rfl, iF rfl ⟨(dwT.same sU).same sV, (hAT.same sU).same sV, _, _, _, _, _, _, rfl⟩⟩⟩
      · refine ⟨true, ?_, ?_⟩
        · exact ⟨le_line (by omega), (bne_iff_ne.mpr (by omega)).symm⟩
        refine ⟨_, rfl, d, rfl, dw17, fun n6 H18 a6 b6 dw18 x18 => .inl ⟨_, rfl, _, rfl, w, rfl, le_line (by omega), _, _, rfl, rfl, by omega, ?_⟩⟩
        have hm6 := mod_in (n := n6) (m := (w.length : Int)) (by omega)
        show gName 8 (V.int (n6 % (w.length : Int))) _ _ _
        obtain ⟨at_, hat⟩ : ∃ at_ : Nat, n6 % (w.length : Int) = (at_ : Int) := ⟨(n6 % (w.length : Int)).toNat, by omega⟩
        rw [hat] at hm6 ⊢
        have hA18 := hA17.keep x18 dw17
        refine ⟨_, rfl, _, rfl, _, rfl, _, rfl, k, pa, Rs, w, (at_ : Int), rfl, hA18, sA, by omega, by omega, ?_⟩
        rw [el]
        simp only
        rw [if_neg (by omega), bg]
        intro H19 s19 H20 s20
        have hne : r ≠ d := (dw7.same (s8.trans s811)).ne hr
        have hr20 := s20 _ _ (s19 _ _ (x18 _ _ hne hr17))
        refine ⟨_, rfl, _, rfl, r, _, _, .str ((piecesOf Rs w).getD at_ ""), rfl, rfl, .inl (Rd.of hr20), atI_nat (by rw [List.getElem?_map, List.getD_eq_getElem?_getD, List.getElem?_eq_getElem (by omega)]; rfl), rfl, _, rfl, iF (ne_same rfl) ?_⟩
        have hAT := (hA18.same s19).same s20
        have dwT := (dw18.same s19).same s20
        refine ⟨_, rfl, _, rfl, _, rfl, _, rfl, w, rfl, le_line (by omega), k, pa, Rs, w, (w.length : Int), rfl, hAT, sA, by omega, by omega, el, .inr (Int.le_refl _), fun HU sU => ⟨_, rfl, iF rfl ?_⟩⟩
        exact ⟨_, rfl, _, rfl, _, rfl, _, rfl, k, pa, Rs, w, -1, rfl, hAT.same sU, sA, by omega, by omega, el, .inl (by decide), fun HV sV => ⟨_, rfl, iF rfl ⟨(dwT.same sU).same sV, (hAT.same sU).same sV, _, _, _, _, _, _, rfl⟩⟩⟩
  · exact h _
end
set_option maxHeartbeats 0
/-! ### the head: facts by names, the run of the top -/
def exs (K : PySem.W.Frag) : Bool := true
def d_is_number_of_letters : He.DefD := ⟨("is_number_of_letters", none), "is_number_of_letters", "is_number_of_letters", defArgs s_is_number_of_letters, defBody s_is_number_of_letters, defScope s_is_number_of_letters, [], []⟩
def d_check_number : He.DefD := ⟨("check_number", none), "check_number", "check_number", defArgs s_check_number, defBody s_check_number, defScope s_check_number, [], []⟩
def d_letters_of : He.DefD := ⟨("letters_of", none), "letters_of", "letters_of", defArgs s_letters_of, defBody s_letters_of, defScope s_letters_of, [], []⟩
def d_is_word : He.DefD := ⟨("is_word", none), "is_word", "is_word", defArgs s_is_word, defBody s_is_word, defScope s_is_word, [], []⟩
def d_check_word : He.DefD := ⟨("check_word", none), "check_word", "check_word", defArgs s_check_word, defBody s_check_word, defScope s_check_word, [], []⟩
def d_is_set : He.DefD := ⟨("is_set", none), "is_set", "is_set", defArgs s_is_set, defBody s_is_set, defScope s_is_set, [], []⟩
def d_is_context : He.DefD := ⟨("_is_context", none), "_is_context", "_is_context", defArgs s_is_context, defBody s_is_context, defScope s_is_context, [], []⟩
def d_is_new : He.DefD := ⟨("is_new", none), "is_new", "is_new", defArgs s_is_new, defBody s_is_new, defScope s_is_new, [], []⟩
def d_is_rule : He.DefD := ⟨("is_rule", none), "is_rule", "is_rule", defArgs s_is_rule, defBody s_is_rule, defScope s_is_rule, [], []⟩
def d_is_rules : He.DefD := ⟨("is_rules", none), "is_rules", "is_rules", defArgs s_is_rules, defBody s_is_rules, defScope s_is_rules, [], []⟩
def d_check_rules : He.DefD := ⟨("check_rules", none), "check_rules", "check_rules", defArgs s_check_rules, defBody s_check_rules, defScope s_check_rules, [], []⟩
def d_fits : He.DefD := ⟨("_fits", none), "_fits", "_fits", defArgs s_fits, defBody s_fits, defScope s_fits, [], []⟩
def d_all_fit : He.DefD := ⟨("_all_fit", none), "_all_fit", "_all_fit", defArgs s_all_fit, defBody s_all_fit, defScope s_all_fit, [], []⟩
def d_indexes_of : He.DefD := ⟨("indexes_of", none), "indexes_of", "indexes_of", defArgs s_indexes_of, defBody s_indexes_of, defScope s_indexes_of, [], []⟩
def d_parts_of : He.DefD := ⟨("parts_of", none), "parts_of", "parts_of", defArgs s_parts_of, defBody s_parts_of, defScope s_parts_of, [], []⟩
def d_check_list : He.DefD := ⟨("check_list", none), "check_list", "check_list", defArgs s_check_list, defBody s_check_list, defScope s_check_list, [], []⟩
def d_check_made : He.DefD := ⟨("check_made", none), "check_made", "check_made", defArgs s_check_made, defBody s_check_made, defScope s_check_made, [], []⟩
def d_joined : He.DefD := ⟨("_joined", none), "_joined", "_joined", defArgs s_joined, defBody s_joined, defScope s_joined, [], []⟩
def d_u_pieces : He.DefD := ⟨("_pieces", none), "_pieces", "_pieces", defArgs s_u_pieces, defBody s_u_pieces, defScope s_u_pieces, [], []⟩
def d_pieces : He.DefD := ⟨("pieces", none), "pieces", "pieces", defArgs s_pieces, defBody s_pieces, defScope s_pieces, [], []⟩
def d_trace_of : He.DefD := ⟨("trace_of", none), "trace_of", "trace_of", defArgs s_trace_of, defBody s_trace_of, defScope s_trace_of, [], []⟩
def d_piece_of : He.DefD := ⟨("piece_of", none), "piece_of", "piece_of", defArgs s_piece_of, defBody s_piece_of, defScope s_piece_of, [], []⟩
def d_lost : He.DefD := ⟨("lost", none), "lost", "lost", defArgs s_lost, defBody s_lost, defScope s_lost, [], []⟩
def d_law_number : He.DefD := ⟨("_law_number", none), "_law_number", "_law_number", defArgs s_law_number, defBody s_law_number, defScope s_law_number, [], []⟩
def d_law_draws : He.DefD := ⟨("_law_draws", none), "_law_draws", "_law_draws", defArgs s_law_draws, defBody s_law_draws, defScope s_law_draws, [], []⟩
def d_law_next : He.DefD := ⟨("_law_next", none), "_law_next", "_law_next", defArgs s_law_next, defBody s_law_next, defScope s_law_next, [], []⟩
def d_law_string : He.DefD := ⟨("_law_string", none), "_law_string", "_law_string", defArgs s_law_string, defBody s_law_string, defScope s_law_string, [], []⟩
def d_law_place : He.DefD := ⟨("_law_place", none), "_law_place", "_law_place", defArgs s_law_place, defBody s_law_place, defScope s_law_place, [], []⟩
def d_law_context : He.DefD := ⟨("_law_context", none), "_law_context", "_law_context", defArgs s_law_context, defBody s_law_context, defScope s_law_context, [], []⟩
def d_law_rule : He.DefD := ⟨("_law_rule", none), "_law_rule", "_law_rule", defArgs s_law_rule, defBody s_law_rule, defScope s_law_rule, [], []⟩
def d_law_rules : He.DefD := ⟨("_law_rules", none), "_law_rules", "_law_rules", defArgs s_law_rules, defBody s_law_rules, defScope s_law_rules, [], []⟩
def d_law_at : He.DefD := ⟨("_law_at", none), "_law_at", "_law_at", defArgs s_law_at, defBody s_law_at, defScope s_law_at, [], []⟩
def d_law_is_there : He.DefD := ⟨("_law_is_there", none), "_law_is_there", "_law_is_there", defArgs s_law_is_there, defBody s_law_is_there, defScope s_law_is_there, [], []⟩
def d_law_followed : He.DefD := ⟨("_law_followed", none), "_law_followed", "_law_followed", defArgs s_law_followed, defBody s_law_followed, defScope s_law_followed, [], []⟩
def d_law_refuses : He.DefD := ⟨("_law_refuses", none), "_law_refuses", "_law_refuses", defArgs s_law_refuses, defBody s_law_refuses, defScope s_law_refuses, [], []⟩
def d_law : He.DefD := ⟨("law", none), "law", "law", defArgs s_law, defBody s_law, defScope s_law, [], []⟩
def fns : List He.DefD := [d_is_number_of_letters, d_check_number, d_letters_of, d_is_word, d_check_word, d_is_set, d_is_context, d_is_new, d_is_rule, d_is_rules, d_check_rules, d_fits, d_all_fit, d_indexes_of, d_parts_of, d_check_list, d_check_made, d_joined, d_u_pieces, d_pieces, d_trace_of, d_piece_of, d_lost, d_law_number, d_law_draws, d_law_next, d_law_string, d_law_place, d_law_context, d_law_rule, d_law_rules, d_law_at, d_law_is_there, d_law_followed, d_law_refuses, d_law]
def fas : List He.Fa := ([.glo "is_number_of_letters", .glo "check_number", .glo "letters_of", .glo "is_word", .glo "check_word", .glo "is_set", .glo "_is_context", .glo "is_new", .glo "is_rule", .glo "is_rules", .glo "check_rules", .glo "_fits", .glo "_all_fit", .glo "indexes_of", .glo "parts_of", .glo "check_list", .glo "check_made", .glo "_joined", .glo "_pieces", .glo "pieces", .glo "trace_of", .glo "piece_of", .glo "lost", .glo "_law_number", .glo "_law_draws", .glo "_law_next", .glo "_law_string", .glo "_law_place", .glo "_law_context", .glo "_law_rule"] : List He.Fa) ++ ([.glo "_law_rules", .glo "_law_at", .glo "_law_is_there", .glo "_law_followed", .glo "_law_refuses", .glo "law", .glo "ShiftError", .exc "ShiftError", .glo "NotWord", .exc "NotWord", .glo "NotRule", .exc "NotRule", .glo "BadNumber", .exc "BadNumber", .glo "TooLarge", .exc "TooLarge", .free "all", .free "enumerate", .free "int", .free "len", .free "list", .free "range", .free "repr", .free "tuple", .str "EDGE" "#", .int "LEAST_LETTERS" 2, .str "LETTERS" "abcdef", .int "LONGEST" 60, .int "LONGEST_MADE" 2000, .int "MOST_NEW" 3] : List He.Fa) ++ ([.int "MOST_PLACES" 2, .int "MOST_RULES" 8, .exm "NotWord" "ShiftError" true, .exm "NotRule" "ShiftError" true, .exm "BadNumber" "ShiftError" true, .exm "TooLarge" "ShiftError" true, .exm "NotWord" "BadNumber" false, .exm "NotRule" "BadNumber" false, .exm "BadNumber" "BadNumber" true, .exm "TooLarge" "BadNumber" false] : List He.Fa)
abbrev R : PySem.W.OpenRow := PySem.W.OpenLaw.row PySem.Challenge.rw_soundturns_k08_traces_and_pieces
abbrev hk : PySem.W.Hook := He.hookX 4 fas fns [] [] exs
def ob (s : PySem.W.SharedT) : He.AlX := He.obsX 4 fas fns [] [] exs (HandSHeadRun.getT s)
theorem ob_eq (s : PySem.W.SharedT) : ob s = hk.obs s.abs := He.obsX_eq (HandSHeadRun.getT_eq s)
def loose : List PySem.Str := (["ShiftError", "NotWord", "NotRule", "BadNumber", "TooLarge", "LETTERS", "LEAST_LETTERS", "LONGEST", "is_number_of_letters", "check_number", "letters_of", "is_word", "check_word", "EDGE", "MOST_NEW", "MOST_PLACES", "MOST_RULES", "is_set", "_is_context", "is_new", "is_rule", "is_rules", "check_rules", "_fits", "_all_fit", "indexes_of", "parts_of", "LONGEST_MADE", "check_list", "check_made"] : List PySem.Str) ++ (["_joined", "_pieces", "pieces", "trace_of", "piece_of", "lost", "_law_number", "_law_draws", "_law_next", "_law_string", "_law_place", "_law_context", "_law_rule", "_law_rules", "_law_at", "_law_is_there", "_law_changed", "_law_form", "_law_followed", "_law_refuses"] : List PySem.Str)
theorem run (w : World) : HandSHeadRun.RunEq R (PySem.W.view R.prog [56]) hk ob 4500 loose w := by
  intro os
  kernel_rfl
section
variable {P : Program} {w : World} {K : PySem.W.Frag} {h base : Heap} {mg : Str → Option Value}
theorem tops (X : K.In h) (G : h.Ns mainGlobals mg) {hh : Heap} (c : He.SaysX fas fns [] [] exs w hh K) : Tops K mg := by
  have d := c.t.d
  have gl : ∀ x : Str, He.Fa.glo x ∈ fas → mg x = some (.ref (He.ga K x)) := fun x m => He.glo_ok X G (d.facts m)
  have fr : ∀ x : Str, He.Fa.free x ∈ fas → mg x = none := fun x m => He.free_ok X G (d.facts m)
  have st : ∀ x z : Str, He.Fa.str x z ∈ fas → ∃ u, mg x = some u ∧ RelV (.str z) u := fun x z m => gS (He.str_ok X G (d.facts m))
  have it : ∀ (x : Str) (i : Int), He.Fa.int x i ∈ fas → ∃ u, mg x = some u ∧ RelV (.int i) u := fun x i m => gI (He.int_ok X G (d.facts m))
  have ec : ∀ x : Str, He.Fa.glo x ∈ fas → He.Fa.exc x ∈ fas → ExcF K mg x := fun x m1 m2 => by
    obtain ⟨a, b, e, f⟩ := He.exc_ok (d.facts m2)
    exact ⟨gl x m1, a, b, e, f⟩
  exact Tops.mk (c_EDGE := st "EDGE" "#" (by simp [fas]))
    (c_LEAST_LETTERS := it "LEAST_LETTERS" 2 (by simp [fas]))
    (c_LETTERS := st "LETTERS" "abcdef" (by simp [fas]))
    (c_LONGEST := it "LONGEST" 60 (by simp [fas]))
    (c_LONGEST_MADE := it "LONGEST_MADE" 2000 (by simp [fas]))
    (c_MOST_NEW := it "MOST_NEW" 3 (by simp [fas]))
    (c_MOST_PLACES := it "MOST_PLACES" 2 (by simp [fas]))
    (c_MOST_RULES := it "MOST_RULES" 8 (by simp [fas]))
    (f_all := fr "all" (by simp [fas]))
    (f_enumerate := fr "enumerate" (by simp [fas]))
    (f_int := fr "int" (by simp [fas]))
    (f_len := fr "len" (by simp [fas]))
    (f_list := fr "list" (by simp [fas]))
    (f_range := fr "range" (by simp [fas]))
    (f_repr := fr "repr" (by simp [fas]))
    (f_tuple := fr "tuple" (by simp [fas]))
    (e_ShiftError := ec "ShiftError" (by simp [fas]) (by simp [fas]))
    (e_NotWord := ec "NotWord" (by simp [fas]) (by simp [fas]))
    (e_NotRule := ec "NotRule" (by simp [fas]) (by simp [fas]))
    (e_BadNumber := ec "BadNumber" (by simp [fas]) (by simp [fas]))
    (e_TooLarge := ec "TooLarge" (by simp [fas]) (by simp [fas]))
    (m_NotWord := He.exm_ok (d.facts (by simp [fas])))
    (m_NotRule := He.exm_ok (d.facts (by simp [fas])))
    (m_BadNumber := He.exm_ok (d.facts (by simp [fas])))
    (m_TooLarge := He.exm_ok (d.facts (by simp [fas])))
    (n_NotWord_BadNumber := He.exm_ok (d.facts (by simp [fas])))
    (n_NotRule_BadNumber := He.exm_ok (d.facts (by simp [fas])))
    (n_BadNumber_BadNumber := He.exm_ok (d.facts (by simp [fas])))
    (n_TooLarge_BadNumber := He.exm_ok (d.facts (by simp [fas])))
theorem law_ok (X : K.In h) (G : h.Ns mainGlobals mg) {hh : Heap} (c : He.SaysX fas fns [] [] exs w hh K) {f : Addr} (hf : mg ("law" : Str) = some (.ref f)) :
    ∃ fd : FuncData, (∀ (s : Shared) (v : Value), BindsTo s fd ⟨[v], []⟩ [("script", v)]) ∧ ∀ base : Heap, K.In base → base.Ns mainGlobals mg → LawGoes P w K mg base f fd "script" (sp_law K) := by
  have T := tops X G c
  have d := c.t.d
  obtain ⟨fd_is_number_of_letters, F_is_number_of_letters⟩ := d.defs (d := d_is_number_of_letters) (by simp [fns])
  obtain ⟨fd_is_set, F_is_set⟩ := d.defs (d := d_is_set) (by simp [fns])
  obtain ⟨fd_is_new, F_is_new⟩ := d.defs (d := d_is_new) (by simp [fns])
  obtain ⟨fd_fits, F_fits⟩ := d.defs (d := d_fits) (by simp [fns])
  obtain ⟨fd_check_made, F_check_made⟩ := d.defs (d := d_check_made) (by simp [fns])
  obtain ⟨fd_joined, F_joined⟩ := d.defs (d := d_joined) (by simp [fns])
  obtain ⟨fd_law_number, F_law_number⟩ := d.defs (d := d_law_number) (by simp [fns])
  obtain ⟨fd_law_next, F_law_next⟩ := d.defs (d := d_law_next) (by simp [fns])
  obtain ⟨fd_law_at, F_law_at⟩ := d.defs (d := d_law_at) (by simp [fns])
  obtain ⟨fd_check_number, F_check_number⟩ := d.defs (d := d_check_number) (by simp [fns])
  obtain ⟨fd_is_context, F_is_context⟩ := d.defs (d := d_is_context) (by simp [fns])
  obtain ⟨fd_all_fit, F_all_fit⟩ := d.defs (d := d_all_fit) (by simp [fns])
  obtain ⟨fd_law_draws, F_law_draws⟩ := d.defs (d := d_law_draws) (by simp [fns])
  obtain ⟨fd_law_string, F_law_string⟩ := d.defs (d := d_law_string) (by simp [fns])
  obtain ⟨fd_law_place, F_law_place⟩ := d.defs (d := d_law_place) (by simp [fns])
  obtain ⟨fd_law_is_there, F_law_is_there⟩ := d.defs (d := d_law_is_there) (by simp [fns])
  obtain ⟨fd_letters_of, F_letters_of⟩ := d.defs (d := d_letters_of) (by simp [fns])
  obtain ⟨fd_indexes_of, F_indexes_of⟩ := d.defs (d := d_indexes_of) (by simp [fns])
  obtain ⟨fd_law_context, F_law_context⟩ := d.defs (d := d_law_context) (by simp [fns])
  obtain ⟨fd_law_followed, F_law_followed⟩ := d.defs (d := d_law_followed) (by simp [fns])
  obtain ⟨fd_is_word, F_is_word⟩ := d.defs (d := d_is_word) (by simp [fns])
  obtain ⟨fd_is_rule, F_is_rule⟩ := d.defs (d := d_is_rule) (by simp [fns])
  obtain ⟨fd_parts_of, F_parts_of⟩ := d.defs (d := d_parts_of) (by simp [fns])
  obtain ⟨fd_law_rule, F_law_rule⟩ := d.defs (d := d_law_rule) (by simp [fns])
  obtain ⟨fd_check_word, F_check_word⟩ := d.defs (d := d_check_word) (by simp [fns])
  obtain ⟨fd_is_rules, F_is_rules⟩ := d.defs (d := d_is_rules) (by simp [fns])
  obtain ⟨fd_u_pieces, F_u_pieces⟩ := d.defs (d := d_u_pieces) (by simp [fns])
  obtain ⟨fd_law_rules, F_law_rules⟩ := d.defs (d := d_law_rules) (by simp [fns])
  obtain ⟨fd_check_rules, F_check_rules⟩ := d.defs (d := d_check_rules) (by simp [fns])
  obtain ⟨fd_check_list, F_check_list⟩ := d.defs (d := d_check_list) (by simp [fns])
  obtain ⟨fd_pieces, F_pieces⟩ := d.defs (d := d_pieces) (by simp [fns])
  obtain ⟨fd_piece_of, F_piece_of⟩ := d.defs (d := d_piece_of) (by simp [fns])
  obtain ⟨fd_trace_of, F_trace_of⟩ := d.defs (d := d_trace_of) (by simp [fns])
  obtain ⟨fd_lost, F_lost⟩ := d.defs (d := d_lost) (by simp [fns])
  obtain ⟨fd_law_refuses, F_law_refuses⟩ := d.defs (d := d_law_refuses) (by simp [fns])
  obtain ⟨fd_law, F_law⟩ := d.defs (d := d_law) (by simp [fns])
  have e := hf.symm.trans (He.glo_ok X G (d.facts (f := .glo "law") (by simp [fas])))
  cases e
  refine ⟨fd_law, fun s v => FunD.bindsA (ps := ["script"]) F_law (fun _ _ _ _ _ _ us hl => match us, hl with | [_], _ => rfl) s [v] rfl, fun base Xb Gb => ?_⟩
  have C_is_number_of_letters : CalX P w K mg base 1 "is_number_of_letters" (sp_is_number_of_letters K) := ⟨_, fd_is_number_of_letters, ["k"], ok_is_number_of_letters T  (He5.fun_of F_is_number_of_letters), He.glo_ok X G (d.facts (f := .glo "is_number_of_letters") (by simp [fas])), F_is_number_of_letters.kp, F_is_number_of_letters.bindsN fun _ _ _ _ _ _ us hl => match us, hl with | [_], _ => rfl⟩
  have C_is_set : CalX P w K mg base 1 "is_set" (sp_is_set K) := ⟨_, fd_is_set, ["letters", "place"], ok_is_set T  (He5.fun_of F_is_set), He.glo_ok X G (d.facts (f := .glo "is_set") (by simp [fas])), F_is_set.kp, F_is_set.bindsN fun _ _ _ _ _ _ us hl => match us, hl with | [_, _], _ => rfl⟩
  have C_is_new : CalX P w K mg base 1 "is_new" (sp_is_new K) := ⟨_, fd_is_new, ["letters", "new"], ok_is_new T  (He5.fun_of F_is_new), He.glo_ok X G (d.facts (f := .glo "is_new") (by simp [fas])), F_is_new.kp, F_is_new.bindsN fun _ _ _ _ _ _ us hl => match us, hl with | [_, _], _ => rfl⟩
  have C_fits : CalX P w K mg base 1 "_fits" (sp_fits K) := ⟨_, fd_fits, ["place", "word", "at"], ok_fits T  (He5.fun_of F_fits), He.glo_ok X G (d.facts (f := .glo "_fits") (by simp [fas])), F_fits.kp, F_fits.bindsN fun _ _ _ _ _ _ us hl => match us, hl with | [_, _, _], _ => rfl⟩
  have C_check_made : CalX P w K mg base 1 "check_made" (sp_check_made K) := ⟨_, fd_check_made, ["word"], ok_check_made T  (He5.fun_of F_check_made), He.glo_ok X G (d.facts (f := .glo "check_made") (by simp [fas])), F_check_made.kp, F_check_made.bindsN fun _ _ _ _ _ _ us hl => match us, hl with | [_], _ => rfl⟩
  have C_joined : CalX P w K mg base 1 "_joined" (sp_joined K) := ⟨_, fd_joined, ["parts", "lengths"], ok_joined T  (He5.fun_of F_joined), He.glo_ok X G (d.facts (f := .glo "_joined") (by simp [fas])), F_joined.kp, F_joined.bindsN fun _ _ _ _ _ _ us hl => match us, hl with | [_, _], _ => rfl⟩
  have C_law_number : CalX P w K mg base 1 "_law_number" (sp_law_number K) := ⟨_, fd_law_number, ["cell"], ok_law_number T  (He5.fun_of F_law_number), He.glo_ok X G (d.facts (f := .glo "_law_number") (by simp [fas])), F_law_number.kp, F_law_number.bindsN fun _ _ _ _ _ _ us hl => match us, hl with | [_], _ => rfl⟩
  have C_law_next : CalX P w K mg base 1 "_law_next" (sp_law_next K) := ⟨_, fd_law_next, ["draws"], ok_law_next T  (He5.fun_of F_law_next), He.glo_ok X G (d.facts (f := .glo "_law_next") (by simp [fas])), F_law_next.kp, F_law_next.bindsN fun _ _ _ _ _ _ us hl => match us, hl with | [_], _ => rfl⟩
  have C_law_at : CalX P w K mg base 1 "_law_at" (sp_law_at K) := ⟨_, fd_law_at, ["word", "at"], ok_law_at T  (He5.fun_of F_law_at), He.glo_ok X G (d.facts (f := .glo "_law_at") (by simp [fas])), F_law_at.kp, F_law_at.bindsN fun _ _ _ _ _ _ us hl => match us, hl with | [_, _], _ => rfl⟩
  have C_check_number : CalX P w K mg base 2 "check_number" (sp_check_number K) := ⟨_, fd_check_number, ["k"], ok_check_number T C_is_number_of_letters (He5.fun_of F_check_number), He.glo_ok X G (d.facts (f := .glo "check_number") (by simp [fas])), F_check_number.kp, F_check_number.bindsN fun _ _ _ _ _ _ us hl => match us, hl with | [_], _ => rfl⟩
  have C_is_context : CalX P w K mg base 2 "_is_context" (sp_is_context K) := ⟨_, fd_is_context, ["letters", "places", "edge"], ok_is_context T C_is_set (He5.fun_of F_is_context), He.glo_ok X G (d.facts (f := .glo "_is_context") (by simp [fas])), F_is_context.kp, F_is_context.bindsN fun _ _ _ _ _ _ us hl => match us, hl with | [_, _, _], _ => rfl⟩
  have C_all_fit : CalX P w K mg base 2 "_all_fit" (sp_all_fit K) := ⟨_, fd_all_fit, ["places", "word", "begin"], ok_all_fit T C_fits (He5.fun_of F_all_fit), He.glo_ok X G (d.facts (f := .glo "_all_fit") (by simp [fas])), F_all_fit.kp, F_all_fit.bindsN fun _ _ _ _ _ _ us hl => match us, hl with | [_, _, _], _ => rfl⟩
  have C_law_draws : CalX P w K mg base 2 "_law_draws" (sp_law_draws K) := ⟨_, fd_law_draws, ["script"], ok_law_draws T C_law_number (He5.fun_of F_law_draws), He.glo_ok X G (d.facts (f := .glo "_law_draws") (by simp [fas])), F_law_draws.kp, F_law_draws.bindsN fun _ _ _ _ _ _ us hl => match us, hl with | [_], _ => rfl⟩
  have C_law_string : CalX P w K mg base 2 "_law_string" (sp_law_string K) := ⟨_, fd_law_string, ["draws", "k", "most"], ok_law_string T C_law_next (He5.fun_of F_law_string), He.glo_ok X G (d.facts (f := .glo "_law_string") (by simp [fas])), F_law_string.kp, F_law_string.bindsN fun _ _ _ _ _ _ us hl => match us, hl with | [_, _, _], _ => rfl⟩
  have C_law_place : CalX P w K mg base 2 "_law_place" (sp_law_place K) := ⟨_, fd_law_place, ["draws", "k"], ok_law_place T C_law_next (He5.fun_of F_law_place), He.glo_ok X G (d.facts (f := .glo "_law_place") (by simp [fas])), F_law_place.kp, F_law_place.bindsN fun _ _ _ _ _ _ us hl => match us, hl with | [_, _], _ => rfl⟩
  have C_law_is_there : CalX P w K mg base 2 "_law_is_there" (sp_law_is_there K) := ⟨_, fd_law_is_there, ["rule", "word", "at"], ok_law_is_there T C_law_at (He5.fun_of F_law_is_there), He.glo_ok X G (d.facts (f := .glo "_law_is_there") (by simp [fas])), F_law_is_there.kp, F_law_is_there.bindsN fun _ _ _ _ _ _ us hl => match us, hl with | [_, _, _], _ => rfl⟩
  have C_letters_of : CalX P w K mg base 3 "letters_of" (sp_letters_of K) := ⟨_, fd_letters_of, ["k"], ok_letters_of T C_check_number (He5.fun_of F_letters_of), He.glo_ok X G (d.facts (f := .glo "letters_of") (by simp [fas])), F_letters_of.kp, F_letters_of.bindsN fun _ _ _ _ _ _ us hl => match us, hl with | [_], _ => rfl⟩
  have C_indexes_of : CalX P w K mg base 3 "indexes_of" (sp_indexes_of K) := ⟨_, fd_indexes_of, ["rule", "word"], ok_indexes_of T C_all_fit (He5.fun_of F_indexes_of), He.glo_ok X G (d.facts (f := .glo "indexes_of") (by simp [fas])), F_indexes_of.kp, F_indexes_of.bindsN fun _ _ _ _ _ _ us hl => match us, hl with | [_, _], _ => rfl⟩
  have C_law_context : CalX P w K mg base 3 "_law_context" (sp_law_context K) := ⟨_, fd_law_context, ["draws", "k"], ok_law_context T C_law_next C_law_place (He5.fun_of F_law_context), He.glo_ok X G (d.facts (f := .glo "_law_context") (by simp [fas])), F_law_context.kp, F_law_context.bindsN fun _ _ _ _ _ _ us hl => match us, hl with | [_, _], _ => rfl⟩
  have C_law_followed : CalX P w K mg base 3 "_law_followed" (sp_law_followed K) := ⟨_, fd_law_followed, ["rules", "word"], ok_law_followed T C_law_is_there (He5.fun_of F_law_followed), He.glo_ok X G (d.facts (f := .glo "_law_followed") (by simp [fas])), F_law_followed.kp, F_law_followed.bindsN fun _ _ _ _ _ _ us hl => match us, hl with | [_, _], _ => rfl⟩
  have C_is_word : CalX P w K mg base 4 "is_word" (sp_is_word K) := ⟨_, fd_is_word, ["k", "word"], ok_is_word T C_letters_of (He5.fun_of F_is_word), He.glo_ok X G (d.facts (f := .glo "is_word") (by simp [fas])), F_is_word.kp, F_is_word.bindsN fun _ _ _ _ _ _ us hl => match us, hl with | [_, _], _ => rfl⟩
  have C_is_rule : CalX P w K mg base 4 "is_rule" (sp_is_rule K) := ⟨_, fd_is_rule, ["k", "rule"], ok_is_rule T C_is_context C_is_new C_letters_of (He5.fun_of F_is_rule), He.glo_ok X G (d.facts (f := .glo "is_rule") (by simp [fas])), F_is_rule.kp, F_is_rule.bindsN fun _ _ _ _ _ _ us hl => match us, hl with | [_, _], _ => rfl⟩
  have C_parts_of : CalX P w K mg base 4 "parts_of" (sp_parts_of K) := ⟨_, fd_parts_of, ["rule", "word"], ok_parts_of T C_indexes_of (He5.fun_of F_parts_of), He.glo_ok X G (d.facts (f := .glo "parts_of") (by simp [fas])), F_parts_of.kp, F_parts_of.bindsN fun _ _ _ _ _ _ us hl => match us, hl with | [_, _], _ => rfl⟩
  have C_law_rule : CalX P w K mg base 4 "_law_rule" (sp_law_rule K) := ⟨_, fd_law_rule, ["draws", "k"], ok_law_rule T C_law_context C_law_next C_law_string (He5.fun_of F_law_rule), He.glo_ok X G (d.facts (f := .glo "_law_rule") (by simp [fas])), F_law_rule.kp, F_law_rule.bindsN fun _ _ _ _ _ _ us hl => match us, hl with | [_, _], _ => rfl⟩
  have C_check_word : CalX P w K mg base 5 "check_word" (sp_check_word K) := ⟨_, fd_check_word, ["k", "word"], ok_check_word T C_is_word (He5.fun_of F_check_word), He.glo_ok X G (d.facts (f := .glo "check_word") (by simp [fas])), F_check_word.kp, F_check_word.bindsN fun _ _ _ _ _ _ us hl => match us, hl with | [_, _], _ => rfl⟩
  have C_is_rules : CalX P w K mg base 5 "is_rules" (sp_is_rules K) := ⟨_, fd_is_rules, ["k", "rules"], ok_is_rules T C_check_number C_is_rule (He5.fun_of F_is_rules), He.glo_ok X G (d.facts (f := .glo "is_rules") (by simp [fas])), F_is_rules.kp, F_is_rules.bindsN fun _ _ _ _ _ _ us hl => match us, hl with | [_, _], _ => rfl⟩
  have C_u_pieces : CalX P w K mg base 5 "_pieces" (sp_u_pieces K) := ⟨_, fd_u_pieces, ["rules", "word"], ok_u_pieces T C_joined C_check_made C_parts_of (He5.fun_of F_u_pieces), He.glo_ok X G (d.facts (f := .glo "_pieces") (by simp [fas])), F_u_pieces.kp, F_u_pieces.bindsN fun _ _ _ _ _ _ us hl => match us, hl with | [_, _], _ => rfl⟩
  have C_law_rules : CalX P w K mg base 5 "_law_rules" (sp_law_rules K) := ⟨_, fd_law_rules, ["draws", "k", "most"], ok_law_rules T C_law_next C_law_rule (He5.fun_of F_law_rules), He.glo_ok X G (d.facts (f := .glo "_law_rules") (by simp [fas])), F_law_rules.kp, F_law_rules.bindsN fun _ _ _ _ _ _ us hl => match us, hl with | [_, _, _], _ => rfl⟩
  have C_check_rules : CalX P w K mg base 6 "check_rules" (sp_check_rules K) := ⟨_, fd_check_rules, ["k", "rules"], ok_check_rules T C_is_rules (He5.fun_of F_check_rules), He.glo_ok X G (d.facts (f := .glo "check_rules") (by simp [fas])), F_check_rules.kp, F_check_rules.bindsN fun _ _ _ _ _ _ us hl => match us, hl with | [_, _], _ => rfl⟩
  have C_check_list : CalX P w K mg base 7 "check_list" (sp_check_list K) := ⟨_, fd_check_list, ["k", "rules", "word"], ok_check_list T C_check_rules C_check_word (He5.fun_of F_check_list), He.glo_ok X G (d.facts (f := .glo "check_list") (by simp [fas])), F_check_list.kp, F_check_list.bindsN fun _ _ _ _ _ _ us hl => match us, hl with | [_, _, _], _ => rfl⟩
  have C_pieces : CalX P w K mg base 8 "pieces" (sp_pieces K) := ⟨_, fd_pieces, ["k", "rules", "word"], ok_pieces T C_u_pieces C_check_list (He5.fun_of F_pieces), He.glo_ok X G (d.facts (f := .glo "pieces") (by simp [fas])), F_pieces.kp, F_pieces.bindsN fun _ _ _ _ _ _ us hl => match us, hl with | [_, _, _], _ => rfl⟩
  have C_piece_of : CalX P w K mg base 8 "piece_of" (sp_piece_of K) := ⟨_, fd_piece_of, ["k", "rules", "word", "at"], ok_piece_of T C_u_pieces C_check_list (He5.fun_of F_piece_of), He.glo_ok X G (d.facts (f := .glo "piece_of") (by simp [fas])), F_piece_of.kp, F_piece_of.bindsN fun _ _ _ _ _ _ us hl => match us, hl with | [_, _, _, _], _ => rfl⟩
  have C_trace_of : CalX P w K mg base 9 "trace_of" (sp_trace_of K) := ⟨_, fd_trace_of, ["k", "rules", "word"], ok_trace_of T C_pieces (He5.fun_of F_trace_of), He.glo_ok X G (d.facts (f := .glo "trace_of") (by simp [fas])), F_trace_of.kp, F_trace_of.bindsN fun _ _ _ _ _ _ us hl => match us, hl with | [_, _, _], _ => rfl⟩
  have C_lost : CalX P w K mg base 9 "lost" (sp_lost K) := ⟨_, fd_lost, ["k", "rules", "word"], ok_lost T C_pieces (He5.fun_of F_lost), He.glo_ok X G (d.facts (f := .glo "lost") (by simp [fas])), F_lost.kp, F_lost.bindsN fun _ _ _ _ _ _ us hl => match us, hl with | [_, _, _], _ => rfl⟩
  have C_law_refuses : CalX P w K mg base 9 "_law_refuses" (sp_law_refuses K) := ⟨_, fd_law_refuses, ["k", "rules", "word", "at"], ok_law_refuses T C_piece_of (He5.fun_of F_law_refuses), He.glo_ok X G (d.facts (f := .glo "_law_refuses") (by simp [fas])), F_law_refuses.kp, F_law_refuses.bindsN fun _ _ _ _ _ _ us hl => match us, hl with | [_, _, _, _], _ => rfl⟩
  exact goes_law T C_law_draws C_law_followed C_law_next C_law_refuses C_law_rules C_law_string C_lost C_piece_of C_pieces C_trace_of (He5.fun_of F_law)
end
end K
open PySem PySem.W PySem.Calls PyProof.Rows
theorem PySem.Challenge.cw_soundturns_k08_traces_and_pieces_holds : PySem.Challenge.rw_soundturns_k08_traces_and_pieces.Holds := by
  w_on; o_law
  refine HandSHeadRun.head_any (r := OpenLaw.row PySem.Challenge.rw_soundturns_k08_traces_and_pieces) (q := view (OpenLaw.row PySem.Challenge.rw_soundturns_k08_traces_and_pieces).prog [56]) (H := K.hk) (ob := K.ob) (M := 4500) (loose := K.loose) (d := HandSHeadRun.topDef (OpenLaw.row PySem.Challenge.rw_soundturns_k08_traces_and_pieces).prog 56) (kwd := []) K.ob_eq
    (by kernel_rfl) (fun s => by kernel_rfl) K.run (by kernel_rfl) (by kernel_rfl) (by kernel_rfl) (by rfl) (by first | assumption | decide +kernel) (by decide +kernel) ⟨rfl, rfl, rfl, rfl, rfl, by decide +kernel⟩ ?hw ?hc
  case hw => w_witness2
  case hc =>
    refine Sv.claim_walk (l := PySem.Challenge.rw_soundturns_k08_traces_and_pieces) (n := 63) (x := "script") rfl (by decide) (by kernel_rfl) ?F
    intro w mg f h Y G named
    obtain ⟨Kf, KX, c⟩ := Y
    have hmg : mg ("law" : PySem.Str) = some (.ref f) := by
      have e : (HandSHeadRun.topDef (OpenLaw.row PySem.Challenge.rw_soundturns_k08_traces_and_pieces).prog 56).name = ("law" : PySem.Str) := by kernel_rfl
      rw [← e]
      exact named
    obtain ⟨fd, hb, hF⟩ := K.law_ok (P := (PySem.Challenge.rw_soundturns_k08_traces_and_pieces).prog) (w := w) KX G c hmg
    exact ⟨Kf, fd, K.sp_law Kf, KX, hb, fun H a ns hl hS => ⟨a, ns, rfl, hS, hl, fun _ => rfl⟩, hF⟩

