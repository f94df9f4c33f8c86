import PyProof.Rows.All
import Wide.All
import OpenK.AllK
import Wide.FinOn
import HandS.Iter
import KE.GoesEnum
import HandS.ForMost
import HandS.Evl
import HandS.Walk
import HandS.IsInst
import HandS.Wide
import HandS.NoneIn
import HandS.EndBits
import HandS.Codes
import HandS.TupAny
import HandS.TupMul
import HandS.Deep
import PyProof.TupleOfSeq
import PyProof.SeqIndex
import KE.DatumIndex
import PyProof.ReprRoads
import PyProof.CallFns
import HandS.SortInts
import HandS.Zip
import PySem.Challenge.RW_unturned_k45_another_room
set_option Elab.async false
set_option linter.all false
set_option maxRecDepth 100000
set_option maxHeartbeats 8000000
namespace Un
open PySem PySem.Spec PyProof.Rows L2
/-- enumerate's new pair of cells over whatever begins an iterator -/
theorem meets_enumB {u : Value} {ob : Obj} {Hh : Heap → Prop} (B : Begins u ob Hh) :
    Meets (Builtin.«enumerate.__new__» ⟨[.type "enumerate", u], []⟩) (fun _ R st => Hh st.heap ∧
      R (.ok (.ret (.ref (st.heap.push ob).objs.size))) { st with heap := (st.heap.push ob).push { cls := .type "enumerate", data := .fields #[.none, .bool false, .ref st.heap.objs.size, rawInt 0, .none, .none] } }) :=
  .of_wp fun prog w A R st hh => by
    obtain ⟨hp, gn, dr, tk, os⟩ := st
    obtain ⟨hu, hh⟩ := hh
    have hsub := sub_enumerate
    have it1 : ∀ {A' : Around} {E : Value → Shared → Prop} {Q : Value → Shared → Prop}, Q (.ref hp.objs.size) ⟨hp.push ob, gn, dr, tk, os⟩ → wpAny (model prog w) A' (pyIter u) Q E ⟨hp, gn, dr, tk, os⟩ :=
      fun q => B.iter prog w _ _ ⟨hp, gn, dr, tk, os⟩ _ hu q
    wp_walk using it1
    refine wpAny_stack_any fun stk => wpAny_pure ?_
    split
    · rename_i cc _ _ _ _ _
      cases (cc == Value.type "enumerate") <;> (wp_walk using it1; exact ⟨_, rfl, hh⟩)
    · wp_walk using it1
      exact ⟨_, rfl, hh⟩
section
variable {prog : Program} {w : World} {A : Around} {E : Value → Shared → Prop} {s : Shared}
theorem call_enumT {l : Addr} {its : Array Value} {Q : Value → Shared → Prop} (hT : s.heap.IsTuple l its)
    (k : ∀ h', IsEnum h' (s.heap.objs.size + 1) s.heap.objs.size 0 .none → h'.IsTupleIter s.heap.objs.size l 0 →
      (∀ b o, s.heap.get? b = some o → h'.get? b = some o) → Q (.ref (s.heap.objs.size + 1)) { s with heap := h' }) :
    wpAny (model prog w) A (call (.type "enumerate") [.ref l]) Q E s := by
  refine callType_new F.called_enumerate (by decide) (F.typeCall_enumerate_1 _) (F.newCall_enumerate_1 _) (fun obj => F.args_object_init_2 obj _) F.entry_enumerate_new
    (meets_enumB (begins_tuple l its)) ⟨hT, ?_⟩
  have sz : (s.heap.push { cls := .type "tuple_iterator", data := .fields #[.ref l, .int 0 0] }).objs.size = s.heap.objs.size + 1 := Heap.size_push ..
  show _ ∧ _
  rw [sz]
  have en : IsEnum ((s.heap.push { cls := .type "tuple_iterator", data := .fields #[.ref l, .int 0 0] }).push
      { cls := .type "enumerate", data := .fields #[.none, .bool false, .ref s.heap.objs.size, rawInt 0, .none, .none] }) (s.heap.objs.size + 1) s.heap.objs.size 0 .none := by
    have g := Heap.get?_push_size (s.heap.push { cls := .type "tuple_iterator", data := .fields #[.ref l, .int 0 0] })
      (o := { cls := .type "enumerate", data := .fields #[.none, .bool false, .ref s.heap.objs.size, rawInt 0, .none, .none] }) rfl
    rw [sz] at g
    exact g
  exact ⟨⟨_, en, rfl⟩, k _ en ⟨_, Heap.get?_push_of_some _ (Heap.get?_push_size _ rfl), rfl, rfl⟩ fun b o x => Heap.get?_push_of_some _ (Heap.get?_push_of_some _ x)⟩
end
/-- the tuple at a, each item in a new pair with its place -/
def IteT (K : PySem.W.Frag) (a : Addr) : It :=
  ⟨fun i H => ∃ (xs : List V) (x : V), SqT K H a xs ∧ xs[i]? = some x,
   fun i H v H' => ∃ T x, v = .ref T ∧ H T = none ∧ H' = upd H T (.tup [.int (i : Nat), x]) ∧ ∀ xs, SqT K H a xs → xs[i]? = some x,
   fun i H => ∃ xs : List V, SqT K H a xs ∧ xs.length = i⟩
theorem turn_enumT {P : Program} {w : World} {K : PySem.W.Frag} {elts : List Expr} {kk : Nat} {tpos : Pos} (a e it : Addr) (hai : a ≠ it) (hae : a ≠ e) :
    Turn P w K (.Tuple elts kk tpos) (IteT K a) [e, it] e (fun i h => (∃ old, IsEnum h e it ((i : Nat) : Int) old) ∧ h.IsTupleIter it a i ∧ e ≠ it) where
  mem := by simp
  obj := fun i h st b hb => by
    obtain ⟨⟨old, he⟩, ⟨o, ho, hc, hd⟩, _⟩ := st
    have eb : b = e ∨ b = it := by simpa using hb
    rcases eb with z | z
    · subst z
      exact ⟨_, he, fun v q => nomatch q⟩
    · subst z
      exact ⟨o, ho, fun v q => by rw [hd] at q; cases q⟩
  keep := fun i h h' st k => let ⟨⟨old, he⟩, ⟨o, ho, r⟩, hne⟩ := st; ⟨⟨old, k e (by simp) _ he⟩, ⟨o, k it (by simp) o ho, r⟩, hne⟩
  item := by
    intro X hP hw hK hc i pins s σ H E I hf st hg
    subst hP hw hK
    obtain ⟨⟨old, he⟩, hit, hne⟩ := st
    obtain ⟨xs, x, hq, hx⟩ := hg
    obtain ⟨its, rv, p, hz⟩ := I.tuple hq
    obtain ⟨u, hu, ru⟩ := rv.get hx
    have hlt : i < its.toArray.size := by
      have z := (List.getElem?_eq_some_iff.mp hu).1
      simpa using z
    have hel : e < s.heap.objs.size := Heap.lt_size he
    have hil : it < s.heap.objs.size := by
      obtain ⟨_, q, _⟩ := hit
      exact Heap.lt_size q
    have D := Draws.tuple (prog := X.prog) (w := X.w) (A := X.A.in1) (I.ok.hd hc) it a hai its.toArray
    refine wpAny_pyNext_enum_itemC D he ⟨hit, p⟩ hlt hne (by
      intro z
      have z' : e = it ∨ e = a := by simpa using z
      rcases z' with z1 | z1
      · exact hne z1
      · exact hae z1.symm) fun y h' tk hy ho hst' hT hsz hk => ?_
    have eu : y = u := by
      have z : its.toArray[i]? = some y := hy
      have z2 : its[i]? = some y := by simpa using z
      exact Option.some.inj (z2.symm.trans hu)
    subst eu
    refine ⟨_, rfl, wpAny_letOwnedTupleGo_enum (s := { s with heap := h', toks := tk + 1 }) ho fun h'' he' sb => ?_⟩
    have hT2 : h''.get? s.heap.objs.size = some { cls := .type "tuple", data := .seq #[.int i tk, y] } := (sb.2 _ (Nat.ne_of_gt hel)).trans hT
    have new : ObjOk X.prog X.w (upd H s.heap.objs.size (.tup [.int (i : Nat), x])) h'' s.heap.objs.size (.tup [.int (i : Nat), x]) :=
      ⟨by show 2 ≤ sizeLine; decide, [.int i tk, y], .cons ⟨_, rfl⟩ (.cons ru .nil), ⟨_, hT2, rfl, _, rfl⟩⟩
    have I1 : Inv X pins σ (upd H s.heap.objs.size (.tup [.int (i : Nat), x])) { s with heap := h'', toks := tk + 1 } :=
      I.turnedNew (ch := [e, it]) (fun b ob hb q => (sb.2 b (fun z => hb (by simp [z]))).trans (hk b ob (fun z => hb (by simp [z])) (fun z => hb (by simp [z])) q)) hf (Nat.le_refl _) new
    refine ⟨.ref s.heap.objs.size, _, I1, rfl, ⟨_, x, rfl, I.hok.fresh (Nat.le_refl _), rfl, fun ys hy => by rw [I.tuple_inj hy hq]; exact hx⟩, ⟨⟨y, ?_⟩, ?_, hne⟩, fun b hb => ?_⟩
    · have e1 : ((i + 1 : Nat) : Int) = (i : Int) + 1 := by omega
      rw [e1]
      exact he'
    · obtain ⟨⟨o, q, r⟩, _⟩ := hst'
      exact ⟨o, (sb.2 it (Ne.symm hne)).trans q, r⟩
    · have hb' : b < s.heap.objs.size := by
        have eb : b = e ∨ b = it := by simpa using hb
        rcases eb with z | z
        · rw [z]; exact hel
        · rw [z]; exact hil
      rw [upd_ne (Nat.ne_of_lt hb')]
      exact (hf b hb).1
  done := by
    intro X hP hw hK hc i pins s σ H E I hf st hg
    subst hP hw hK
    obtain ⟨⟨old, he⟩, hit, hne⟩ := st
    obtain ⟨xs, hq, hx⟩ := hg
    obtain ⟨its, rv, p, hz⟩ := I.tuple hq
    have hl := rv.length
    have D := Draws.tuple (prog := X.prog) (w := X.w) (A := X.A.in1) (I.ok.hd hc) it a hai its.toArray
    have en : its.toArray.size = i := by
      simp
      omega
    obtain ⟨f0, f1, f2, f3, f4, f5⟩ := hf it (by simp)
    refine wpAny_pyNext_enum_endD D he (en.symm ▸ ⟨hit, p⟩) fun h' eb => ⟨rfl, I.turned (t' := s.toks) (fun b o hb q => eb b o hb q) f0 f1 f3 f4 f5⟩
  self := fun A i s Q E st h => let ⟨⟨_, he⟩, _⟩ := st; wpAny_pyIter_enum he h
def iEnumT (K : PySem.W.Frag) (ta : TA) : TI := fun σ H R => ta σ H fun vs H1 => ∃ a xs, vs = [.ref a] ∧ SqT K H1 a xs ∧ R (IteT K a) H1
theorem pi_enumT {X : Cx} {e : Expr} {ta : TA} {p pos tpos : Pos} {elts : List Expr} {kk : Nat} (hg : Gl X "enumerate") (hm : X.mg "enumerate" = none) (ha : PA X [e] ta)
    (hs : starEach [e] X.env = [(false, eval e X.env)] := by rfl) : PI X (.Tuple elts kk tpos) (.Call (.Name "enumerate" p) [e] [] pos) (iEnumT X.K ta) := by
  refine ⟨fun pins s σ H R I h => ?_⟩
  refine Call_ (ld_blt I hg hm boot_enumerate (PyProof.Rows.callWith_type1 (thn (ha.run pos pins s σ H _ I h) fun us s1 ⟨vs, H1, I1, r1, q1⟩ => ?_) hs rfl))
  obtain ⟨a, xs, ex, hq, q⟩ := q1
  subst ex
  cases r1 with
  | cons r rr =>
    cases rr
    cases r
    obtain ⟨its, rv, pt, hz⟩ := I1.tuple hq
    have hal : a < s1.heap.objs.size := by
      obtain ⟨o, ho, _⟩ := (show s1.heap.IsTuple a its.toArray from pt)
      exact Heap.lt_size ho
    refine call_enumT pt fun h' he hit hk => wpAny_pyIter_enum he ?_
    have I2 : Inv X pins σ H1 { s1 with heap := h' } := I1.kept (t' := s1.toks) hk
    refine ⟨s1.heap.objs.size + 1, [s1.heap.objs.size + 1, s1.heap.objs.size], _, _, H1, rfl, I2,
      turn_enumT a (s1.heap.objs.size + 1) s1.heap.objs.size (Nat.ne_of_lt hal) (Nat.ne_of_lt (Nat.lt_succ_of_lt hal)), ⟨⟨.none, he⟩, hit, Nat.succ_ne_self _⟩, fun b hb => ?_, q⟩
    have hle : s1.heap.objs.size ≤ b := by
      have e' : b = s1.heap.objs.size + 1 ∨ b = s1.heap.objs.size := by simpa using hb
      rcases e' with z | z
      · rw [z]; exact Nat.le_add_right _ _
      · rw [z]; exact Nat.le_refl _
    exact I1.fpOk hle (I1.hok.fresh hle)
end Un

namespace Uv
open PySem PySem.Spec PyProof.Rows L2
open Evl (Ex)
/-! ### tuples whose object is known -/
def Plain (o : Obj) : Prop := o.cls = .type "tuple" ∧ o.dict = none
abbrev fz (o : Obj) (xs : List V) : HO := .frz o (.tup xs)
def tTupF (t : TA) : TE := fun σ H Q => t σ H fun xs H1 => xs.length ≤ sizeLine ∧ ∀ p o, H1 p = none → Plain o → Q (.ref p) (upd H1 p (fz o xs))
theorem pe_tupF {X : Cx} {es : List Expr} {t : TA} {pos : Pos} {x1} (h : PA X es t) : PE X (.Tuple es x1 pos) (tTupF t) := by
  refine ⟨fun pins s σ H Q I hq => ?_⟩
  refine wpAny_Tuple_spliced (thn (h.run pos pins s σ H _ I hq) fun us s1 ⟨xs, H1, I1, r, z, q⟩ => ⟨by rw [← r.length]; exact z, ?_⟩)
  have I2 : Inv X pins σ (upd H1 s1.heap.objs.size (fz { cls := .type "tuple", data := .seq us.toArray } xs)) { s1 with heap := s1.heap.push { cls := .type "tuple", data := .seq us.toArray }, toks := s1.toks } :=
    I1.laid (t' := s1.toks) (fun b u e => Heap.get?_push_of_some _ e) (Nat.le_refl _) (show ObjOk X.prog X.w _ _ _ (.frz _ (.tup xs)) from ⟨Heap.get?_push_size _ rfl, z, us, r, IsTup.new _ _⟩)
  exact ⟨.ref s1.heap.objs.size, _, I2, rfl, q _ _ (I1.hok.fresh (Nat.le_refl _)) ⟨rfl, rfl⟩⟩
/-- tuple(xs) of a list: a new one; of a tuple: itself -/
def rTupF (K : PySem.W.Frag) : List V → Hp → VK → Prop := fun xs H Q => ∃ p ys, xs = [.ref p] ∧ ((SqL K H p ys ∧ ∀ l o, H l = none → Plain o → Q (.ref l) (upd H l (fz o ys))) ∨ (SqT K H p ys ∧ Q (.ref p) H))
theorem cr_tupF {X : Cx} : CallR X (.type "tuple") (rTupF X.K) := by
  intro pins s σ H xs us Q I r h
  obtain ⟨p, ys, rfl, h⟩ := h
  rcases h with ⟨hq, q⟩ | ⟨ht, q⟩
  · obtain ⟨u, rfl, rx⟩ := vals1 r
    cases rx
    obtain ⟨its, r', pl, hz⟩ := I.list hq
    have hlen := r'.length
    refine call_tuple_list pl.isList (fun h' kp => ?_) (by simp only [List.size_toArray] <;> omega)
    have I1 : Inv X pins σ H { s with heap := h' } := I.kept (t' := s.toks) kp
    have I2 : Inv X pins σ (upd H h'.objs.size (fz { cls := .type "tuple", data := .seq its.toArray } ys)) { s with heap := h'.push { cls := .type "tuple", data := .seq its.toArray } } :=
      I1.laid (t' := s.toks) (fun b o e => Heap.get?_push_of_some _ e) (Nat.le_refl _) (show ObjOk X.prog X.w _ _ _ (.frz _ (.tup ys)) from ⟨Heap.get?_push_size _ rfl, hz, its, r', IsTup.new _ _⟩)
    exact ⟨.ref h'.objs.size, _, I2, rfl, q _ _ (I1.hok.fresh (Nat.le_refl _)) ⟨rfl, rfl⟩⟩
  · exact call_tupleT pins s σ H _ us Q I r ⟨p, ys, rfl, ht, q⟩
/-- t + u -/
def rCatF (K : PySem.W.Frag) : R2 := fun x y H Q => ∃ a b xs ys, x = .ref a ∧ y = .ref b ∧ SqT K H a xs ∧ SqT K H b ys ∧ xs.length + ys.length ≤ sizeLine ∧
  (xs = [] → Q (.ref b) H) ∧ (xs ≠ [] → ys = [] → Q (.ref a) H) ∧ (xs ≠ [] → ys ≠ [] → ∀ p o, H p = none → Plain o → Q (.ref p) (upd H p (fz o (xs ++ ys))))
theorem op_catF {X : Cx} : OpR X (binaryOp .Add) (rCatF X.K) := by
  intro pins s σ H x y v u Q I rx ry h
  obtain ⟨a, b, xs, ys, rfl, rfl, ha, hb, hz, q0, q1, q2⟩ := h
  cases rx
  cases ry
  obtain ⟨its, r1, p1, _⟩ := I.tuple ha
  obtain ⟨its2, r2, p2, _⟩ := I.tuple hb
  by_cases hx : xs = []
  · subst hx
    cases r1
    exact cat_tup0 p1 p2 ⟨.ref b, H, I, rfl, q0 rfl⟩
  · refine HT.cat_tup p1 p2 (fun z => hx (r1.nil_iff.mp z)) (fun z => ⟨.ref a, H, I, rfl, q1 hx (r2.nil_iff.mp z)⟩) (fun z => ?_) (by rw [← r1.length, ← r2.length]; exact hz)
    have hy : ys ≠ [] := fun w => z (r2.nil_iff.mpr w)
    have ok := I.laid (t' := s.toks) (o := fz _ (xs ++ ys)) (fun b ob q => Heap.get?_push_of_some _ q) (Nat.le_refl _) (show ObjOk X.prog X.w _ _ _ (.frz _ (.tup (xs ++ ys))) from ⟨Heap.get?_push_size _ rfl, by rw [List.length_append]; exact hz, _, r1.append r2, IsTup.new _ _⟩)
    exact ⟨.ref s.heap.objs.size, _, ok, rfl, q2 hx hy _ _ (I.hok.fresh (Nat.le_refl _)) ⟨rfl, rfl⟩⟩
/-- t[lo:hi] -/
def rSlF (K : PySem.W.Frag) : V → Option Int → Option Int → Hp → VK → Prop := fun x lo hi H Q => ∃ a xs, x = .ref a ∧ SqT K H a xs ∧
  (HT.sIx xs.length 0 lo = 0 ∧ HT.sIx xs.length xs.length hi = xs.length → Q (.ref a) H) ∧ (¬ (HT.sIx xs.length 0 lo = 0 ∧ HT.sIx xs.length xs.length hi = xs.length) → ∀ p o, H p = none → Plain o → Q (.ref p) (upd H p (fz o (cutV xs lo hi))))
theorem sl_tupF {X : Cx} : SlR X (rSlF X.K) := by
  intro pins s σ H x v vl vu lo hi sl Q I rx hs pl pu h
  obtain ⟨a, xs, rfl, hx, q1, q2⟩ := h
  cases rx
  obtain ⟨its, r, ht, hz⟩ := I.tuple hx
  have hlen : its.toArray.size = xs.length := by rw [List.size_toArray]; exact r.length.symm
  refine ⟨"tuple", _, PyProof.Rows.slot_tuple_getitem.lookup, ht.typeIs, ?_⟩
  by_cases hw : HT.sIx xs.length 0 lo = 0 ∧ HT.sIx xs.length xs.length hi = xs.length
  · exact getItem_tuple_whole ht hs pl pu (by rw [hlen]; exact hw) ⟨.ref a, H, I, rfl, q1 hw⟩
  · refine HT.getItem_tuple_cut ht hs pl pu (by rw [hlen]; exact hw) ?_ (by rw [hlen]; exact hz)
    rw [hlen]
    have ok := I.laid (t' := s.toks) (o := fz _ (cutV xs lo hi)) (fun b ob q => Heap.get?_push_of_some _ q) (Nat.le_refl _) (show ObjOk X.prog X.w _ _ _ (.frz _ (.tup (cutV xs lo hi))) from ⟨Heap.get?_push_size _ rfl, Nat.le_trans (cutV_length xs lo hi) hz, _, (r.drop (HT.sIx xs.length 0 lo)).take (HT.sIx xs.length xs.length hi - HT.sIx xs.length 0 lo), IsTup.new _ _⟩)
    exact ⟨.ref s.heap.objs.size, _, ok, rfl, q2 hw _ _ (I.hok.fresh (Nat.le_refl _)) ⟨rfl, rfl⟩⟩
/-- t.index(x) of a tuple of ints or Nones: x in t -/
def rIndexF (K : PySem.W.Frag) : V → List V → Hp → VK → Prop := fun x xs H Q => ∃ (a : Addr) (ns : List Int) (m : Int), x = .ref a ∧ xs = [.int m] ∧ SqT K H a (ns.map V.int) ∧ m ∈ ns ∧ Q (.int (ns.idxOf m : Nat)) H
theorem mt_indexF {X : Cx} (hu : X.A.units + 65 < cLine) : MtR X "tuple.index" (rIndexF X.K) := by
  intro pins s σ H x xs v us Q I rx rxs h
  obtain ⟨a, ns, m, rfl, rfl, hs, hm, q⟩ := h
  cases rx
  obtain ⟨u, rfl, t, rfl⟩ := vals1 rxs
  obtain ⟨its, rv, p, _⟩ := I.tuple hs
  refine PySem.W.index_tuple_datum (xs := ns) (x := m) p ⟨[], rv.ints.reads s.heap⟩ ⟨[], .int m t⟩ (by show X.A.units + 1 + 0 < cLine; omega) hm ?_
  exact ⟨.int _, H, I.tok _, ⟨_, rfl⟩, q⟩
def tBMF (r : V → List V → Hp → VK → Prop) (to : TE) (t : TA) : TE := fun σ H Q => to σ H fun x H1 => (∃ p o u, x = .ref p ∧ H1 p = some (.frz o u) ∧ Plain o) ∧ t σ H1 fun xs H2 => r x xs H2 Q
theorem pe_bmF {X : Cx} {o e : Expr} {es : List Expr} {to : TE} {t : TA} {name : Str} {apos cpos : Pos} {id : String} {r : V → List V → Hp → VK → Prop} (slot : Slot "tuple" name id) (hty : typeOf (.builtin id) = pure (.type "method_descriptor")) (hm : MtR X id r) (ho : PE X o to) (ha : PA X (e :: es) t)
    (hbase : attributeBase o name X.env (eval o X.env) = eval o X.env := by rfl)
    (hfew : ((backTo cpos (starEach (e :: es) X.env)).all (fun x => !x.1) && (backToKw cpos (keywordEach [] X.env)).all (fun x => x.1.isSome)
      && decide ((e :: es).length + ([] : List Keyword).length + (if ([] : List Keyword).isEmpty then 0 else 1) < 30)) = true := by rfl)
    (hline : (apos.endLine == cpos.line) = true := by rfl) (hs : starEach (e :: es) X.env = (false, eval e X.env) :: starEach es X.env := by rfl) (hplain : (backTo cpos (starEach es X.env)).any (·.1) = false := by rfl) :
    PE X (.Call (.Attribute o name apos) (e :: es) [] cpos) (tBMF r to t) := by
  refine ⟨fun pins s σ H Q I h => wpAny_Call_method_late hbase hfew hline rfl (thn (ho.run pins s σ H _ I h) fun v s1 ⟨x, H1, I1, r1, ty, q1⟩ => ?_)⟩
  obtain ⟨p, ob, u, rfl, hp, hc, hd⟩ := ty
  cases r1
  have hg := (I1.hok p _ hp).1
  refine ⟨"tuple", id, PySem.F.plainAttrs_tuple, slot, hty, ⟨ob, hg, hc⟩, fun a e => by cases e; exact ⟨ob, hg, hd⟩, ?_⟩
  have hA := ha.run cpos pins s1 σ H1 _ I1 q1
  rw [hs] at hA ⊢
  refine Calls.callWith_builtin (by show (false || (backTo cpos (starEach es X.env)).any (·.1)) = false; rw [hplain] <;> rfl) (Calls.evalArgs_plain ?_)
  exact thn hA fun us s2 ⟨vs, H2, I2, r2, q2⟩ => hm pins s2 σ H2 (.ref p) vs (.ref p) us Q I2 (show L2.RelV (.ref p) (.ref p) from rfl) r2 q2
theorem u65 {k : Nat} {A : Around} (r : Room k A) : A.units + 65 < cLine := by have := r.un; omega
end Uv

namespace Uv
open PySem PySem.Spec PyProof.Rows L2
open Evl (Ex)
/-- the written part that is in force -/
class KK where
  fr : PySem.W.Frag
abbrev K [kk : KK] : PySem.W.Frag := kk.fr
variable [kk : KK]
abbrev PD := PyData
/-- the script, as data: only len, an index, a slice and a walk are asked of it -/
abbrev scrD (ds : List PD) : PD := .dict [(.none, .list ds)]
theorem sqx {K : PySem.W.Frag} {H H' : Hp} {a : Addr} {xs : List V} (e : Ex H H') (h : SqL K H a xs) : SqL K H' a xs := h.elim (fun r => .inl (r.elim (fun r => .inl (e _ _ r)) fun ⟨o, r⟩ => .inr ⟨o, e _ _ r⟩)) .inr
abbrev Hs := Addr → Prop
/-! ### what is hidden -/
open Classical in
noncomputable def hid (S : Hs) (H : Hp) : Hp := fun x => if S x then none else H x
section
variable {S S' : Hs} {H H' : Hp} {x p : Addr} {o : HO}
theorem hid_in (h : S x) : hid S H x = none := by unfold hid; rw [if_pos h]
theorem hid_out (h : ¬ S x) : hid S H x = H x := by unfold hid; rw [if_neg h]
theorem hid_some (h : hid S H x = some o) : ¬ S x ∧ H x = some o := by
  by_cases c : S x
  · rw [hid_in c] at h; cases h
  · rw [hid_out c] at h; exact ⟨c, h⟩
theorem hid_ex (e : Ex H H') : Ex (hid S H) (hid S H') := fun x o h => by
  obtain ⟨c, h⟩ := hid_some h
  rw [hid_out c]; exact e x o h
theorem hid_le : Ex (hid S H) H := fun x o h => (hid_some h).2
theorem hid_sub (h : ∀ x, S' x → S x) : Ex (hid S H) (hid S' H) := fun x o q => by
  obtain ⟨c, q⟩ := hid_some q
  rw [hid_out fun z => c (h x z)]; exact q
theorem hid_eq (h : ∀ x, S x ↔ S' x) : hid S H = hid S' H := by
  funext x
  by_cases c : S x
  · rw [hid_in c, hid_in ((h x).mp c)]
  · rw [hid_out c, hid_out fun z => c ((h x).mpr z)]
def Al (S : Hs) (H : Hp) : Prop := ∀ x, S x → H x ≠ none
theorem Al.ex (a : Al S H) (e : Ex H H') : Al S H' := fun x hx z => by
  cases q : H x with
  | none => exact a x hx q
  | some o => rw [e x o q] at z; cases z
theorem Al.new (a : Al S H) (hp : H p = none) : ¬ S p := fun z => a p z hp
theorem new_ok (al : Al S H) (hp : H p = none) : hid S (upd H p o) p = some o := by rw [hid_out (al.new hp), upd_same]
theorem hid_cons (e : Ex H H') (hp : H p = none) : Ex (hid S H) (hid (fun x => x = p ∨ S x) H') := fun x o h => by
  obtain ⟨c, h⟩ := hid_some h
  have n : ¬ (x = p ∨ S x) := fun z => z.elim (fun z => by subst z; rw [hp] at h; cases h) c
  rw [hid_out n]; exact e x o h
end
/-! ### data as they stand on the heap -/
mutual
inductive Rp (H : Hp) : V → PD → Prop
  | non : Rp H .non .none
  | bl (b : Bool) : Rp H (.bl b) (.bool b)
  | int (i : Int) : Rp H (.int i) (.int i)
  | str (x : Str) : Rp H (.str x) (.str x)
  | lst {a : Addr} {xs : List V} {ds : List PD} : H a = some (.lst xs) → RpAll H xs ds → Rp H (.ref a) (.list ds)
  | tup {a : Addr} {o : Obj} {xs : List V} {ds : List PD} : H a = some (fz o xs) → Plain o → RpAll H xs ds → Rp H (.ref a) (.tuple ds)
  | dic {a : Addr} : H a = some (.dK []) → Rp H (.ref a) (.dict [])
  | scr {a : Addr} {xs : List V} {ds : List PD} : SqL K H a xs → RpAll H xs ds → Rp H (.ref a) (scrD ds)
inductive RpAll (H : Hp) : List V → List PD → Prop
  | nil : RpAll H [] []
  | cons {v : V} {vs : List V} {d : PD} {ds : List PD} : Rp H v d → RpAll H vs ds → RpAll H (v :: vs) (d :: ds)
end
mutual
theorem Rp.ex {H H' : Hp} (e : Ex H H') : ∀ {v : V} {d : PD}, Rp H v d → Rp H' v d
  | _, _, .non => .non
  | _, _, .bl b => .bl b
  | _, _, .int i => .int i
  | _, _, .str x => .str x
  | _, _, .lst h r => .lst (e _ _ h) (RpAll.ex e r)
  | _, _, .tup h p r => .tup (e _ _ h) p (RpAll.ex e r)
  | _, _, .dic h => .dic (e _ _ h)
  | _, _, .scr h r => .scr (sqx e h) (RpAll.ex e r)
theorem RpAll.ex {H H' : Hp} (e : Ex H H') : ∀ {vs : List V} {ds : List PD}, RpAll H vs ds → RpAll H' vs ds
  | _, _, .nil => .nil
  | _, _, .cons h r => .cons (Rp.ex e h) (RpAll.ex e r)
end
mutual
theorem Rp.dp {H : Hp} : ∀ {v : V} {d : PD}, Rp H v d → d.hasDict = false → Dp K H v d
  | _, _, .non, _ => .non
  | _, _, .bl b, _ => .bl b
  | _, _, .int i, _ => .int i
  | _, _, .str x, _ => .str x
  | _, _, .lst h r, n => .lst (.inl (.inl h)) (RpAll.dp r (by simpa [PyData.hasDict] using n))
  | _, _, .tup h _ r, n => .tup (.inl (.inr ⟨_, h⟩)) (RpAll.dp r (by simpa [PyData.hasDict] using n))
  | _, _, .dic h, n => by simp [PyData.hasDict] at n
  | _, _, .scr h r, n => by simp [PyData.hasDict] at n
theorem RpAll.dp {H : Hp} : ∀ {vs : List V} {ds : List PD}, RpAll H vs ds → PyData.hasDictAll ds = false → DpAll K H vs ds
  | _, _, .nil, _ => .nil
  | _, _, .cons h r, n => by
    simp only [PyData.hasDictAll, Bool.or_eq_false_iff] at n
    exact .cons (Rp.dp h n.1) (RpAll.dp r n.2)
end
section
variable {H : Hp}
theorem RpAll.length : ∀ {vs : List V} {ds : List PD}, RpAll H vs ds → vs.length = ds.length
  | _, _, .nil => rfl
  | _, _, .cons _ r => by rw [List.length_cons, List.length_cons, RpAll.length r]
theorem RpAll.get : ∀ {vs : List V} {ds : List PD} {i : Nat} {d : PD}, RpAll H vs ds → ds[i]? = some d → ∃ v, vs[i]? = some v ∧ Rp H v d
  | _, _, _, _, .nil, e => by simp at e
  | _, _, 0, _, .cons h _, e => by
    simp at e
    subst e
    exact ⟨_, rfl, h⟩
  | _, _, i + 1, d, .cons _ r, e => by
    obtain ⟨v, h1, h2⟩ := RpAll.get (i := i) (d := d) r (by simpa using e)
    exact ⟨v, by simpa using h1, h2⟩
theorem RpAll.append : ∀ {vs ws : List V} {ds es : List PD}, RpAll H vs ds → RpAll H ws es → RpAll H (vs ++ ws) (ds ++ es)
  | _, _, _, _, .nil, s => s
  | _, _, _, _, .cons h r, s => .cons h (RpAll.append r s)
theorem RpAll.drop : ∀ {vs : List V} {ds : List PD} (n : Nat), RpAll H vs ds → RpAll H (vs.drop n) (ds.drop n)
  | _, _, 0, r => by simpa using r
  | _, _, n + 1, .nil => by simpa using RpAll.nil
  | _, _, n + 1, .cons _ r => by simpa using RpAll.drop n r
theorem RpAll.take : ∀ {vs : List V} {ds : List PD} (n : Nat), RpAll H vs ds → RpAll H (vs.take n) (ds.take n)
  | _, _, 0, r => by simpa using RpAll.nil
  | _, _, n + 1, .nil => by simpa using RpAll.nil
  | _, _, n + 1, .cons h r => by simpa using RpAll.cons h (RpAll.take n r)
theorem RpAll.at {vs : List V} {ds : List PD} {i : Int} {d : PD} (r : RpAll H vs ds) (h : atI ds i = some d) : ∃ v, atI vs i = some v ∧ Rp H v d := by
  unfold atI at h ⊢
  rw [r.length]
  cases e : ixN ds.length i with
  | none => rw [e] at h; cases h
  | some j =>
    rw [e] at h
    exact r.get (i := j) h
theorem RpAll.set : ∀ {vs : List V} {ds : List PD} {v : V} {d : PD} (n : Nat), RpAll H vs ds → Rp H v d → RpAll H (vs.set n v) (ds.set n d)
  | _, _, _, _, _, .nil, _ => by simpa using RpAll.nil
  | _, _, _, _, 0, .cons _ r, h => by simpa using RpAll.cons h r
  | _, _, _, _, n + 1, .cons h0 r, h => by simpa using RpAll.cons h0 (RpAll.set n r h)
theorem RpAll.rep {vs : List V} {ds : List PD} (r : RpAll H vs ds) : ∀ n, RpAll H (List.replicate n vs).flatten (List.replicate n ds).flatten
  | 0 => .nil
  | n + 1 => by
    rw [List.replicate_succ, List.replicate_succ, List.flatten_cons, List.flatten_cons]
    exact r.append (RpAll.rep r n)
/-- ints as data -/
def unI : List PD → Option (List Int)
  | [] => some []
  | .int i :: r => (unI r).map (i :: ·)
  | _ => none
def unB : List PD → Option (List Bool)
  | [] => some []
  | .bool b :: r => (unB r).map (b :: ·)
  | _ => none
theorem unI_map : ∀ ns : List Int, unI (ns.map PyData.int) = some ns
  | [] => rfl
  | n :: ns => by rw [List.map_cons, unI, unI_map ns]; rfl
theorem unB_map : ∀ ns : List Bool, unB (ns.map PyData.bool) = some ns
  | [] => rfl
  | n :: ns => by rw [List.map_cons, unB, unB_map ns]; rfl
theorem unI_eq : ∀ {ds : List PD} {ns : List Int}, unI ds = some ns → ds = ns.map PyData.int
  | [], ns, h => by cases h; rfl
  | .int i :: r, ns, h => by
    unfold unI at h
    cases q : unI r with
    | none => rw [q] at h; cases h
    | some ms =>
      rw [q] at h
      cases h
      rw [unI_eq q]
      rfl
  | .none :: _, _, h => by cases h
  | .bool _ :: _, _, h => by cases h
  | .str _ :: _, _, h => by cases h
  | .list _ :: _, _, h => by cases h
  | .tuple _ :: _, _, h => by cases h
  | .dict _ :: _, _, h => by cases h
theorem unB_eq : ∀ {ds : List PD} {ns : List Bool}, unB ds = some ns → ds = ns.map PyData.bool
  | [], ns, h => by cases h; rfl
  | .bool i :: r, ns, h => by
    unfold unB at h
    cases q : unB r with
    | none => rw [q] at h; cases h
    | some ms =>
      rw [q] at h
      cases h
      rw [unB_eq q]
      rfl
  | .none :: _, _, h => by cases h
  | .int _ :: _, _, h => by cases h
  | .str _ :: _, _, h => by cases h
  | .list _ :: _, _, h => by cases h
  | .tuple _ :: _, _, h => by cases h
  | .dict _ :: _, _, h => by cases h
theorem RpAll.ints : ∀ {vs : List V} {ns : List Int}, RpAll H vs (ns.map PyData.int) → vs = ns.map V.int
  | _, [], .nil => rfl
  | _, n :: ns, .cons (.int _) r => by rw [RpAll.ints r]; rfl
theorem RpAll.bools : ∀ {vs : List V} {bs : List Bool}, RpAll H vs (bs.map PyData.bool) → vs = bs.map V.bl
  | _, [], .nil => rfl
  | _, n :: ns, .cons (.bl _) r => by rw [RpAll.bools r]; rfl
theorem RpAll.ofInts : ∀ (ns : List Int), RpAll H (ns.map V.int) (ns.map PyData.int)
  | [] => .nil
  | n :: ns => .cons (.int n) (RpAll.ofInts ns)
end
/-! ### slots -/
abbrev VE := List (Option PD)
def En (H : Hp) (σ : L2.St) (ρ : VE) : Prop := σ.length = ρ.length ∧ ∀ (i : Nat) (d : PD), ρ[i]? = some (some d) → ∃ v, σ[i]? = some (some v) ∧ Rp H v d
section
variable {H H' : Hp} {σ : L2.St} {ρ : VE}
theorem En.ex (h : En H σ ρ) (e : Ex H H') : En H' σ ρ := ⟨h.1, fun i d hi => let ⟨v, h1, h2⟩ := h.2 i d hi; ⟨v, h1, h2.ex e⟩⟩
theorem En.set (h : En H σ ρ) (j : Nat) {v : V} {d : PD} (hr : Rp H v d) : En H (σ.set j (some v)) (ρ.set j (some d)) := by
  refine ⟨by rw [List.length_set, List.length_set]; exact h.1, fun i q hi => ?_⟩
  by_cases c : j = i
  · subst c
    have hl : j < ρ.length := by
      have := (List.getElem?_eq_some_iff.mp hi).1
      simpa using this
    rw [List.getElem?_set_self hl] at hi
    cases hi
    exact ⟨v, List.getElem?_set_self (by rw [h.1]; exact hl), hr⟩
  · rw [List.getElem?_set_ne c] at hi
    rw [List.getElem?_set_ne c]
    exact h.2 i q hi
theorem En.clear (h : En H σ ρ) (j : Nat) (o : Option V) : En H (σ.set j o) (ρ.set j none) := by
  refine ⟨by rw [List.length_set, List.length_set]; exact h.1, fun i q hi => ?_⟩
  by_cases c : j = i
  · subst c
    have hl : j < ρ.length := by
      have := (List.getElem?_eq_some_iff.mp hi).1
      simpa using this
    rw [List.getElem?_set_self hl] at hi
    cases hi
  · rw [List.getElem?_set_ne c] at hi
    rw [List.getElem?_set_ne c]
    exact h.2 i q hi
theorem en_nil : En H [] [] := ⟨rfl, fun i r h => by simp at h⟩
theorem en_cons {o : Option V} {r : Option PD} (h : ∀ d, r = some d → ∃ v, o = some v ∧ Rp H v d) (t : En H σ ρ) : En H (o :: σ) (r :: ρ) := by
  refine ⟨by rw [List.length_cons, List.length_cons, t.1], fun i q hi => ?_⟩
  cases i with
  | zero =>
    have e : r = some q := by simpa using hi
    obtain ⟨v, e2, rv⟩ := h q e
    exact ⟨v, by rw [e2]; rfl, rv⟩
  | succ i => exact t.2 i q (by simpa using hi)
theorem en_none : ∀ n : Nat, En H (List.replicate n none) (List.replicate n none)
  | 0 => en_nil
  | n + 1 => by
    rw [List.replicate_succ, List.replicate_succ]
    exact en_cons (fun d h => nomatch h) (en_none n)
theorem en_args {n : Nat} : ∀ {vs : List V} {ds : List PD}, RpAll H vs ds → En H (vs.map some ++ List.replicate n none) (ds.map some ++ List.replicate n none)
  | _, _, .nil => en_none n
  | _, _, .cons h t => en_cons (fun d e => by cases e; exact ⟨_, rfl, h⟩) (en_args t)
end
/-! ### pure readings -/
def Ed (te : TE) (ρ : VE) (d : PD) : Prop := ∀ S σ H, Al S H → En (hid S H) σ ρ → ∀ Q : VK, (∀ v H2, Ex H H2 → Rp (hid S H2) v d → Q v H2) → te σ H Q
def Et (tt : TT) (ρ : VE) (b : Bool) : Prop := ∀ S σ H, Al S H → En (hid S H) σ ρ → ∀ Q : Bool → Hp → Prop, (∀ H2, Ex H H2 → Q b H2) → tt σ H Q
def Ea (ta : TA) (ρ : VE) (ds : List PD) : Prop := ∀ S σ H, Al S H → En (hid S H) σ ρ → ∀ Q : List V → Hp → Prop, (∀ vs H2, Ex H H2 → RpAll (hid S H2) vs ds → Q vs H2) → ta σ H Q
def Ro (r : R2) (x y z : PD) : Prop := ∀ S H vx vy, Al S H → Rp (hid S H) vx x → Rp (hid S H) vy y → ∀ Q : VK, (∀ v H2, Ex H H2 → Rp (hid S H2) v z → Q v H2) → r vx vy H Q
def Ru (r : V → Hp → VK → Prop) (x z : PD) : Prop := ∀ S H vx, Al S H → Rp (hid S H) vx x → ∀ Q : VK, (∀ v H2, Ex H H2 → Rp (hid S H2) v z → Q v H2) → r vx H Q
def Rc (r : List V → Hp → VK → Prop) (xs : List PD) (z : PD) : Prop := ∀ S H vs, Al S H → RpAll (hid S H) vs xs → ∀ Q : VK, (∀ v H2, Ex H H2 → Rp (hid S H2) v z → Q v H2) → r vs H Q
abbrev XE := VE → Option PD
abbrev XT := VE → Option Bool
abbrev XA := VE → Option (List PD)
def SE (te : TE) (x : XE) : Prop := ∀ ρ d, x ρ = some d → Ed te ρ d
def ST (tt : TT) (x : XT) : Prop := ∀ ρ b, x ρ = some b → Et tt ρ b
def SA (ta : TA) (x : XA) : Prop := ∀ ρ ds, x ρ = some ds → Ea ta ρ ds
def SO (r : R2) (f : PD → PD → Option PD) : Prop := ∀ x y z, f x y = some z → Ro r x y z
def SU (r : V → Hp → VK → Prop) (f : PD → Option PD) : Prop := ∀ x z, f x = some z → Ru r x z
def SC (r : List V → Hp → VK → Prop) (f : List PD → Option PD) : Prop := ∀ xs z, f xs = some z → Rc r xs z
theorem bind_some {α β : Type} {a : Option α} {f : α → Option β} {z : β} (h : a.bind f = some z) : ∃ x, a = some x ∧ f x = some z := by
  cases a with
  | none => cases h
  | some x => exact ⟨x, rfl, h⟩
def xVar (i : Nat) : XE := fun ρ => (ρ[i]?).bind id
def xC (d : PD) : XE := fun _ => some d
def xOp (f : PD → PD → Option PD) (a b : XE) : XE := fun ρ => (a ρ).bind fun x => (b ρ).bind fun y => f x y
def xUn (f : PD → Option PD) (a : XE) : XE := fun ρ => (a ρ).bind f
def xNil : XA := fun _ => some []
def xCons (a : XE) (as : XA) : XA := fun ρ => (a ρ).bind fun x => (as ρ).bind fun xs => some (x :: xs)
def xTup (as : XA) : XE := fun ρ => (as ρ).bind fun ds => if ds.length ≤ 100000 then some (.tuple ds) else none
def xLst (as : XA) : XE := fun ρ => (as ρ).bind fun ds => if ds.length ≤ 100000 then some (.list ds) else none
def xCB (f : List PD → Option PD) (as : XA) : XE := fun ρ => (as ρ).bind f
def isB : PD → Option Bool
  | .bool b => some b
  | _ => none
theorem isB_eq {d : PD} {b : Bool} (h : isB d = some b) : d = .bool b := by
  cases d with
  | bool c => cases h; rfl
  | _ => cases h
def xB (a : XE) : XT := fun ρ => (a ρ).bind isB
def xTAnd (a b : XT) : XT := fun ρ => (a ρ).bind fun c => if c = true then b ρ else some false
def xTOr (a b : XT) : XT := fun ρ => (a ρ).bind fun c => if c = true then some true else b ρ
def xTNot (a : XT) : XT := fun ρ => (a ρ).bind fun c => some (!c)
def xYes : XT := fun _ => some true
def xAnd (a b : XE) : XE := fun ρ => ((a ρ).bind isB).bind fun c => if c = true then b ρ else some (.bool false)
def xOr (a b : XE) : XE := fun ρ => ((a ρ).bind isB).bind fun c => if c = true then some (.bool true) else b ρ
def xNot (a : XE) : XE := fun ρ => ((a ρ).bind isB).bind fun c => some (.bool (!c))
def xIf (c : XT) (a b : XE) : XE := fun ρ => (c ρ).bind fun k => if k = true then a ρ else b ρ
def xChain (f g : PD → PD → Option PD) (a b c : XE) : XE := fun ρ => (a ρ).bind fun x => (b ρ).bind fun y => ((f x y).bind isB).bind fun k => if k = true then (c ρ).bind fun z => g y z else some (.bool false)
section
variable {ta tb tc te : TE} {t u : TT} {ts : TA} {a b c x : XE} {p q : XT} {as : XA} {r r' : R2} {f g : PD → PD → Option PD}
theorem se_var {i : Nat} : SE (tVar i) (xVar i) := fun ρ d h S σ H _ en Q q => by
  obtain ⟨o, h1, h2⟩ := bind_some h
  cases h2
  obtain ⟨v, e, rv⟩ := en.2 i d h1
  exact ⟨v, e, q v H (Ex.refl H) rv⟩
theorem se_int {i : Int} : SE (tC (.int i)) (xC (.int i)) := fun ρ d h S σ H _ _ Q q => by cases h; exact q _ H (Ex.refl H) (.int i)
theorem se_bl {b : Bool} : SE (tC (.bl b)) (xC (.bool b)) := fun ρ d h S σ H _ _ Q q => by cases h; exact q _ H (Ex.refl H) (.bl b)
theorem se_non : SE (tC .non) (xC .none) := fun ρ d h S σ H _ _ Q q => by cases h; exact q _ H (Ex.refl H) .non
theorem se_str {s : Str} : SE (tC (.str s)) (xC (.str s)) := fun ρ d h S σ H _ _ Q q => by cases h; exact q _ H (Ex.refl H) (.str s)
theorem se_op (hr : SO r f) (ha : SE ta a) (hb : SE tb b) : SE (tOp r ta tb) (xOp f a b) := fun ρ d h S σ H al en Q q => by
  obtain ⟨x, h1, h⟩ := bind_some h
  obtain ⟨y, h2, h⟩ := bind_some h
  exact ha ρ x h1 S σ H al en _ fun vx H1 e1 rx => hb ρ y h2 S σ H1 (al.ex e1) (en.ex (hid_ex e1)) _ fun vy H2 e2 ry =>
    hr x y d h S H2 vx vy ((al.ex e1).ex e2) (rx.ex (hid_ex e2)) ry Q fun v H3 e3 rv => q v H3 ((e1.trans e2).trans e3) rv
theorem se_un {r : V → Hp → VK → Prop} {f : PD → Option PD} (hr : SU r f) (ha : SE ta a) : SE (tUn r ta) (xUn f a) := fun ρ d h S σ H al en Q q => by
  obtain ⟨x, h1, h⟩ := bind_some h
  exact ha ρ x h1 S σ H al en _ fun vx H1 e1 rx => hr x d h S H1 vx (al.ex e1) rx Q fun v H3 e3 rv => q v H3 (e1.trans e3) rv
theorem sa_nil : SA tNil xNil := fun ρ ds h S σ H _ _ Q q => by cases h; exact q [] H (Ex.refl H) .nil
theorem sa_cons (ha : SE ta a) (hs : SA ts as) : SA (tCons ta ts) (xCons a as) := fun ρ ds h S σ H al en Q q => by
  obtain ⟨x, h1, h⟩ := bind_some h
  obtain ⟨xs, h2, h⟩ := bind_some h
  cases h
  exact ha ρ x h1 S σ H al en _ fun v H1 e1 rv => hs ρ xs h2 S σ H1 (al.ex e1) (en.ex (hid_ex e1)) _ fun vs H2 e2 rs => q (v :: vs) H2 (e1.trans e2) (.cons (rv.ex (hid_ex e2)) rs)
theorem se_tup (hs : SA ts as) : SE (tTupF ts) (xTup as) := fun ρ d h S σ H al en Q q => by
  obtain ⟨ds, h1, h⟩ := bind_some h
  by_cases hl : ds.length ≤ 100000
  · rw [if_pos hl] at h
    cases h
    refine hs ρ ds h1 S σ H al en _ fun vs H1 e1 ra => ⟨by rw [ra.length]; exact Evl.sz_of hl, fun p o hp pl => q _ _ (e1.trans (Ex.new hp)) (.tup (new_ok (al.ex e1) hp) pl (ra.ex (hid_ex (Ex.new hp))))⟩
  · rw [if_neg hl] at h; cases h
theorem se_lst (hs : SA ts as) : SE (tLst ts) (xLst as) := fun ρ d h S σ H al en Q q => by
  obtain ⟨ds, h1, h⟩ := bind_some h
  by_cases hl : ds.length ≤ 100000
  · rw [if_pos hl] at h
    cases h
    refine hs ρ ds h1 S σ H al en _ fun vs H1 e1 ra => ⟨by rw [ra.length]; exact Evl.sz_of hl, fun p hp => q _ _ (e1.trans (Ex.new hp)) (.lst (new_ok (al.ex e1) hp) (ra.ex (hid_ex (Ex.new hp))))⟩
  · rw [if_neg hl] at h; cases h
theorem se_cb {r : List V → Hp → VK → Prop} {f : List PD → Option PD} (hr : SC r f) (hs : SA ts as) : SE (tCB r ts) (xCB f as) := fun ρ d h S σ H al en Q q => by
  obtain ⟨ds, h1, h⟩ := bind_some h
  exact hs ρ ds h1 S σ H al en _ fun vs H1 e1 rv => hr ds d h S H1 vs (al.ex e1) rv Q fun v H2 e2 r2 => q v H2 (e1.trans e2) r2
theorem st_B (ha : SE ta a) : ST (tB ta) (xB a) := fun ρ b h S σ H al en Q q => by
  obtain ⟨x, h1, h⟩ := bind_some h
  have e := isB_eq h
  subst e
  exact ha ρ _ h1 S σ H al en _ fun v H1 e1 rv => by cases rv; exact ⟨b, rfl, q H1 e1⟩
theorem st_test (ha : SE ta a) : ST (tTest ta) (xB a) := fun ρ b h S σ H al en Q q => by
  obtain ⟨x, h1, h⟩ := bind_some h
  have e := isB_eq h
  subst e
  exact ha ρ _ h1 S σ H al en _ fun v H1 e1 rv => by cases rv; exact ⟨b, rfl, q H1 e1⟩
theorem st_yes : ST tYes xYes := fun ρ b h S σ H al en Q q => by cases h; exact q H (Ex.refl H)
theorem st_not (ht : ST t p) : ST (tNot t) (xTNot p) := fun ρ b h S σ H al en Q q => by
  obtain ⟨c, h1, h⟩ := bind_some h
  cases h
  exact ht ρ c h1 S σ H al en _ fun H1 e1 => q H1 e1
theorem st_and (ht : ST t p) (hu : ST u q) : ST (tAnd t u) (xTAnd p q) := fun ρ b h S σ H al en Q k => by
  obtain ⟨c, h1, h⟩ := bind_some h
  refine ht ρ c h1 S σ H al en _ fun H1 e1 => ?_
  cases c with
  | true => exact hu ρ b h S σ H1 (al.ex e1) (en.ex (hid_ex e1)) Q fun H2 e2 => k H2 (e1.trans e2)
  | false => cases h; exact k H1 e1
theorem st_or (ht : ST t p) (hu : ST u q) : ST (tOr t u) (xTOr p q) := fun ρ b h S σ H al en Q k => by
  obtain ⟨c, h1, h⟩ := bind_some h
  refine ht ρ c h1 S σ H al en _ fun H1 e1 => ?_
  cases c with
  | true => cases h; exact k H1 e1
  | false => exact hu ρ b h S σ H1 (al.ex e1) (en.ex (hid_ex e1)) Q fun H2 e2 => k H2 (e1.trans e2)
theorem se_and (ha : SE ta a) (hb : SE tb b) : SE (tAndV ta tb) (xAnd a b) := fun ρ d h S σ H al en Q q => by
  obtain ⟨c, h1, h⟩ := bind_some h
  obtain ⟨x, h0, h1⟩ := bind_some h1
  have e := isB_eq h1
  subst e
  refine ha ρ _ h0 S σ H al en _ fun v H1 e1 rv => ?_
  cases rv
  refine ⟨c, rfl, ?_⟩
  cases c with
  | true => exact hb ρ d h S σ H1 (al.ex e1) (en.ex (hid_ex e1)) Q fun v H2 e2 r2 => q v H2 (e1.trans e2) r2
  | false => cases h; exact q _ H1 e1 (.bl false)
theorem se_or (ha : SE ta a) (hb : SE tb b) : SE (tOrV ta tb) (xOr a b) := fun ρ d h S σ H al en Q q => by
  obtain ⟨c, h1, h⟩ := bind_some h
  obtain ⟨x, h0, h1⟩ := bind_some h1
  have e := isB_eq h1
  subst e
  refine ha ρ _ h0 S σ H al en _ fun v H1 e1 rv => ?_
  cases rv
  refine ⟨c, rfl, ?_⟩
  cases c with
  | true => cases h; exact q _ H1 e1 (.bl true)
  | false => exact hb ρ d h S σ H1 (al.ex e1) (en.ex (hid_ex e1)) Q fun v H2 e2 r2 => q v H2 (e1.trans e2) r2
theorem se_not (ha : SE ta a) : SE (tNotV ta) (xNot a) := fun ρ d h S σ H al en Q q => by
  obtain ⟨c, h1, h⟩ := bind_some h
  obtain ⟨x, h0, h1⟩ := bind_some h1
  have e := isB_eq h1
  subst e
  cases h
  refine ha ρ _ h0 S σ H al en _ fun v H1 e1 rv => ?_
  cases rv
  exact ⟨c, rfl, q _ H1 e1 (.bl _)⟩
theorem se_if (ht : ST t p) (ha : SE ta a) (hb : SE tb b) : SE (tIf t ta tb) (xIf p a b) := fun ρ d h S σ H al en Q q => by
  obtain ⟨c, h1, h⟩ := bind_some h
  refine ht ρ c h1 S σ H al en _ fun H1 e1 => ?_
  cases c with
  | true => exact ha ρ d h S σ H1 (al.ex e1) (en.ex (hid_ex e1)) Q fun v H2 e2 r2 => q v H2 (e1.trans e2) r2
  | false => exact hb ρ d h S σ H1 (al.ex e1) (en.ex (hid_ex e1)) Q fun v H2 e2 r2 => q v H2 (e1.trans e2) r2
theorem se_chain (hr : SO r f) (hr' : SO r' g) (ha : SE ta a) (hb : SE tb b) (hc : SE tc c) : SE (tChain r r' ta tb tc) (xChain f g a b c) := fun ρ d h S σ H al en Q q => by
  obtain ⟨x, h1, h⟩ := bind_some h
  obtain ⟨y, h2, h⟩ := bind_some h
  obtain ⟨k, h3, h⟩ := bind_some h
  obtain ⟨w, h3, h4⟩ := bind_some h3
  have e := isB_eq h4
  subst e
  refine ha ρ x h1 S σ H al en _ fun vx H1 e1 rx => hb ρ y h2 S σ H1 (al.ex e1) (en.ex (hid_ex e1)) _ fun vy H2 e2 ry => hr x y _ h3 S H2 vx vy ((al.ex e1).ex e2) (rx.ex (hid_ex e2)) ry _ fun v H3 e3 rv => ?_
  cases rv
  refine ⟨k, rfl, ?_⟩
  have e13 := (e1.trans e2).trans e3
  cases k with
  | true =>
    obtain ⟨z, h5, h⟩ := bind_some h
    refine iteT (hc ρ z h5 S σ H3 (al.ex e13) (en.ex (hid_ex e13)) _ fun vz H4 e4 rz => ?_)
    exact hr' y z d h S H4 vy vz ((al.ex e13).ex e4) (ry.ex ((hid_ex e3).trans (hid_ex e4))) rz Q fun w H5 e5 rw' => q w H5 ((e13.trans e4).trans e5) rw'
  | false => cases h; exact iteF (q _ H3 e13 (.bl false))
/-! a weaker reading: one of two -/
theorem se_inl {ta tb : TE} (h : SE ta a) : SE (fun σ H Q => ta σ H Q ∨ tb σ H Q) a := fun ρ d e S σ H al en Q q => .inl (h ρ d e S σ H al en Q q)
end
end Uv

namespace Uv
open PySem PySem.Spec PyProof.Rows L2
open Evl (Ex)
variable [kk : KK]
/-! ### one rule of two -/
theorem OpR.or {X : Cx} {f : Value → Value → Sem Value} {r r' : R2} (h : OpR X f r) (h' : OpR X f r') : OpR X f (fun x y H Q => r x y H Q ∨ r' x y H Q) := fun pins s σ H x y v u Q I rx ry q =>
  q.elim (h pins s σ H x y v u Q I rx ry) (h' pins s σ H x y v u Q I rx ry)
theorem CallR.or {X : Cx} {f : Value} {r r' : List V → Hp → VK → Prop} (h : CallR X f r) (h' : CallR X f r') : CallR X f (fun xs H Q => r xs H Q ∨ r' xs H Q) := fun pins s σ H xs us Q I rx q =>
  q.elim (h pins s σ H xs us Q I rx) (h' pins s σ H xs us Q I rx)
theorem SlR.or {X : Cx} {r r' : V → Option Int → Option Int → Hp → VK → Prop} (h : SlR X r) (h' : SlR X r') : SlR X (fun x lo hi H Q => r x lo hi H Q ∨ r' x lo hi H Q) := fun pins s σ H x v vl vu lo hi sl Q I rx hs pl pu q =>
  q.elim (h pins s σ H x v vl vu lo hi sl Q I rx hs pl pu) (h' pins s σ H x v vl vu lo hi sl Q I rx hs pl pu)
theorem PE.or {X : Cx} {e : Expr} {t u : TE} (h : PE X e t) (h' : PE X e u) : PE X e (fun σ H Q => t σ H Q ∨ u σ H Q) := ⟨fun pins s σ H Q I q => q.elim (h.run pins s σ H Q I) (h'.run pins s σ H Q I)⟩
theorem PI.or {X : Cx} {tg e : Expr} {t u : TI} (h : PI X tg e t) (h' : PI X tg e u) : PI X tg e (fun σ H Q => t σ H Q ∨ u σ H Q) := ⟨fun pins s σ H Q I q => q.elim (h.run pins s σ H Q I) (h'.run pins s σ H Q I)⟩
/-! ### short names -/
abbrev oSub : R2 := rI0 fun i j => .int (i - j)
abbrev oDivW : R2 := rI CDivW fun i j => .int (i / j)
abbrev oMod : R2 := rI (fun _ j => 0 < j) fun i j => .int (i % j)
abbrev oPow : R2 := rI CPow fun i j => .int (i ^ j.toNat)
abbrev oLt : R2 := rI0 fun i j => .bl (decide (i < j))
abbrev oLe : R2 := rI0 fun i j => .bl (decide (i ≤ j))
abbrev oGt : R2 := rI0 fun i j => .bl (decide (j < i))
abbrev oGe : R2 := rI0 fun i j => .bl (decide (j ≤ i))
abbrev oIsN : R2 := fun x y H Q => y = .non ∧ Q (.bl (decide (x = .non))) H
abbrev oNotN : R2 := fun x y H Q => y = .non ∧ Q (.bl (!decide (x = .non))) H
abbrev oNeg : V → Hp → VK → Prop := rU fun i => .int (-i)
abbrev rAbsQ : List V → Hp → VK → Prop := fun xs H Q => ∃ i, xs = [.int i] ∧ Q (.int (if i < 0 then -i else i)) H
abbrev rIntQ : List V → Hp → VK → Prop := fun xs H Q => (∃ i, xs = [.int i] ∧ Q (.int i) H) ∨ ∃ k, xs = [.bl k] ∧ Q (.int (if k then 1 else 0)) H
section
/-! ### + -/
def addP : PD → PD → Option PD
  | .int i, .int j => some (.int (i + j))
  | .list xs, .list ys => if xs.length + ys.length ≤ 100000 then some (.list (xs ++ ys)) else none
  | .tuple xs, .tuple ys => if xs.length + ys.length ≤ 100000 then some (.tuple (xs ++ ys)) else none
  | _, _ => none
def rAddU (K : PySem.W.Frag) : R2 := fun x y H Q => rI0 (fun i j => .int (i + j)) x y H Q ∨ (rCat x y H Q ∨ rCatF K x y H Q)
theorem op_addU {X : Cx} : OpR X (binaryOp .Add) (rAddU X.K) := OpR.or op_add (OpR.or op_cat op_catF)
theorem so_add : SO (rAddU K) addP := fun x y z h S H vx vy al rx ry Q q => by
  cases rx with
  | int i =>
    cases ry with
    | int j =>
      cases h
      exact .inl ⟨i, j, rfl, rfl, q _ H (Ex.refl H) (.int _)⟩
    | _ => cases h
  | @lst a xs ds ha ra =>
    cases ry with
    | @lst b ys es hb rb =>
      have h : (if ds.length + es.length ≤ 100000 then some (PyData.list (ds ++ es)) else none) = some z := h
      by_cases c : ds.length + es.length ≤ 100000
      · rw [if_pos c] at h
        cases h
        refine .inr (.inl ⟨a, b, xs, ys, rfl, rfl, hid_le _ _ ha, hid_le _ _ hb, by rw [ra.length, rb.length]; exact Evl.sz_of c, fun p hp => q _ _ (Ex.new hp) (.lst (new_ok al hp) ((ra.append rb).ex (hid_ex (Ex.new hp))))⟩)
      · rw [if_neg c] at h; cases h
    | _ => cases h
  | @tup a o xs ds ha pa ra =>
    cases ry with
    | @tup b o' ys es hb pb rb =>
      have h : (if ds.length + es.length ≤ 100000 then some (PyData.tuple (ds ++ es)) else none) = some z := h
      by_cases c : ds.length + es.length ≤ 100000
      · rw [if_pos c] at h
        cases h
        refine .inr (.inr ⟨a, b, xs, ys, rfl, rfl, .inl (.inr ⟨_, hid_le _ _ ha⟩), .inl (.inr ⟨_, hid_le _ _ hb⟩), by rw [ra.length, rb.length]; exact Evl.sz_of c, fun e => ?_, fun _ e => ?_, fun _ _ p o hp pl => q _ _ (Ex.new hp) (.tup (new_ok al hp) pl ((ra.append rb).ex (hid_ex (Ex.new hp))))⟩)
        · subst e
          cases ra
          exact q _ H (Ex.refl H) (.tup hb pb rb)
        · subst e
          cases rb
          exact q _ H (Ex.refl H) (by rw [List.append_nil]; exact .tup ha pa ra)
      · rw [if_neg c] at h; cases h
    | _ => cases h
  | _ => cases h
/-! ### numbers -/
def intF (f : Int → Int → Option PD) : PD → PD → Option PD
  | .int i, .int j => f i j
  | _, _ => none
theorem intF_eq {f : Int → Int → Option PD} {x y z : PD} (h : intF f x y = some z) : ∃ i j, x = .int i ∧ y = .int j ∧ f i j = some z := by
  cases x with
  | int i =>
    cases y with
    | int j => exact ⟨i, j, rfl, rfl, h⟩
    | _ => cases h
  | _ => cases h
theorem so_rI {C : Int → Int → Prop} {g : Int → Int → Int} {f : Int → Int → Option PD} (hf : ∀ i j z, f i j = some z → C i j ∧ z = .int (g i j)) : SO (rI C fun i j => .int (g i j)) (intF f) := fun x y z h S H vx vy al rx ry Q q => by
  obtain ⟨i, j, rfl, rfl, h⟩ := intF_eq h
  obtain ⟨h1, rfl⟩ := hf i j z h
  cases rx; cases ry
  exact ⟨i, j, rfl, rfl, h1, q _ H (Ex.refl H) (.int _)⟩
theorem so_rI0 {g : Int → Int → Int} : SO (rI0 fun i j => .int (g i j)) (intF fun i j => some (.int (g i j))) := fun x y z h S H vx vy al rx ry Q q => by
  obtain ⟨i, j, rfl, rfl, h⟩ := intF_eq h
  cases h
  cases rx; cases ry
  exact ⟨i, j, rfl, rfl, q _ H (Ex.refl H) (.int _)⟩
theorem so_rIb {g : Int → Int → Bool} : SO (rI0 fun i j => .bl (g i j)) (intF fun i j => some (.bool (g i j))) := fun x y z h S H vx vy al rx ry Q q => by
  obtain ⟨i, j, rfl, rfl, h⟩ := intF_eq h
  cases h
  cases rx; cases ry
  exact ⟨i, j, rfl, rfl, q _ H (Ex.refl H) (.bl _)⟩
def subP : PD → PD → Option PD := intF fun i j => some (.int (i - j))
def divP : PD → PD → Option PD := intF fun i j => if 0 < j ∧ j < 2 ^ 64 then some (.int (i / j)) else none
def modP : PD → PD → Option PD := intF fun i j => if 0 < j then some (.int (i % j)) else none
def powP : PD → PD → Option PD := intF fun i j => if 0 ≤ j ∧ j ≤ 1000 ∧ -(2 ^ 63) < i ∧ i < 2 ^ 63 then some (.int (i ^ j.toNat)) else none
def ltP : PD → PD → Option PD := intF fun i j => some (.bool (decide (i < j)))
def leP : PD → PD → Option PD := intF fun i j => some (.bool (decide (i ≤ j)))
def gtP : PD → PD → Option PD := intF fun i j => some (.bool (decide (j < i)))
def geP : PD → PD → Option PD := intF fun i j => some (.bool (decide (j ≤ i)))
theorem so_sub : SO oSub subP := so_rI0
theorem so_lt : SO oLt ltP := so_rIb
theorem so_le : SO oLe leP := so_rIb
theorem so_gt : SO oGt gtP := so_rIb
theorem so_ge : SO oGe geP := so_rIb
theorem so_div : SO oDivW divP := so_rI fun i j z h => by
  by_cases c : 0 < j ∧ j < 2 ^ 64
  · rw [if_pos c] at h
    cases h
    exact ⟨⟨c.1, Nat.lt_of_lt_of_le (PySem.Flt.log2_lt_of (k := 64) (by decide) (by omega)) (by decide)⟩, rfl⟩
  · rw [if_neg c] at h; cases h
theorem so_mod : SO oMod modP := so_rI fun i j z h => by
  by_cases c : 0 < j
  · rw [if_pos c] at h
    cases h
    exact ⟨c, rfl⟩
  · rw [if_neg c] at h; cases h
theorem so_pow : SO oPow powP := so_rI fun i j z h => by
  by_cases c : 0 ≤ j ∧ j ≤ 1000 ∧ -(2 ^ 63) < i ∧ i < 2 ^ 63
  · rw [if_pos c] at h
    cases h
    exact ⟨⟨c.1, by omega, by omega⟩, rfl⟩
  · rw [if_neg c] at h; cases h
def mulP : PD → PD → Option PD
  | .int i, .int j => if (-(2 ^ 64) < i ∧ i < 2 ^ 64) ∨ (-(2 ^ 64) < j ∧ j < 2 ^ 64) then some (.int (i * j)) else none
  | .list xs, .int j => if 0 ≤ j ∧ j ≤ 100000 ∧ xs.length * j.toNat ≤ 100000 then some (.list (List.replicate j.toNat xs).flatten) else none
  | _, _ => none
def rMulU : R2 := fun x y H Q => rI CMul (fun i j => .int (i * j)) x y H Q ∨ rRep x y H Q
theorem op_mulU {X : Cx} : OpR X (binaryOp .Mult) rMulU := OpR.or op_mul op_rep
theorem so_mul : SO rMulU mulP := fun x y z h S H vx vy al rx ry Q q => by
  cases rx with
  | int i =>
    cases ry with
    | int j =>
      have h : (if (-(2 ^ 64) < i ∧ i < 2 ^ 64) ∨ (-(2 ^ 64) < j ∧ j < 2 ^ 64) then some (PyData.int (i * j)) else none) = some z := h
      by_cases c : (-(2 ^ 64) < i ∧ i < 2 ^ 64) ∨ (-(2 ^ 64) < j ∧ j < 2 ^ 64)
      · rw [if_pos c] at h
        cases h
        exact .inl ⟨i, j, rfl, rfl, c, q _ H (Ex.refl H) (.int _)⟩
      · rw [if_neg c] at h; cases h
    | _ => cases h
  | @lst a xs ds ha ra =>
    cases ry with
    | int j =>
      have h : (if 0 ≤ j ∧ j ≤ 100000 ∧ ds.length * j.toNat ≤ 100000 then some (PyData.list (List.replicate j.toNat ds).flatten) else none) = some z := h
      by_cases c : 0 ≤ j ∧ j ≤ 100000 ∧ ds.length * j.toNat ≤ 100000
      · rw [if_pos c] at h
        cases h
        refine .inr ⟨_, _, _, rfl, rfl, hid_le _ _ ha, by omega, by omega, ?_, fun p hp => q _ _ (Ex.new hp) (.lst (new_ok al hp) ((ra.rep j.toNat).ex (hid_ex (Ex.new hp))))⟩
        rw [ra.length]
        exact Evl.sz_of c.2.2
      · rw [if_neg c] at h; cases h
    | _ => cases h
  | _ => cases h
def negP : PD → Option PD
  | .int i => some (.int (-i))
  | _ => none
theorem su_neg : SU oNeg negP := fun x z h S H vx al rx Q q => by
  cases rx with
  | int i => cases h; exact ⟨i, rfl, q _ H (Ex.refl H) (.int _)⟩
  | _ => cases h
/-! ### equality, None, membership -/
def eqP (x y : PD) : Option PD := if SeqAt.shaped x = true ∧ SeqAt.shaped y = true then some (.bool (PyData.eqv x y)) else none
def neP (x y : PD) : Option PD := if SeqAt.shaped x = true ∧ SeqAt.shaped y = true then some (.bool (!PyData.eqv x y)) else none
theorem nodict {d : PD} (h : SeqAt.shaped d = true) : d.hasDict = false := by
  unfold SeqAt.shaped at h
  rw [Bool.and_eq_true] at h
  exact PyData.hasDict_of_canLay d h.1
theorem so_eq : SO (rEqD K) eqP := fun x y z h S H vx vy al rx ry Q q => by
  unfold eqP at h
  by_cases c : SeqAt.shaped x = true ∧ SeqAt.shaped y = true
  · rw [if_pos c] at h
    cases h
    exact ⟨x, y, (rx.ex hid_le).dp (nodict c.1), (ry.ex hid_le).dp (nodict c.2), c.1, c.2, q _ H (Ex.refl H) (.bl _)⟩
  · rw [if_neg c] at h; cases h
theorem so_ne : SO (rNeD K) neP := fun x y z h S H vx vy al rx ry Q q => by
  unfold neP at h
  by_cases c : SeqAt.shaped x = true ∧ SeqAt.shaped y = true
  · rw [if_pos c] at h
    cases h
    exact ⟨x, y, (rx.ex hid_le).dp (nodict c.1), (ry.ex hid_le).dp (nodict c.2), c.1, c.2, q _ H (Ex.refl H) (.bl _)⟩
  · rw [if_neg c] at h; cases h
def isNone : PD → Bool
  | .none => true
  | _ => false
def isP : PD → PD → Option PD
  | x, .none => some (.bool (isNone x))
  | _, _ => none
def isntP : PD → PD → Option PD
  | x, .none => some (.bool (!isNone x))
  | _, _ => none
theorem isNone_of {H : Hp} {v : V} {d : PD} (r : Rp H v d) : decide (v = .non) = isNone d := by cases r <;> rfl
theorem so_is : SO oIsN isP := fun x y z h S H vx vy al rx ry Q q => by
  cases ry with
  | non =>
    cases h
    exact ⟨rfl, q _ H (Ex.refl H) (by rw [isNone_of rx]; exact .bl _)⟩
  | _ => cases h
theorem so_isnt : SO oNotN isntP := fun x y z h S H vx vy al rx ry Q q => by
  cases ry with
  | non =>
    cases h
    exact ⟨rfl, q _ H (Ex.refl H) (by rw [isNone_of rx]; exact .bl _)⟩
  | _ => cases h
/-- x in a tuple whose items are data of any depth -/
def rInTu (K : PySem.W.Frag) : R2 := fun x y H Q => ∃ d ds, Dp K H x d ∧ Dp K H y (.tuple ds) ∧ SeqAt.shaped d = true ∧ SeqAt.shaped (.tuple ds) = true ∧ Q (.bl (ds.any fun z => PyData.eqv z d)) H
theorem op_inTu {X : Cx} (hu : X.A.units + 65 < cLine) : OpR X (compareOp .In) (rInTu X.K) := by
  intro pins s σ H x y v u Q I rx ry h
  obtain ⟨d, ds, h1, h2, s1, s2, q⟩ := h
  obtain ⟨as, r1⟩ := Dp.reads I d x v h1 rx
  obtain ⟨bs, r2⟩ := Dp.reads I (.tuple ds) y u h2 ry
  exact SeqAt.in_tuple_reads r2 r1 (SeqAt.canLay_of_shaped s2) (SeqAt.canLay_of_shaped s1) (room_in_shaped s1 hu) ⟨.bl _, H, I, rfl, q⟩
def rNotInTu (K : PySem.W.Frag) : R2 := fun x y H Q => ∃ d ds, Dp K H x d ∧ Dp K H y (.tuple ds) ∧ SeqAt.shaped d = true ∧ SeqAt.shaped (.tuple ds) = true ∧ Q (.bl (!ds.any fun z => PyData.eqv z d)) H
def rInU (K : PySem.W.Frag) : R2 := fun x y H Q => rInD K x y H Q ∨ rInTu K x y H Q
theorem op_inU {X : Cx} (hu : X.A.units + 65 < cLine) : OpR X (compareOp .In) (rInU X.K) := OpR.or (op_inD hu) (op_inTu hu)
def inP (x y : PD) : Option PD := if SeqAt.shaped x = true ∧ SeqAt.shaped y = true then match y with
  | .list ds => some (.bool (ds.any fun z => PyData.eqv z x))
  | .tuple ds => some (.bool (ds.any fun z => PyData.eqv z x))
  | _ => none else none
theorem so_in : SO (rInU K) inP := fun x y z h S H vx vy al rx ry Q q => by
  unfold inP at h
  by_cases c : SeqAt.shaped x = true ∧ SeqAt.shaped y = true
  · rw [if_pos c] at h
    cases y with
    | list ds =>
      cases h
      exact .inl ⟨x, ds, (rx.ex hid_le).dp (nodict c.1), (ry.ex hid_le).dp (nodict c.2), c.1, c.2, q _ H (Ex.refl H) (.bl _)⟩
    | tuple ds =>
      cases h
      exact .inr ⟨x, ds, (rx.ex hid_le).dp (nodict c.1), (ry.ex hid_le).dp (nodict c.2), c.1, c.2, q _ H (Ex.refl H) (.bl _)⟩
    | _ => cases h
  · rw [if_neg c] at h; cases h
/-! ### index, slice -/
def ixP : PD → PD → Option PD
  | .tuple ds, .int i => atI ds i
  | .list ds, .int i => atI ds i
  | .dict [(.none, .list ds)], .int i => atI ds i
  | _, _ => none
theorem so_ix : SO (rIx K) ixP := fun x y z h S H vx vy al rx ry Q q => by
  cases rx with
  | lst ha ra =>
    cases ry with
    | int i =>
      obtain ⟨v, h1, h2⟩ := ra.at h
      exact .inl ⟨_, _, i, v, rfl, rfl, .inl (.inl (hid_le _ _ ha)), h1, q v H (Ex.refl H) h2⟩
    | _ => cases h
  | tup ha _ ra =>
    cases ry with
    | int i =>
      obtain ⟨v, h1, h2⟩ := ra.at h
      exact .inr (.inl ⟨_, _, i, v, rfl, rfl, .inl (.inr ⟨_, hid_le _ _ ha⟩), h1, q v H (Ex.refl H) h2⟩)
    | _ => cases h
  | scr hs ra =>
    cases ry with
    | int i =>
      obtain ⟨v, h1, h2⟩ := ra.at h
      exact .inl ⟨_, _, i, v, rfl, rfl, sqx hid_le hs, h1, q v H (Ex.refl H) h2⟩
    | _ => cases h
  | _ => cases h
abbrev XO := VE → Option (Option Int)
def Eo (to : TO) (ρ : VE) (o : Option Int) : Prop := ∀ S σ H, Al S H → En (hid S H) σ ρ → ∀ Q : Option Int → Hp → Prop, (∀ H2, Ex H H2 → Q o H2) → to σ H Q
def SP (to : TO) (x : XO) : Prop := ∀ ρ o, x ρ = some o → Eo to ρ o
def xNoPart : XO := fun _ => some none
def xPart (a : XE) : XO := fun ρ => (a ρ).bind fun d => match d with
  | .int i => some (some i)
  | _ => none
theorem sp_none : SP tNoPart xNoPart := fun ρ o h S σ H al en Q q => by cases h; exact q H (Ex.refl H)
theorem sp_some {ta : TE} {a : XE} (ha : SE ta a) : SP (tPart ta) (xPart a) := fun ρ o h S σ H al en Q q => by
  obtain ⟨d, h1, h⟩ := bind_some h
  cases d with
  | int i =>
    cases h
    exact ha ρ _ h1 S σ H al en _ fun v H1 e1 rv => by cases rv; exact ⟨i, rfl, q H1 e1⟩
  | _ => cases h
def cutD (ds : List PD) (lo hi : Option Int) : List PD := (ds.drop (HT.sIx ds.length 0 lo)).take (HT.sIx ds.length ds.length hi - HT.sIx ds.length 0 lo)
def slP : PD → Option Int → Option Int → Option PD
  | .list ds, lo, hi => some (.list (cutD ds lo hi))
  | .tuple ds, lo, hi => some (.tuple (cutD ds lo hi))
  | .dict [(.none, .list ds)], lo, hi => some (.list (cutD ds lo hi))
  | _, _, _ => none
def rSlU (K : PySem.W.Frag) : V → Option Int → Option Int → Hp → VK → Prop := fun x lo hi H Q => rSlL K x lo hi H Q ∨ rSlF K x lo hi H Q
theorem sl_U {X : Cx} : SlR X (rSlU X.K) := SlR.or sl_list sl_tupF
def xSl (a : XE) (lo hi : XO) : XE := fun ρ => (a ρ).bind fun d => (lo ρ).bind fun l => (hi ρ).bind fun h => slP d l h
theorem RpAll.cut {H : Hp} {vs : List V} {ds : List PD} (r : RpAll H vs ds) (lo hi : Option Int) : RpAll H (cutV vs lo hi) (cutD ds lo hi) := by
  unfold cutV cutD
  rw [r.length]
  exact (r.drop _).take _
theorem se_sl {ta : TE} {tl th : TO} {a : XE} {lo hi : XO} (ha : SE ta a) (hl : SP tl lo) (hh : SP th hi) : SE (tSl (rSlU K) ta tl th) (xSl a lo hi) := fun ρ d h S σ H al en Q q => by
  obtain ⟨x, h1, h⟩ := bind_some h
  obtain ⟨l, h2, h⟩ := bind_some h
  obtain ⟨u, h3, h⟩ := bind_some h
  refine ha ρ x h1 S σ H al en _ fun v H1 e1 rv => hl ρ l h2 S σ H1 (al.ex e1) (en.ex (hid_ex e1)) _ fun H2 e2 => hh ρ u h3 S σ H2 ((al.ex e1).ex e2) ((en.ex (hid_ex e1)).ex (hid_ex e2)) _ fun H3 e3 => ?_
  have e23 := e2.trans e3
  have e13 := e1.trans e23
  have rv3 := rv.ex (hid_ex (S := S) e23)
  cases rv3 with
  | lst ha3 ra3 =>
    cases h
    exact .inl ⟨_, _, rfl, .inl (.inl (hid_le _ _ ha3)), fun p hp => q _ _ (e13.trans (Ex.new hp)) (.lst (new_ok (al.ex e13) hp) ((ra3.cut l u).ex (hid_ex (Ex.new hp))))⟩
  | @tup a o xs ds ha3 pl ra3 =>
    cases h
    refine .inr ⟨_, _, rfl, .inl (.inr ⟨_, hid_le _ _ ha3⟩), fun c => ?_, fun _ p o hp pl => q _ _ (e13.trans (Ex.new hp)) (.tup (new_ok (al.ex e13) hp) pl ((ra3.cut l u).ex (hid_ex (Ex.new hp))))⟩
    have e : cutD ds l u = ds := by
      unfold cutD
      rw [ra3.length] at c
      rw [c.1, c.2, List.drop_zero, Nat.sub_zero, List.take_length]
    exact q _ H3 e13 (by rw [e]; exact .tup ha3 pl ra3)
  | scr hs ra3 =>
    cases h
    exact .inl ⟨_, _, rfl, sqx hid_le hs, fun p hp => q _ _ (e13.trans (Ex.new hp)) (.lst (new_ok (al.ex e13) hp) ((ra3.cut l u).ex (hid_ex (Ex.new hp))))⟩
  | _ => cases h
end
end Uv

namespace Uv
open PySem PySem.Spec PyProof.Rows L2
open Evl (Ex)
variable [kk : KK]
/-! ### not in -/
theorem op_notInTu {X : Cx} (hu : X.A.units + 65 < cLine) : OpR X (compareOp .NotIn) (rNotInTu X.K) := by
  intro pins s σ H x y v u Q I rx ry ⟨d, ds, h1, h2, s1, s2, q⟩
  obtain ⟨as, r1⟩ := Dp.reads I d x v h1 rx
  obtain ⟨bs, r2⟩ := Dp.reads I (.tuple ds) y u h2 ry
  exact SeqAt.notIn_tuple_reads r2 r1 (SeqAt.canLay_of_shaped s2) (SeqAt.canLay_of_shaped s1) (room_in_shaped s1 hu) ⟨.bl _, H, I, rfl, q⟩
def rNotInU (K : PySem.W.Frag) : R2 := fun x y H Q => rNotInD K x y H Q ∨ rNotInTu K x y H Q
theorem op_notInU {X : Cx} (hu : X.A.units + 65 < cLine) : OpR X (compareOp .NotIn) (rNotInU X.K) := OpR.or (op_notInD hu) (op_notInTu hu)
def notinP (x y : PD) : Option PD := if SeqAt.shaped x = true ∧ SeqAt.shaped y = true then match y with
  | .list ds => some (.bool (!ds.any fun z => PyData.eqv z x))
  | .tuple ds => some (.bool (!ds.any fun z => PyData.eqv z x))
  | _ => none else none
section
theorem so_notin : SO (rNotInU K) notinP := fun x y z h S H vx vy al rx ry Q q => by
  unfold notinP at h
  by_cases c : SeqAt.shaped x = true ∧ SeqAt.shaped y = true
  · rw [if_pos c] at h
    cases y with
    | list ds =>
      cases h
      exact .inl ⟨x, ds, (rx.ex hid_le).dp (nodict c.1), (ry.ex hid_le).dp (nodict c.2), c.1, c.2, q _ H (Ex.refl H) (.bl _)⟩
    | tuple ds =>
      cases h
      exact .inr ⟨x, ds, (rx.ex hid_le).dp (nodict c.1), (ry.ex hid_le).dp (nodict c.2), c.1, c.2, q _ H (Ex.refl H) (.bl _)⟩
    | _ => cases h
  · rw [if_neg c] at h; cases h
/-! ### arguments one by one -/
def on1 (f : PD → Option PD) : List PD → Option PD
  | [x] => f x
  | _ => none
def on2 (f : PD → PD → Option PD) : List PD → Option PD
  | [x, y] => f x y
  | _ => none
theorem on1_eq {f : PD → Option PD} {xs : List PD} {z : PD} (h : on1 f xs = some z) : ∃ x, xs = [x] ∧ f x = some z := by
  match xs, h with
  | [x], h => exact ⟨x, rfl, h⟩
  | [], h => cases h
  | _ :: _ :: _, h => cases h
theorem on2_eq {f : PD → PD → Option PD} {xs : List PD} {z : PD} (h : on2 f xs = some z) : ∃ x y, xs = [x, y] ∧ f x y = some z := by
  match xs, h with
  | [x, y], h => exact ⟨x, y, rfl, h⟩
  | [], h => cases h
  | [_], h => cases h
  | _ :: _ :: _ :: _, h => cases h
theorem sc_on1 {r : List V → Hp → VK → Prop} {f : PD → Option PD} (hf : ∀ x z, f x = some z → ∀ S H v, Al S H → Rp (hid S H) v x → ∀ Q : VK, (∀ v H2, Ex H H2 → Rp (hid S H2) v z → Q v H2) → r [v] H Q) : SC r (on1 f) := fun xs z h S H vs al rv Q q => by
  obtain ⟨x, rfl, h⟩ := on1_eq h
  cases rv with
  | cons h1 t => cases t; exact hf x z h S H _ al h1 Q q
theorem sc_on2 {r : List V → Hp → VK → Prop} {f : PD → PD → Option PD} (hf : ∀ x y z, f x y = some z → ∀ S H v w, Al S H → Rp (hid S H) v x → Rp (hid S H) w y → ∀ Q : VK, (∀ v H2, Ex H H2 → Rp (hid S H2) v z → Q v H2) → r [v, w] H Q) : SC r (on2 f) := fun xs z h S H vs al rv Q q => by
  obtain ⟨x, y, rfl, h⟩ := on2_eq h
  cases rv with
  | cons h1 t =>
    cases t with
    | cons h2 t => cases t; exact hf x y z h S H _ _ al h1 h2 Q q
/-! ### len, abs, int -/
def rLenQ (K : PySem.W.Frag) : List V → Hp → VK → Prop := fun xs H Q => ∃ p ys, xs = [.ref p] ∧ (SqL K H p ys ∨ SqT K H p ys) ∧ Q (.int ys.length) H
def lenP : PD → Option PD
  | .list ds => some (.int (ds.length : Nat))
  | .tuple ds => some (.int (ds.length : Nat))
  | .dict [(.none, .list ds)] => some (.int (ds.length : Nat))
  | _ => none
theorem sc_len : SC (rLenQ K) (on1 lenP) := sc_on1 fun x z h S H v al rv Q q => by
  cases rv with
  | lst ha ra => cases h; exact ⟨_, _, rfl, .inl (.inl (.inl (hid_le _ _ ha))), q _ H (Ex.refl H) (ra.length ▸ .int _)⟩
  | tup ha _ ra => cases h; exact ⟨_, _, rfl, .inr (.inl (.inr ⟨_, hid_le _ _ ha⟩)), q _ H (Ex.refl H) (ra.length ▸ .int _)⟩
  | scr hs ra => cases h; exact ⟨_, _, rfl, .inl (sqx hid_le hs), q _ H (Ex.refl H) (ra.length ▸ .int _)⟩
  | _ => cases h
def absP : PD → Option PD
  | .int i => some (.int (if i < 0 then -i else i))
  | _ => none
theorem sc_abs : SC rAbsQ (on1 absP) := sc_on1 fun x z h S H v al rv Q q => by
  cases rv with
  | int i => cases h; exact ⟨i, rfl, q _ H (Ex.refl H) (.int _)⟩
  | _ => cases h
def toIntP : PD → Option PD
  | .int i => some (.int i)
  | .bool b => some (.int (if b then 1 else 0))
  | _ => none
theorem sc_int : SC rIntQ (on1 toIntP) := sc_on1 fun x z h S H v al rv Q q => by
  cases rv with
  | int i => cases h; exact .inl ⟨i, rfl, q _ H (Ex.refl H) (.int _)⟩
  | bl b => cases h; exact .inr ⟨b, rfl, q _ H (Ex.refl H) (.int _)⟩
  | _ => cases h
/-! ### sum, all, any, min, max -/
def intsP (f : List Int → Option PD) : PD → Option PD
  | .list ds => (unI ds).bind f
  | _ => none
def boolsP (f : List Bool → PD) : PD → Option PD
  | .list ds => (unB ds).bind fun bs => some (f bs)
  | _ => none
def sumP : PD → Option PD := intsP fun ns => some (.int ns.sum)
theorem sc_sum : SC (rSum K) (on1 sumP) := sc_on1 fun x z h S H v al rv Q q => by
  cases rv with
  | lst ha ra =>
    obtain ⟨ns, h1, h2⟩ := bind_some h
    have e := unI_eq h1
    subst e
    have e := ra.ints
    subst e
    cases h2
    exact ⟨_, ns, rfl, .inl (.inl (hid_le _ _ ha)), q _ H (Ex.refl H) (.int _)⟩
  | _ => cases h
def allP : PD → Option PD := boolsP fun bs => .bool (bs.all id)
def anyP : PD → Option PD := boolsP fun bs => .bool (bs.any id)
theorem sc_all : SC (rAll K) (on1 allP) := sc_on1 fun x z h S H v al rv Q q => by
  cases rv with
  | lst ha ra =>
    obtain ⟨ns, h1, h2⟩ := bind_some h
    have e := unB_eq h1
    subst e
    have e := ra.bools
    subst e
    cases h2
    exact ⟨_, ns, rfl, .inl (.inl (hid_le _ _ ha)), q _ H (Ex.refl H) (.bl _)⟩
  | _ => cases h
theorem sc_any : SC (rAny K) (on1 anyP) := sc_on1 fun x z h S H v al rv Q q => by
  cases rv with
  | lst ha ra =>
    obtain ⟨ns, h1, h2⟩ := bind_some h
    have e := unB_eq h1
    subst e
    have e := ra.bools
    subst e
    cases h2
    exact ⟨_, ns, rfl, .inl (.inl (hid_le _ _ ha)), q _ H (Ex.refl H) (.bl _)⟩
  | _ => cases h
def leastI : Int → List Int → Int
  | x, [] => x
  | x, y :: ys => leastI (if y < x then y else x) ys
def mostI : Int → List Int → Int
  | x, [] => x
  | x, y :: ys => mostI (if y > x then y else x) ys
theorem leastI_mem : ∀ (ys : List Int) (x : Int), leastI x ys ∈ x :: ys
  | [], x => List.mem_cons_self ..
  | y :: ys, x => by
    have z := leastI_mem ys (if y < x then y else x)
    unfold leastI
    by_cases c : y < x
    · rw [if_pos c] at z ⊢
      exact List.mem_cons_of_mem _ z
    · rw [if_neg c] at z ⊢
      rcases List.mem_cons.mp z with e | e
      · rw [e]; exact List.mem_cons_self ..
      · exact List.mem_cons_of_mem _ (List.mem_cons_of_mem _ e)
theorem leastI_le : ∀ (ys : List Int) (x : Int), ∀ y ∈ x :: ys, leastI x ys ≤ y
  | [], x, y, h => by
    have e : y = x := by simpa using h
    rw [e]
    exact Int.le_refl _
  | z :: ys, x, y, h => by
    unfold leastI
    have ih := leastI_le ys (if z < x then z else x)
    have i0 := ih _ (List.mem_cons_self ..)
    rcases List.mem_cons.mp h with e | h
    · subst e
      refine Int.le_trans i0 ?_
      split <;> omega
    · rcases List.mem_cons.mp h with e | h
      · subst e
        refine Int.le_trans i0 ?_
        split <;> omega
      · exact ih y (List.mem_cons_of_mem _ h)
theorem mostI_mem : ∀ (ys : List Int) (x : Int), mostI x ys ∈ x :: ys
  | [], x => List.mem_cons_self ..
  | y :: ys, x => by
    have z := mostI_mem ys (if y > x then y else x)
    unfold mostI
    by_cases c : y > x
    · rw [if_pos c] at z ⊢
      exact List.mem_cons_of_mem _ z
    · rw [if_neg c] at z ⊢
      rcases List.mem_cons.mp z with e | e
      · rw [e]; exact List.mem_cons_self ..
      · exact List.mem_cons_of_mem _ (List.mem_cons_of_mem _ e)
theorem mostI_ge : ∀ (ys : List Int) (x : Int), ∀ y ∈ x :: ys, y ≤ mostI x ys
  | [], x, y, h => by
    have e : y = x := by simpa using h
    rw [e]
    exact Int.le_refl _
  | z :: ys, x, y, h => by
    unfold mostI
    have ih := mostI_ge ys (if z > x then z else x)
    have i0 := ih _ (List.mem_cons_self ..)
    rcases List.mem_cons.mp h with e | h
    · subst e
      refine Int.le_trans ?_ i0
      split <;> omega
    · rcases List.mem_cons.mp h with e | h
      · subst e
        refine Int.le_trans ?_ i0
        split <;> omega
      · exact ih y (List.mem_cons_of_mem _ h)
def minL : List Int → Option PD
  | x :: xs => some (.int (leastI x xs))
  | [] => none
def maxL : List Int → Option PD
  | x :: xs => some (.int (mostI x xs))
  | [] => none
def minP : List PD → Option PD
  | [.list ds] => (unI ds).bind minL
  | [.int i, .int j] => some (.int (if j < i then j else i))
  | _ => none
def maxP : List PD → Option PD
  | [.list ds] => (unI ds).bind maxL
  | [.int i, .int j] => some (.int (if j > i then j else i))
  | _ => none
def rMinU (K : PySem.W.Frag) : List V → Hp → VK → Prop := fun xs H Q => rMin K xs H Q ∨ ∃ i j, xs = [.int i, .int j] ∧ Q (.int (if j < i then j else i)) H
def rMaxU (K : PySem.W.Frag) : List V → Hp → VK → Prop := fun xs H Q => rMax K xs H Q ∨ ∃ i j, xs = [.int i, .int j] ∧ Q (.int (if j > i then j else i)) H
theorem cr_minU {X : Cx} (hc : X.calm = true) : CallR X (.builtin "min") (rMinU X.K) := CallR.or (cr_min hc) (call_min2 hc)
theorem cr_maxU {X : Cx} (hc : X.calm = true) : CallR X (.builtin "max") (rMaxU X.K) := CallR.or (cr_max hc) (call_max2 hc)
theorem sc_min : SC (rMinU K) minP := fun xs z h S H vs al rv Q q => by
  unfold minP at h
  split at h
  · cases rv with
    | cons h1 t =>
      cases t
      cases h1 with
      | lst ha ra =>
        obtain ⟨ns, h1, h2⟩ := bind_some h
        have e := unI_eq h1
        subst e
        have e := ra.ints
        subst e
        cases ns with
        | nil => cases h2
        | cons n ns =>
          cases h2
          refine .inl ⟨_, n :: ns, rfl, .inl (.inl (hid_le _ _ ha)), Nat.succ_pos _, fun m m1 m2 => ?_⟩
          have e : m = leastI n ns := Int.le_antisymm (m2 _ (leastI_mem ns n)) (leastI_le ns n m m1)
          rw [e]
          exact q _ H (Ex.refl H) (.int _)
  · cases rv with
    | cons h1 t =>
      cases t with
      | cons h2 t =>
        cases t
        cases h1; cases h2; cases h
        exact .inr ⟨_, _, rfl, q _ H (Ex.refl H) (.int _)⟩
  · cases h
theorem sc_max : SC (rMaxU K) maxP := fun xs z h S H vs al rv Q q => by
  unfold maxP at h
  split at h
  · cases rv with
    | cons h1 t =>
      cases t
      cases h1 with
      | lst ha ra =>
        obtain ⟨ns, h1, h2⟩ := bind_some h
        have e := unI_eq h1
        subst e
        have e := ra.ints
        subst e
        cases ns with
        | nil => cases h2
        | cons n ns =>
          cases h2
          refine .inl ⟨_, n :: ns, rfl, .inl (.inl (hid_le _ _ ha)), Nat.succ_pos _, fun m m1 m2 => ?_⟩
          have e : m = mostI n ns := Int.le_antisymm (mostI_ge ns n m m1) (m2 _ (mostI_mem ns n))
          rw [e]
          exact q _ H (Ex.refl H) (.int _)
  · cases rv with
    | cons h1 t =>
      cases t with
      | cons h2 t =>
        cases t
        cases h1; cases h2; cases h
        exact .inr ⟨_, _, rfl, q _ H (Ex.refl H) (.int _)⟩
  · cases h
/-! ### tuple, list -/
def tupP : PD → Option PD
  | .list ds => some (.tuple ds)
  | .tuple ds => some (.tuple ds)
  | _ => none
theorem sc_tup : SC (rTupF K) (on1 tupP) := sc_on1 fun x z h S H v al rv Q q => by
  cases rv with
  | lst ha ra => cases h; exact ⟨_, _, rfl, .inl ⟨.inl (.inl (hid_le _ _ ha)), fun l o hl pl => q _ _ (Ex.new hl) (.tup (new_ok al hl) pl (ra.ex (hid_ex (Ex.new hl))))⟩⟩
  | tup ha p ra => cases h; exact ⟨_, _, rfl, .inr ⟨.inl (.inr ⟨_, hid_le _ _ ha⟩), q _ H (Ex.refl H) (.tup ha p ra)⟩⟩
  | _ => cases h
def rListQ (K : PySem.W.Frag) : List V → Hp → VK → Prop := fun xs H Q => ∃ p ys, xs = [.ref p] ∧ (SqL K H p ys ∨ SqT K H p ys) ∧ ∀ l, H l = none → Q (.ref l) (upd H l (.lst ys))
def listP : PD → Option PD
  | .list ds => some (.list ds)
  | .tuple ds => some (.list ds)
  | _ => none
theorem sc_list : SC (rListQ K) (on1 listP) := sc_on1 fun x z h S H v al rv Q q => by
  cases rv with
  | lst ha ra => cases h; exact ⟨_, _, rfl, .inl (.inl (.inl (hid_le _ _ ha))), fun l hl => q _ _ (Ex.new hl) (.lst (new_ok al hl) (ra.ex (hid_ex (Ex.new hl))))⟩
  | tup ha p ra => cases h; exact ⟨_, _, rfl, .inr (.inl (.inr ⟨_, hid_le _ _ ha⟩)), fun l hl => q _ _ (Ex.new hl) (.lst (new_ok al hl) (ra.ex (hid_ex (Ex.new hl))))⟩
  | _ => cases h
/-! ### isinstance -/
def tyN : PD → String
  | .none => "NoneType"
  | .bool _ => "bool"
  | .int _ => "int"
  | .str _ => "str"
  | .list _ => "list"
  | .tuple _ => "tuple"
  | .dict _ => "dict"
def full : PD → Bool
  | .dict (_ :: _) => true
  | _ => false
theorem Rp.ty {H : Hp} {v : V} {d : PD} (r : Rp H v d) (nf : full d = false) : TyX K H v (.type (tyN d)) := by
  cases r with
  | non => exact .base .non
  | bl b => exact .base (.bl b)
  | int i => exact .base (.int i)
  | str x => exact .base (.str x)
  | lst h _ => exact .base (.lst h)
  | tup h _ _ => exact .fTuple h
  | dic h => exact .base (.dK h)
  | scr _ _ => cases nf
inductive Ty | int | bool | str | list | tuple | dict
def Ty.nm : Ty → String
  | .int => "int" | .bool => "bool" | .str => "str" | .list => "list" | .tuple => "tuple" | .dict => "dict"
def isTy : Ty → PD → Bool
  | .int, .int _ => true
  | .int, .bool _ => true
  | .bool, .bool _ => true
  | .str, .str _ => true
  | .list, .list _ => true
  | .tuple, .tuple _ => true
  | .dict, .dict _ => true
  | _, _ => false
theorem kit_c : ∀ t : Ty, kitB "NoneType" t.nm = some (isTy t .none) ∧ kitB "bool" t.nm = some (isTy t (.bool true)) ∧ kitB "int" t.nm = some (isTy t (.int 0)) ∧ kitB "str" t.nm = some (isTy t (.str (Str.ofString ""))) ∧ kitB "list" t.nm = some (isTy t (.list [])) ∧ kitB "tuple" t.nm = some (isTy t (.tuple [])) ∧ kitB "dict" t.nm = some (isTy t (.dict [])) := by
  intro t
  cases t <;> decide +kernel
theorem kit_of : ∀ (t : Ty) (d : PD), kitB (tyN d) t.nm = some (isTy t d) := by
  intro t d
  obtain ⟨h1, h2, h3, h4, h5, h6, h7⟩ := kit_c t
  cases d with
  | none => exact h1
  | bool b => exact h2.trans (by cases t <;> rfl)
  | int i => exact h3.trans (by cases t <;> rfl)
  | str x => exact h4.trans (by cases t <;> rfl)
  | list xs => exact h5.trans (by cases t <;> rfl)
  | tuple xs => exact h6.trans (by cases t <;> rfl)
  | dict xs => exact h7.trans (by cases t <;> rfl)
def xIsi (t : Ty) (a : XE) : XE := fun ρ => (a ρ).bind fun d => if full d = true then none else some (.bool (isTy t d))
theorem se_isi {ta : TE} {a : XE} {n : String} (t : Ty) (hn : t.nm = n) (ha : SE ta a) : SE (tCB (rIsi K) (tCons ta (tCons (tC (.ty n)) tNil))) (xIsi t a) := fun ρ d h S σ H al en Q q => by
  obtain ⟨x, h1, h⟩ := bind_some h
  have nf : full x = false := by
    cases q : full x with
    | true => rw [if_pos q] at h; cases h
    | false => rfl
  rw [if_neg (by rw [nf]; exact Bool.false_ne_true)] at h
  cases h
  subst hn
  exact ha ρ x h1 S σ H al en _ fun v H1 e1 rv => ⟨_, .ty t.nm, _, .type t.nm, isTy t x, rfl, .ty t.nm, (rv.ex hid_le).ty nf, kit_ty (kit_of t x), q _ H1 e1 (.bl _)⟩
/-! ### repr -/
def rRepr (K : PySem.W.Frag) : List V → Hp → VK → Prop := fun vs H Q => ∃ v d, vs = [v] ∧ Dp K H v d ∧ d.showable = true ∧ d.hasDict = false ∧ d.depth ≤ 60 ∧ d.shown.length ≤ sizeLine ∧ Q (.str d.shown) H
theorem cr_repr {X : Cx} (hg : X.A.guards = some []) (hu : X.A.units + 65 < cLine) : CallR X (.builtin "repr") (rRepr X.K) := by
  intro pins s σ H vs us Q I r h
  obtain ⟨v, d, rfl, hd, sh, nd, dp, sz, q⟩ := h
  obtain ⟨u, rfl, ru⟩ : ∃ u, us = [u] ∧ RelV v u := by
    cases r with
    | cons p t => cases t; exact ⟨_, rfl, p⟩
  obtain ⟨as, rd⟩ := Dp.reads I d v u hd ru
  have fin : ∀ h' tk t, (∀ b o, s.heap.get? b = some o → h'.get? b = some o) → ∃ v H', Inv X pins σ H' { s with heap := h', toks := tk } ∧ RelV v (.str d.shown t) ∧ Q v H' := fun h' tk t hk => ⟨.str _, H, I.kept hk, ⟨_, rfl⟩, q⟩
  cases rd with
  | none => exact P.repr_of_none (fin s.heap _ _ fun _ _ e => e)
  | bool b => exact P.repr_of_bool (by cases b <;> exact fin s.heap _ _ fun _ _ e => e)
  | int i t => exact P.repr_of_int (by simpa [PyData.showable] using sh) (fin s.heap _ _ fun _ _ e => e)
  | str x t => exact P.repr_of_str (fin s.heap _ _ fun _ _ e => e) sz
  | list h1 h2 h3 h4 => exact repr_of_reads' (.list h1 h2 h3 h4) sh (fun e => by rw [nd] at e; cases e) hg (by omega) (fun _ _ e => e) (fun h' u tk hk => fin h' tk u hk) sz
  | tuple h1 h2 h3 h4 => exact repr_of_reads' (.tuple h1 h2 h3 h4) sh (fun e => by rw [nd] at e; cases e) hg (by omega) (fun _ _ e => e) (fun h' u tk hk => fin h' tk u hk) sz
  | dict h1 h2 h3 h4 h5 => exact repr_of_reads' (.dict h1 h2 h3 h4 h5) sh (fun e => by rw [nd] at e; cases e) hg (by omega) (fun _ _ e => e) (fun h' u tk hk => fin h' tk u hk) sz
def CanShow (d : PD) : Prop := d.showable = true ∧ d.hasDict = false ∧ d.depth ≤ 60 ∧ d.shown.length ≤ sizeLine
instance {d : PD} : Decidable (CanShow d) := inferInstanceAs (Decidable (_ ∧ _))
def reprP (d : PD) : Option PD := if CanShow d then some (.str d.shown) else none
theorem sc_repr : SC (rRepr K) (on1 reprP) := sc_on1 fun x z h S H v al rv Q q => by
  unfold reprP at h
  by_cases c : CanShow x
  · rw [if_pos c] at h
    cases h
    exact ⟨v, x, rfl, (rv.ex hid_le).dp c.2.1, c.1, c.2.1, c.2.2.1, c.2.2.2, q _ H (Ex.refl H) (.str _)⟩
  · rw [if_neg c] at h; cases h
/-! ### index -/
def idxP (x y : PD) : Option PD := match x, y with
  | .tuple ds, .int m => (unI ds).bind fun ns => if m ∈ ns then some (.int (ns.idxOf m : Nat)) else none
  | .list ds, y => if SeqAt.shaped (.list ds) = true ∧ SeqAt.shaped y = true then match ds.findIdx? fun z => PyData.eqv z y with
    | some j => some (.int (j : Nat))
    | none => none
    else none
  | _, _ => none
def tIdx (K : PySem.W.Frag) (to : TE) (t : TA) : TE := fun σ H Q => tBMF (rIndexF K) to t σ H Q ∨ tBM K "list" (rIndexD K) to t σ H Q
def xIdx (a b : XE) : XE := xOp idxP a b
theorem se_idx {ta tb : TE} {a b : XE} (ha : SE ta a) (hb : SE tb b) : SE (tIdx K ta (tCons tb tNil)) (xIdx a b) := fun ρ d h S σ H al en Q q => by
  obtain ⟨x, h1, h⟩ := bind_some h
  obtain ⟨y, h2, h⟩ := bind_some h
  cases x with
  | tuple ds =>
    cases y with
    | int m =>
      obtain ⟨ns, h3, h4⟩ := bind_some h
      have e := unI_eq h3
      subst e
      by_cases c : m ∈ ns
      · rw [if_pos c] at h4
        cases h4
        refine .inl (ha ρ _ h1 S σ H al en _ fun v H1 e1 rv => ?_)
        generalize ed : PyData.tuple (ns.map PyData.int) = dd at rv
        cases rv with
        | tup hx pl ra =>
          cases ed
          refine ⟨⟨_, _, _, rfl, hid_le _ _ hx, pl⟩, hb ρ _ h2 S σ H1 (al.ex e1) (en.ex (hid_ex e1)) _ fun w H2 e2 rw' => ?_⟩
          cases rw'
          have e := ra.ints
          subst e
          exact ⟨_, ns, m, rfl, rfl, .inl (.inr ⟨_, hid_le _ _ (hid_ex e2 _ _ hx)⟩), c, q _ H2 (e1.trans e2) (.int _)⟩
        | _ => cases ed
      · rw [if_neg c] at h4; cases h4
    | _ => cases h
  | list ds =>
    have h : (if SeqAt.shaped (.list ds) = true ∧ SeqAt.shaped y = true then match ds.findIdx? fun z => PyData.eqv z y with
      | some j => some (PyData.int (j : Nat))
      | none => none
      else none) = some d := by cases y <;> exact h
    by_cases c : SeqAt.shaped (.list ds) = true ∧ SeqAt.shaped y = true
    · rw [if_pos c] at h
      cases hj : ds.findIdx? fun z => PyData.eqv z y with
      | none => rw [hj] at h; cases h
      | some j =>
        rw [hj] at h
        cases h
        obtain ⟨hlt, hy, hn⟩ := List.findIdx?_eq_some_iff_getElem.mp hj
        refine .inr (ha ρ _ h1 S σ H al en _ fun v H1 e1 rv => ?_)
        cases rv with
        | lst hx ra =>
          refine ⟨.inl ⟨rfl, _, .inl (.inl (hid_le _ _ hx))⟩, hb ρ _ h2 S σ H1 (al.ex e1) (en.ex (hid_ex e1)) _ fun w H2 e2 rw' => ?_⟩
          have hx2 := hid_ex (S := S) e2 _ _ hx
          refine ⟨_, w, y, ds, j, ds[j], rfl, rfl, ((Rp.lst hx2 (ra.ex (hid_ex e2))).ex hid_le).dp (nodict c.1), (rw'.ex hid_le).dp (nodict c.2), c.1, c.2, List.getElem?_eq_getElem hlt, hy, fun m z' hm hz => ?_, q _ H2 (e1.trans e2) (.int _)⟩
          obtain ⟨hm2, ez⟩ := List.getElem?_eq_some_iff.mp hz
          have hz2 := hn m hm
          subst ez
          simpa using hz2
    · rw [if_neg c] at h; cases h
  | _ => cases h
end
end Uv

namespace Uv
open PySem PySem.Spec PyProof.Rows L2
open Evl (Ex)
variable [kk : KK]
/-! ### slots that own lists -/
inductive Cel | dat (d : PD) | sub (ds : List PD)
def Cel.pd : Cel → PD
  | .dat d => d
  | .sub ds => .list ds
inductive Sl | un | dat (d : PD) | own (cs : List Cel)
abbrev Env := List Sl
def Sl.vw : Sl → Option PD
  | .un => none
  | .dat d => some d
  | .own cs => some (.list (cs.map Cel.pd))
def Sl.mk : Sl → Option PD
  | .dat d => some d
  | _ => none
def vw (ρ : Env) : VE := ρ.map Sl.vw
def mk (ρ : Env) : VE := ρ.map Sl.mk
abbrev Trs := Nat → List Addr
def SF (F : Hs) (T : Trs) : Hs := fun x => F x ∨ ∃ i, x ∈ T i
def FL (F : Hs) (L : List Addr) : Hs := fun x => F x ∨ x ∈ L
/-- the items of an owned list: data, or lists of data that are owned too (at the addresses) -/
inductive Cels (G H : Hp) : List V → List Cel → List Addr → Prop
  | nil : Cels G H [] [] []
  | dat {v : V} {d : PD} {vs : List V} {cs : List Cel} {B : List Addr} : Rp G v d → Cels G H vs cs B → Cels G H (v :: vs) (.dat d :: cs) B
  | sub {b : Addr} {ws : List V} {ds : List PD} {vs : List V} {cs : List Cel} {B : List Addr} : H b = some (.lst ws) → RpAll G ws ds → Cels G H vs cs B → Cels G H (.ref b :: vs) (.sub ds :: cs) (b :: B)
def Own (G H : Hp) (v : V) (cs : List Cel) (A : List Addr) : Prop := ∃ a vs B, v = .ref a ∧ H a = some (.lst vs) ∧ Cels G H vs cs B ∧ A = a :: B
def SlOk (G H : Hp) (o : Option V) (s : Sl) (A : List Addr) : Prop := match s with
  | .un => A = []
  | .dat d => A = [] ∧ ∃ v, o = some v ∧ Rp G v d
  | .own cs => ∃ v, o = some v ∧ Own G H v cs A
structure StOk (pn : Option V) (F : Hs) (T : Trs) (H : Hp) (σ : L2.St) (ρ : Env) : Prop where
  len : σ.length = ρ.length
  al : Al F H
  off : ∀ i x, x ∈ T i → ¬ F x
  dis : ∀ i j x, x ∈ T i → x ∈ T j → i = j
  nd : ∀ i, (T i).Nodup
  out : ∀ i, ρ.length ≤ i → T i = []
  sl : ∀ i s, ρ[i]? = some s → ∃ o, σ[i]? = some o ∧ SlOk (hid (SF F T) H) H o s (T i)
  pin : ∀ v, pn = some v → σ[0]? = some (some v)
structure Stp (F : Hs) (T : Trs) (H : Hp) (T' : Trs) (H' : Hp) : Prop where
  fr : ∀ x, F x → H' x = H x
  vis : Ex (hid (SF F T) H) (hid (SF F T') H')
section
variable {pn : Option V} {F : Hs} {T T' T'' : Trs} {G G' H H' H'' : Hp} {σ : L2.St} {ρ : Env}
theorem Stp.refl : Stp F T H T H := ⟨fun _ _ => rfl, Ex.refl _⟩
theorem Stp.trans (a : Stp F T H T' H') (b : Stp F T' H' T'' H'') : Stp F T H T'' H'' := ⟨fun x h => (b.fr x h).trans (a.fr x h), a.vis.trans b.vis⟩
theorem Stp.ex (al : Al F H) (e : Ex H H') : Stp F T H T H' := ⟨fun x h => by
  cases q : H x with
  | none => exact absurd q (al x h)
  | some o => exact e x o q, hid_ex e⟩
theorem Cels.mv (e : Ex G G') : ∀ {vs : List V} {cs : List Cel} {B : List Addr}, (∀ x ∈ B, H' x = H x) → Cels G H vs cs B → Cels G' H' vs cs B
  | _, _, _, _, .nil => .nil
  | _, _, _, h, .dat r c => .dat (r.ex e) (Cels.mv e h c)
  | _, _, _, h, .sub hb r c => .sub ((h _ (List.mem_cons_self ..)).trans hb) (r.ex e) (Cels.mv e (fun x hx => h x (List.mem_cons_of_mem _ hx)) c)
theorem Own.mv (e : Ex G G') {v : V} {cs : List Cel} {A : List Addr} (h : ∀ x ∈ A, H' x = H x) (o : Own G H v cs A) : Own G' H' v cs A := by
  obtain ⟨a, vs, B, rfl, ha, c, rfl⟩ := o
  exact ⟨a, vs, B, rfl, (h a (List.mem_cons_self ..)).trans ha, c.mv e fun x hx => h x (List.mem_cons_of_mem _ hx), rfl⟩
theorem SlOk.mv (e : Ex G G') {o : Option V} {s : Sl} {A : List Addr} (h : ∀ x ∈ A, H' x = H x) (q : SlOk G H o s A) : SlOk G' H' o s A := by
  cases s with
  | un => exact q
  | dat d => obtain ⟨z, v, e1, r⟩ := q; exact ⟨z, v, e1, r.ex e⟩
  | own cs => obtain ⟨v, e1, r⟩ := q; exact ⟨v, e1, r.mv e h⟩
theorem Cels.lst : ∀ {vs : List V} {cs : List Cel} {B : List Addr}, Cels G H vs cs B → ∀ x ∈ B, ∃ ws, H x = some (.lst ws)
  | _, _, _, .nil, x, h => nomatch h
  | _, _, _, .dat _ c, x, h => c.lst x h
  | _, _, _, .sub hb _ c, x, h => by
    rcases List.mem_cons.mp h with z | z
    · subst z; exact ⟨_, hb⟩
    · exact c.lst x z
theorem Own.lst {v : V} {cs : List Cel} {A : List Addr} (o : Own G H v cs A) : ∀ x ∈ A, ∃ ws, H x = some (.lst ws) := fun x h => by
  obtain ⟨a, vs, B, rfl, ha, c, rfl⟩ := o
  rcases List.mem_cons.mp h with z | z
  · subst z; exact ⟨_, ha⟩
  · exact c.lst x z
theorem Cels.length : ∀ {vs : List V} {cs : List Cel} {B : List Addr}, Cels G H vs cs B → vs.length = cs.length
  | _, _, _, .nil => rfl
  | _, _, _, .dat _ c => by rw [List.length_cons, List.length_cons, c.length]
  | _, _, _, .sub _ _ c => by rw [List.length_cons, List.length_cons, c.length]
/-- seen as data, where the addresses show -/
theorem Cels.rp (e : Ex G G') (hs : ∀ x ∈ B, G' x = H x) : ∀ {vs : List V} {cs : List Cel}, Cels G H vs cs B → RpAll G' vs (cs.map Cel.pd)
  | _, _, .nil => .nil
  | _, _, .dat r c => .cons (r.ex e) (c.rp e hs)
  | _, _, .sub hb r c => .cons (.lst ((hs _ (List.mem_cons_self ..)).trans hb) (r.ex e)) (c.rp e fun x hx => hs x (List.mem_cons_of_mem _ hx))
theorem Own.rp (e : Ex G G') {v : V} {cs : List Cel} {A : List Addr} (hs : ∀ x ∈ A, G' x = H x) (o : Own G H v cs A) : Rp G' v (.list (cs.map Cel.pd)) := by
  obtain ⟨a, vs, B, rfl, ha, c, rfl⟩ := o
  exact .lst ((hs a (List.mem_cons_self ..)).trans ha) (c.rp e fun x hx => hs x (List.mem_cons_of_mem _ hx))
theorem StOk.lst (st : StOk pn F T H σ ρ) {i : Nat} {x : Addr} (h : x ∈ T i) : ∃ vs, H x = some (.lst vs) := by
  by_cases c : i < ρ.length
  · obtain ⟨o, _, q⟩ := st.sl i _ (List.getElem?_eq_getElem c)
    cases e : ρ[i] with
    | un => rw [e] at q; rw [show T i = [] from q] at h; cases h
    | dat d => rw [e] at q; rw [q.1] at h; cases h
    | own cs => rw [e] at q; obtain ⟨v, _, q⟩ := q; exact q.lst x h
  · rw [st.out i (by omega)] at h; cases h
theorem StOk.als (st : StOk pn F T H σ ρ) : Al (SF F T) H := fun x h z => h.elim (fun h => st.al x h z) fun ⟨i, h⟩ => by
  obtain ⟨vs, e⟩ := st.lst h
  rw [z] at e
  cases e
theorem StOk.mv (st : StOk pn F T H σ ρ) (e : Ex (hid (SF F T) H) (hid (SF F T) H')) (h : ∀ i x, x ∈ T i → H' x = H x) (al : Al F H') : StOk pn F T H' σ ρ :=
  ⟨st.len, al, st.off, st.dis, st.nd, st.out, fun i s hi => let ⟨o, h1, h2⟩ := st.sl i s hi; ⟨o, h1, h2.mv e (h i)⟩, st.pin⟩
theorem StOk.ex (st : StOk pn F T H σ ρ) (e : Ex H H') : StOk pn F T H' σ ρ := st.mv (hid_ex e) (fun i x hx => by
  obtain ⟨vs, q⟩ := st.lst hx
  rw [q, e x _ q]) (st.al.ex e)
theorem StOk.vw (st : StOk pn F T H σ ρ) : En (hid F H) σ (vw ρ) := by
  refine ⟨by rw [st.len]; unfold Uv.vw; rw [List.length_map], fun i d hi => ?_⟩
  unfold Uv.vw at hi
  rw [List.getElem?_map] at hi
  cases q : ρ[i]? with
  | none => rw [q] at hi; cases hi
  | some s =>
    rw [q] at hi
    have hi : s.vw = some d := Option.some.inj hi
    obtain ⟨o, h1, h2⟩ := st.sl i s q
    cases s with
    | un => cases hi
    | dat d' =>
      cases hi
      obtain ⟨_, v, rfl, r⟩ := h2
      exact ⟨v, h1, r.ex (hid_sub fun x h => .inl h)⟩
    | own cs =>
      cases hi
      obtain ⟨v, rfl, r⟩ := h2
      exact ⟨v, h1, r.rp (hid_sub fun x h => .inl h) fun x hx => hid_out (st.off i x hx)⟩
theorem StOk.mkd (st : StOk pn F T H σ ρ) : En (hid (SF F T) H) σ (Uv.mk ρ) := by
  refine ⟨by rw [st.len]; unfold Uv.mk; rw [List.length_map], fun i d hi => ?_⟩
  unfold Uv.mk at hi
  rw [List.getElem?_map] at hi
  cases q : ρ[i]? with
  | none => rw [q] at hi; cases hi
  | some s =>
    rw [q] at hi
    have hi : s.mk = some d := Option.some.inj hi
    obtain ⟨o, h1, h2⟩ := st.sl i s q
    cases s with
    | dat d' =>
      cases hi
      obtain ⟨_, v, rfl, r⟩ := h2
      exact ⟨v, h1, r⟩
    | _ => cases hi
/-! setting a slot -/
def setT (T : Trs) (i : Nat) (A : List Addr) : Trs := fun j => if j = i then A else T j
theorem setT_same {i : Nat} {A : List Addr} : setT T i A i = A := if_pos rfl
theorem setT_ne {i j : Nat} {A : List Addr} (h : j ≠ i) : setT T i A j = T j := if_neg h
theorem SF_setT_nil {i : Nat} : ∀ x, SF F (setT T i []) x → SF F T x := fun x h => h.elim .inl fun ⟨j, hj⟩ => .inr (by
  by_cases c : j = i
  · subst c; rw [setT_same] at hj; cases hj
  · rw [setT_ne c] at hj; exact ⟨j, hj⟩)
theorem StOk.drop (st : StOk pn F T H σ ρ) {i : Nat} {o : Option V} {s : Sl} (hi0 : i ≠ 0) (hs : SlOk (hid (SF F (setT T i [])) H) H o s []) : StOk pn F (setT T i []) H (σ.set i o) (ρ.set i s) ∧ Stp F T H (setT T i []) H := by
  have sub : Ex (hid (SF F T) H) (hid (SF F (setT T i [])) H) := hid_sub SF_setT_nil
  have mem : ∀ j x, x ∈ setT T i [] j → x ∈ T j ∧ j ≠ i := fun j x h => by
    by_cases c : j = i
    · subst c; rw [setT_same] at h; cases h
    · rw [setT_ne c] at h; exact ⟨h, c⟩
  refine ⟨⟨by rw [List.length_set, List.length_set]; exact st.len, st.al, fun j x h => st.off j x (mem j x h).1, fun j k x h h' => st.dis j k x (mem j x h).1 (mem k x h').1, fun j => ?_, fun j hj => ?_, fun j q hq => ?_, fun v hv => ?_⟩, ⟨fun _ _ => rfl, sub⟩⟩
  · by_cases c : j = i
    · subst c; rw [setT_same]; exact List.nodup_nil
    · rw [setT_ne c]; exact st.nd j
  · rw [List.length_set] at hj
    by_cases c : j = i
    · subst c; rw [setT_same]
    · rw [setT_ne c]; exact st.out j hj
  · by_cases c : i = j
    · subst c
      have hl : i < ρ.length := by
        have := (List.getElem?_eq_some_iff.mp hq).1
        simpa using this
      rw [List.getElem?_set_self hl] at hq
      cases hq
      rw [setT_same]
      exact ⟨o, List.getElem?_set_self (by rw [st.len]; exact hl), hs⟩
    · rw [List.getElem?_set_ne c] at hq
      obtain ⟨o', h1, h2⟩ := st.sl j q hq
      rw [List.getElem?_set_ne c, setT_ne (fun z => c z.symm)]
      exact ⟨o', h1, h2.mv sub fun _ _ => rfl⟩
  · rw [List.getElem?_set_ne hi0]
    exact st.pin v hv
theorem StOk.set (st : StOk pn F T H σ ρ) {i : Nat} (hi0 : i ≠ 0) {v : V} {d : PD} (r : Rp (hid (SF F T) H) v d) : StOk pn F (setT T i []) H (σ.set i (some v)) (ρ.set i (.dat d)) ∧ Stp F T H (setT T i []) H :=
  st.drop hi0 ⟨rfl, v, rfl, r.ex (hid_sub SF_setT_nil)⟩
/-- a new list, owned by a slot -/
theorem StOk.own {A : List Addr} (st : StOk pn (FL F A) T H σ ρ) {i : Nat} (hi0 : i ≠ 0) (hi : i < ρ.length) {v : V} {cs : List Cel} (o : Own (hid (SF (FL F A) T) H) H v cs A) (nd : A.Nodup) (off : ∀ x ∈ A, ¬ F x) :
    StOk pn F (setT T i A) H (σ.set i (some v)) (ρ.set i (.own cs)) ∧ Ex (hid (SF (FL F A) T) H) (hid (SF F (setT T i A)) H) := by
  have sub : Ex (hid (SF (FL F A) T) H) (hid (SF F (setT T i A)) H) := hid_sub fun x h => h.elim (fun h => .inl (.inl h)) fun ⟨j, hj⟩ => by
    by_cases c : j = i
    · subst c; rw [setT_same] at hj; exact .inl (.inr hj)
    · rw [setT_ne c] at hj; exact .inr ⟨j, hj⟩
  have mem : ∀ j x, x ∈ setT T i A j → (j = i ∧ x ∈ A) ∨ (j ≠ i ∧ x ∈ T j) := fun j x h => by
    by_cases c : j = i
    · subst c; rw [setT_same] at h; exact .inl ⟨rfl, h⟩
    · rw [setT_ne c] at h; exact .inr ⟨c, h⟩
  refine ⟨⟨by rw [List.length_set, List.length_set]; exact st.len, fun x h => st.al x (.inl h), fun j x h => ?_, fun j k x h h' => ?_, fun j => ?_, fun j hj => ?_, fun j q hq => ?_, fun v hv => ?_⟩, sub⟩
  · rcases mem j x h with ⟨_, h⟩ | ⟨_, h⟩
    · exact off x h
    · exact fun z => st.off j x h (.inl z)
  · rcases mem j x h with ⟨e, h⟩ | ⟨e, h⟩
    · rcases mem k x h' with ⟨e', h'⟩ | ⟨e', h'⟩
      · rw [e, e']
      · exact absurd (.inr h) (st.off k x h')
    · rcases mem k x h' with ⟨e', h'⟩ | ⟨e', h'⟩
      · exact absurd (.inr h') (st.off j x h)
      · exact st.dis j k x h h'
  · by_cases c : j = i
    · subst c; rw [setT_same]; exact nd
    · rw [setT_ne c]; exact st.nd j
  · rw [List.length_set] at hj
    rw [setT_ne (by omega)]
    exact st.out j hj
  · by_cases c : i = j
    · subst c
      rw [List.getElem?_set_self hi] at hq
      cases hq
      rw [setT_same]
      exact ⟨some v, List.getElem?_set_self (by rw [st.len]; exact hi), v, rfl, o.mv sub fun _ _ => rfl⟩
    · rw [List.getElem?_set_ne c] at hq
      obtain ⟨o', h1, h2⟩ := st.sl j q hq
      rw [List.getElem?_set_ne c, setT_ne (fun z => c z.symm)]
      exact ⟨o', h1, h2.mv sub fun _ _ => rfl⟩
  · rw [List.getElem?_set_ne hi0]
    exact st.pin v hv
/-- what was new becomes data -/
theorem StOk.thaw {A : List Addr} (st : StOk pn (FL F A) T H σ ρ) : StOk pn F T H σ ρ ∧ Ex (hid (SF (FL F A) T) H) (hid (SF F T) H) := by
  have sub : Ex (hid (SF (FL F A) T) H) (hid (SF F T) H) := hid_sub fun x h => h.elim (fun h => .inl (.inl h)) .inr
  exact ⟨⟨st.len, fun x h => st.al x (.inl h), fun i x h z => st.off i x h (.inl z), st.dis, st.nd, st.out, fun i s hi => let ⟨o, h1, h2⟩ := st.sl i s hi; ⟨o, h1, h2.mv sub fun _ _ => rfl⟩, st.pin⟩, sub⟩
/-- an owned slot's list is written, the lists within stand -/
theorem StOk.write (st : StOk pn F T H σ ρ) {i : Nat} {cs cs' : List Cel} {a : Addr} {vs' : List V} {B : List Addr} (hi : ρ[i]? = some (.own cs)) (hT : T i = a :: B) (hσ : σ[i]? = some (some (.ref a))) (hc : Cels (hid (SF F T) H) H vs' cs' B) :
    StOk pn F T (upd H a (.lst vs')) σ (ρ.set i (.own cs')) ∧ Stp F T H T (upd H a (.lst vs')) := by
  have ha : a ∈ T i := by rw [hT]; exact List.mem_cons_self ..
  have hab : a ∉ B := by have := st.nd i; rw [hT] at this; exact (List.nodup_cons.mp this).1
  have hS : SF F T a := .inr ⟨i, ha⟩
  have vis : Ex (hid (SF F T) H) (hid (SF F T) (upd H a (.lst vs'))) := fun x o h => by
    obtain ⟨c, h⟩ := hid_some h
    rw [hid_out c, upd_ne (fun z => c (by rw [z]; exact hS))]
    exact h
  have ne : ∀ x, x ≠ a → upd H a (.lst vs') x = H x := fun x h => upd_ne h
  refine ⟨⟨by rw [List.length_set]; exact st.len, fun x h => ?_, st.off, st.dis, st.nd, fun j hj => st.out j (by rw [List.length_set] at hj; exact hj), fun j q hq => ?_, st.pin⟩, ⟨fun x h => ne x fun z => st.off i a ha (by rw [← z]; exact h), vis⟩⟩
  · rw [ne x fun z => st.off i a ha (by rw [← z]; exact h)]
    exact st.al x h
  · by_cases c : i = j
    · subst c
      have hl : i < ρ.length := by
        have := (List.getElem?_eq_some_iff.mp hq).1
        simpa using this
      rw [List.getElem?_set_self hl] at hq
      cases hq
      exact ⟨_, hσ, .ref a, rfl, a, vs', B, rfl, upd_same, hc.mv vis fun x hx => ne x fun z => hab (by rw [← z]; exact hx), hT⟩
    · rw [List.getElem?_set_ne c] at hq
      obtain ⟨o', h1, h2⟩ := st.sl j q hq
      exact ⟨o', h1, h2.mv vis fun x hx => ne x fun z => c (st.dis i j a ha (by rw [← z]; exact hx))⟩
theorem StOk.at_own (st : StOk pn F T H σ ρ) {i : Nat} {cs : List Cel} (hi : ρ[i]? = some (.own cs)) : ∃ a vs B, σ[i]? = some (some (.ref a)) ∧ H a = some (.lst vs) ∧ Cels (hid (SF F T) H) H vs cs B ∧ T i = a :: B := by
  obtain ⟨o, h1, v, rfl, a, vs, B, rfl, h2, h3, h4⟩ := st.sl i _ hi
  exact ⟨a, vs, B, h1, h2, h3, h4⟩
end
/-! ### data without lists -/
mutual
def flat : PD → Bool
  | .none => true
  | .bool _ => true
  | .int _ => true
  | .str _ => true
  | .tuple ds => flats ds
  | .list _ => false
  | .dict _ => false
def flats : List PD → Bool
  | [] => true
  | d :: ds => flat d && flats ds
end
mutual
theorem Rp.flat {G G' : Hp} (e : ∀ x o u, G x = some (.frz o u) → G' x = some (.frz o u)) : ∀ {v : V} {d : PD}, Rp G v d → flat d = true → Rp G' v d
  | _, _, .non, _ => .non
  | _, _, .bl b, _ => .bl b
  | _, _, .int i, _ => .int i
  | _, _, .str x, _ => .str x
  | _, _, .lst h r, f => by simp [Uv.flat] at f
  | _, _, .tup h p r, f => .tup (e _ _ _ h) p (RpAll.flat e r (by simpa [Uv.flat] using f))
  | _, _, .dic h, f => by simp [Uv.flat] at f
  | _, _, .scr h r, f => by simp [Uv.flat] at f
theorem RpAll.flat {G G' : Hp} (e : ∀ x o u, G x = some (.frz o u) → G' x = some (.frz o u)) : ∀ {vs : List V} {ds : List PD}, RpAll G vs ds → flats ds = true → RpAll G' vs ds
  | _, _, .nil, _ => .nil
  | _, _, .cons h r, f => by
    simp only [flats, Bool.and_eq_true] at f
    exact .cons (Rp.flat e h f.1) (RpAll.flat e r f.2)
end
theorem StOk.frz {pn : Option V} {F : Hs} {T : Trs} {H H' : Hp} {σ : L2.St} {ρ : Env} (st : StOk pn F T H σ ρ) (e : Ex H H') : ∀ x o u, hid F H' x = some (.frz o u) → hid (SF F T) H' x = some (.frz o u) := fun x o u h => by
  obtain ⟨c, h⟩ := hid_some h
  rw [hid_out]
  · exact h
  · rintro (z | ⟨i, z⟩)
    · exact c z
    · obtain ⟨vs, q⟩ := st.lst z
      rw [e x _ q] at h
      cases h
end Uv

namespace Uv
open PySem PySem.Spec PyProof.Rows L2
open Evl (Ex)
variable [kk : KK]
/-! ### expressions over a state -/
abbrev XW := Env → Option (PD × Env)
abbrev XWT := Env → Option (Bool × Env)
abbrev XWA := Env → Option (List PD × Env)
abbrev XWO := Env → Option (List Cel × Env)
def SW (te : TE) (w : XW) : Prop := ∀ pn F T H σ ρ d ρ', StOk pn F T H σ ρ → w ρ = some (d, ρ') → ∀ Q : VK, (∀ v T' H', StOk pn F T' H' σ ρ' → Stp F T H T' H' → Rp (hid (SF F T') H') v d → Q v H') → te σ H Q
def SWT (tt : TT) (w : XWT) : Prop := ∀ pn F T H σ ρ b ρ', StOk pn F T H σ ρ → w ρ = some (b, ρ') → ∀ Q : Bool → Hp → Prop, (∀ T' H', StOk pn F T' H' σ ρ' → Stp F T H T' H' → Q b H') → tt σ H Q
def SWA (ta : TA) (w : XWA) : Prop := ∀ pn F T H σ ρ ds ρ', StOk pn F T H σ ρ → w ρ = some (ds, ρ') → ∀ Q : List V → Hp → Prop, (∀ vs T' H', StOk pn F T' H' σ ρ' → Stp F T H T' H' → RpAll (hid (SF F T') H') vs ds → Q vs H') → ta σ H Q
/-- a new list: its addresses A stand in the frame -/
def SWO (te : TE) (w : XWO) : Prop := ∀ pn F T H σ ρ cs ρ', StOk pn F T H σ ρ → w ρ = some (cs, ρ') → ∀ Q : VK, (∀ v A T' H', StOk pn (FL F A) T' H' σ ρ' → A.Nodup → (∀ x ∈ A, ¬ F x) → (∀ x, F x → H' x = H x) → Ex (hid (SF F T) H) (hid (SF (FL F A) T') H') → Own (hid (SF (FL F A) T') H') H' v cs A → Q v H') → te σ H Q
def wM (x : XE) : XW := fun ρ => (x (mk ρ)).bind fun d => some (d, ρ)
def wV (x : XE) : XW := fun ρ => (x (vw ρ)).bind fun d => if flat d = true then some (d, ρ) else none
def wMT (x : XT) : XWT := fun ρ => (x (mk ρ)).bind fun d => some (d, ρ)
def wVT (x : XT) : XWT := fun ρ => (x (vw ρ)).bind fun d => some (d, ρ)
def wMA (x : XA) : XWA := fun ρ => (x (mk ρ)).bind fun d => some (d, ρ)
def wNil : XWA := fun ρ => some ([], ρ)
def wCons (a : XW) (as : XWA) : XWA := fun ρ => (a ρ).bind fun x => (as x.2).bind fun xs => some (x.1 :: xs.1, xs.2)
def wOp (f : PD → PD → Option PD) (a b : XW) : XW := fun ρ => (a ρ).bind fun x => (b x.2).bind fun y => (f x.1 y.1).bind fun z => some (z, y.2)
def wUn (f : PD → Option PD) (a : XW) : XW := fun ρ => (a ρ).bind fun x => (f x.1).bind fun z => some (z, x.2)
def wTup (as : XWA) : XW := fun ρ => (as ρ).bind fun x => if x.1.length ≤ 100000 then some (.tuple x.1, x.2) else none
def wLst (as : XWA) : XW := fun ρ => (as ρ).bind fun x => if x.1.length ≤ 100000 then some (.list x.1, x.2) else none
def wCB (f : List PD → Option PD) (as : XWA) : XW := fun ρ => (as ρ).bind fun x => (f x.1).bind fun z => some (z, x.2)
def wB (a : XW) : XWT := fun ρ => (a ρ).bind fun x => (isB x.1).bind fun b => some (b, x.2)
def wIf (c : XWT) (a b : XW) : XW := fun ρ => (c ρ).bind fun k => if k.1 = true then a k.2 else b k.2
def wTAnd (a b : XWT) : XWT := fun ρ => (a ρ).bind fun c => if c.1 = true then b c.2 else some (false, c.2)
def wTOr (a b : XWT) : XWT := fun ρ => (a ρ).bind fun c => if c.1 = true then some (true, c.2) else b c.2
def wTNot (a : XWT) : XWT := fun ρ => (a ρ).bind fun c => some (!c.1, c.2)
def wAnd (a b : XW) : XW := fun ρ => (wB a ρ).bind fun c => if c.1 = true then b c.2 else some (.bool false, c.2)
def wOr (a b : XW) : XW := fun ρ => (wB a ρ).bind fun c => if c.1 = true then some (.bool true, c.2) else b c.2
def wNot (a : XW) : XW := fun ρ => (wB a ρ).bind fun c => some (.bool (!c.1), c.2)
section
variable {ta tb te : TE} {t u : TT} {ts : TA} {a b w : XW} {p q : XWT} {as : XWA} {r : R2} {f : PD → PD → Option PD} {x : XE}
theorem sw_M (h : SE te x) : SW te (wM x) := fun pn F T H σ ρ d ρ' st e Q q => by
  obtain ⟨z, h1, h2⟩ := bind_some e
  cases h2
  exact h _ _ h1 (SF F T) σ H st.als st.mkd Q fun v H2 e2 rv => q v T H2 (st.ex e2) (Stp.ex st.al e2) rv
theorem sw_V (h : SE te x) : SW te (wV x) := fun pn F T H σ ρ d ρ' st e Q q => by
  obtain ⟨z, h1, h2⟩ := bind_some e
  by_cases c : flat z = true
  · rw [if_pos c] at h2
    cases h2
    exact h _ _ h1 F σ H st.al st.vw Q fun v H2 e2 rv => q v T H2 (st.ex e2) (Stp.ex st.al e2) (rv.flat (st.frz e2) c)
  · rw [if_neg c] at h2; cases h2
theorem swt_M {x : XT} (h : ST t x) : SWT t (wMT x) := fun pn F T H σ ρ d ρ' st e Q q => by
  obtain ⟨z, h1, h2⟩ := bind_some e
  cases h2
  exact h _ _ h1 (SF F T) σ H st.als st.mkd Q fun H2 e2 => q T H2 (st.ex e2) (Stp.ex st.al e2)
theorem swt_V {x : XT} (h : ST t x) : SWT t (wVT x) := fun pn F T H σ ρ d ρ' st e Q q => by
  obtain ⟨z, h1, h2⟩ := bind_some e
  cases h2
  exact h _ _ h1 F σ H st.al st.vw Q fun H2 e2 => q T H2 (st.ex e2) (Stp.ex st.al e2)
theorem swa_M {x : XA} (h : SA ts x) : SWA ts (wMA x) := fun pn F T H σ ρ d ρ' st e Q q => by
  obtain ⟨z, h1, h2⟩ := bind_some e
  cases h2
  exact h _ _ h1 (SF F T) σ H st.als st.mkd Q fun v H2 e2 rv => q v T H2 (st.ex e2) (Stp.ex st.al e2) rv
theorem swa_nil : SWA tNil wNil := fun pn F T H σ ρ d ρ' st e Q q => by cases e; exact q [] T H st Stp.refl .nil
theorem swa_cons (ha : SW ta a) (hs : SWA ts as) : SWA (tCons ta ts) (wCons a as) := fun pn F T H σ ρ d ρ' st e Q q => by
  obtain ⟨⟨x, ρ1⟩, h1, e⟩ := bind_some e
  obtain ⟨⟨xs, ρ2⟩, h2, e⟩ := bind_some e
  cases e
  exact ha pn F T H σ ρ x ρ1 st h1 _ fun v T1 H1 st1 s1 rv => hs pn F T1 H1 σ ρ1 xs ρ2 st1 h2 _ fun vs T2 H2 st2 s2 rs => q (v :: vs) T2 H2 st2 (s1.trans s2) (.cons (rv.ex s2.vis) rs)
theorem sw_op (hr : SO r f) (ha : SW ta a) (hb : SW tb b) : SW (tOp r ta tb) (wOp f a b) := fun pn F T H σ ρ d ρ' st e Q q => by
  obtain ⟨⟨x, ρ1⟩, h1, e⟩ := bind_some e
  obtain ⟨⟨y, ρ2⟩, h2, e⟩ := bind_some e
  obtain ⟨z, h3, e⟩ := bind_some e
  cases e
  exact ha pn F T H σ ρ x ρ1 st h1 _ fun v T1 H1 st1 s1 rv => hb pn F T1 H1 σ ρ1 y ρ2 st1 h2 _ fun w T2 H2 st2 s2 rw' =>
    hr x y d h3 (SF F T2) H2 v w st2.als (rv.ex s2.vis) rw' Q fun z H3 e3 rz => q z T2 H3 (st2.ex e3) ((s1.trans s2).trans (Stp.ex st2.al e3)) rz
theorem sw_un {r : V → Hp → VK → Prop} {f : PD → Option PD} (hr : SU r f) (ha : SW ta a) : SW (tUn r ta) (wUn f a) := fun pn F T H σ ρ d ρ' st e Q q => by
  obtain ⟨⟨x, ρ1⟩, h1, e⟩ := bind_some e
  obtain ⟨z, h3, e⟩ := bind_some e
  cases e
  exact ha pn F T H σ ρ x ρ1 st h1 _ fun v T1 H1 st1 s1 rv => hr x d h3 (SF F T1) H1 v st1.als rv Q fun z H3 e3 rz => q z T1 H3 (st1.ex e3) (s1.trans (Stp.ex st1.al e3)) rz
theorem sw_tup (hs : SWA ts as) : SW (tTupF ts) (wTup as) := fun pn F T H σ ρ d ρ' st e Q q => by
  obtain ⟨⟨xs, ρ1⟩, h1, e⟩ := bind_some e
  by_cases hl : xs.length ≤ 100000
  · rw [if_pos hl] at e
    cases e
    exact hs pn F T H σ ρ xs _ st h1 _ fun vs T1 H1 st1 s1 rv => ⟨by rw [rv.length]; exact Evl.sz_of hl, fun p o hp pl => q _ T1 _ (st1.ex (Ex.new hp)) (s1.trans (Stp.ex st1.al (Ex.new hp))) (.tup (new_ok st1.als hp) pl (rv.ex (hid_ex (Ex.new hp))))⟩
  · rw [if_neg hl] at e; cases e
theorem sw_lst (hs : SWA ts as) : SW (tLst ts) (wLst as) := fun pn F T H σ ρ d ρ' st e Q q => by
  obtain ⟨⟨xs, ρ1⟩, h1, e⟩ := bind_some e
  by_cases hl : xs.length ≤ 100000
  · rw [if_pos hl] at e
    cases e
    exact hs pn F T H σ ρ xs _ st h1 _ fun vs T1 H1 st1 s1 rv => ⟨by rw [rv.length]; exact Evl.sz_of hl, fun p hp => q _ T1 _ (st1.ex (Ex.new hp)) (s1.trans (Stp.ex st1.al (Ex.new hp))) (.lst (new_ok st1.als hp) (rv.ex (hid_ex (Ex.new hp))))⟩
  · rw [if_neg hl] at e; cases e
theorem sw_cb {r : List V → Hp → VK → Prop} {f : List PD → Option PD} (hr : SC r f) (hs : SWA ts as) : SW (tCB r ts) (wCB f as) := fun pn F T H σ ρ d ρ' st e Q q => by
  obtain ⟨⟨xs, ρ1⟩, h1, e⟩ := bind_some e
  obtain ⟨z, h3, e⟩ := bind_some e
  cases e
  exact hs pn F T H σ ρ xs _ st h1 _ fun vs T1 H1 st1 s1 rv => hr xs d h3 (SF F T1) H1 vs st1.als rv Q fun z H3 e3 rz => q z T1 H3 (st1.ex e3) (s1.trans (Stp.ex st1.al e3)) rz
theorem wB_some {ρ ρ' : Env} {c : Bool} (h : wB a ρ = some (c, ρ')) : a ρ = some (.bool c, ρ') := by
  obtain ⟨⟨x, ρ1⟩, h1, e⟩ := bind_some h
  obtain ⟨b, h2, e⟩ := bind_some e
  have z := isB_eq h2
  cases e
  subst z
  exact h1
theorem swt_B (ha : SW ta a) : SWT (tB ta) (wB a) := fun pn F T H σ ρ c ρ' st e Q q =>
  ha pn F T H σ ρ _ ρ' st (wB_some e) _ fun v T1 H1 st1 s1 rv => by cases rv; exact ⟨c, rfl, q T1 H1 st1 s1⟩
theorem swt_test (ha : SW ta a) : SWT (tTest ta) (wB a) := fun pn F T H σ ρ c ρ' st e Q q =>
  ha pn F T H σ ρ _ ρ' st (wB_some e) _ fun v T1 H1 st1 s1 rv => by cases rv; exact ⟨c, rfl, q T1 H1 st1 s1⟩
theorem sw_if (ht : SWT t p) (ha : SW ta a) (hb : SW tb b) : SW (tIf t ta tb) (wIf p a b) := fun pn F T H σ ρ d ρ' st e Q q => by
  obtain ⟨⟨c, ρ1⟩, h1, e⟩ := bind_some e
  refine ht pn F T H σ ρ c ρ1 st h1 _ fun T1 H1 st1 s1 => ?_
  cases c with
  | true => exact ha pn F T1 H1 σ ρ1 d ρ' st1 e Q fun v T2 H2 st2 s2 rv => q v T2 H2 st2 (s1.trans s2) rv
  | false => exact hb pn F T1 H1 σ ρ1 d ρ' st1 e Q fun v T2 H2 st2 s2 rv => q v T2 H2 st2 (s1.trans s2) rv
theorem swt_not (ht : SWT t p) : SWT (tNot t) (wTNot p) := fun pn F T H σ ρ c ρ' st e Q q => by
  obtain ⟨⟨c, ρ1⟩, h1, e⟩ := bind_some e
  cases e
  exact ht pn F T H σ ρ c _ st h1 _ fun T1 H1 st1 s1 => q T1 H1 st1 s1
theorem swt_and (ht : SWT t p) (hu : SWT u q) : SWT (tAnd t u) (wTAnd p q) := fun pn F T H σ ρ c ρ' st e Q k => by
  obtain ⟨⟨c, ρ1⟩, h1, e⟩ := bind_some e
  refine ht pn F T H σ ρ c ρ1 st h1 _ fun T1 H1 st1 s1 => ?_
  cases c with
  | true => exact hu pn F T1 H1 σ ρ1 _ ρ' st1 e Q fun T2 H2 st2 s2 => k T2 H2 st2 (s1.trans s2)
  | false => cases e; exact k T1 H1 st1 s1
theorem swt_or (ht : SWT t p) (hu : SWT u q) : SWT (tOr t u) (wTOr p q) := fun pn F T H σ ρ c ρ' st e Q k => by
  obtain ⟨⟨c, ρ1⟩, h1, e⟩ := bind_some e
  refine ht pn F T H σ ρ c ρ1 st h1 _ fun T1 H1 st1 s1 => ?_
  cases c with
  | true => cases e; exact k T1 H1 st1 s1
  | false => exact hu pn F T1 H1 σ ρ1 _ ρ' st1 e Q fun T2 H2 st2 s2 => k T2 H2 st2 (s1.trans s2)
theorem sw_and (ha : SW ta a) (hb : SW tb b) : SW (tAndV ta tb) (wAnd a b) := fun pn F T H σ ρ d ρ' st e Q q => by
  obtain ⟨⟨c, ρ1⟩, h1, e⟩ := bind_some e
  refine ha pn F T H σ ρ _ ρ1 st (wB_some h1) _ fun v T1 H1 st1 s1 rv => ?_
  cases rv
  refine ⟨c, rfl, ?_⟩
  cases c with
  | true => exact hb pn F T1 H1 σ ρ1 d ρ' st1 e Q fun v T2 H2 st2 s2 rv => q v T2 H2 st2 (s1.trans s2) rv
  | false => cases e; exact q _ T1 H1 st1 s1 (.bl false)
theorem sw_or (ha : SW ta a) (hb : SW tb b) : SW (tOrV ta tb) (wOr a b) := fun pn F T H σ ρ d ρ' st e Q q => by
  obtain ⟨⟨c, ρ1⟩, h1, e⟩ := bind_some e
  refine ha pn F T H σ ρ _ ρ1 st (wB_some h1) _ fun v T1 H1 st1 s1 rv => ?_
  cases rv
  refine ⟨c, rfl, ?_⟩
  cases c with
  | true => cases e; exact q _ T1 H1 st1 s1 (.bl true)
  | false => exact hb pn F T1 H1 σ ρ1 d ρ' st1 e Q fun v T2 H2 st2 s2 rv => q v T2 H2 st2 (s1.trans s2) rv
theorem sw_not (ha : SW ta a) : SW (tNotV ta) (wNot a) := fun pn F T H σ ρ d ρ' st e Q q => by
  obtain ⟨⟨c, ρ1⟩, h1, e⟩ := bind_some e
  cases e
  refine ha pn F T H σ ρ _ _ st (wB_some h1) _ fun v T1 H1 st1 s1 rv => ?_
  cases rv
  exact ⟨c, rfl, q _ T1 H1 st1 s1 (.bl _)⟩
end
/-! ### calls -/
/-- a def that leaves all as it stood -/
def spF (f : List PD → Option PD) : Sp := fun vs H Q _ => ∃ S ds d, Al S H ∧ RpAll (hid S H) vs ds ∧ f ds = some d ∧ ∀ v H2, Ex H H2 → Rp (hid S H2) v d → Q v H2
theorem se_call {f : List PD → Option PD} {ts : TA} {as : XA} (hs : SA ts as) : SE (tCall (spF f) [] E0 ts) (xCB f as) := fun ρ d h S σ H al en Q q => by
  obtain ⟨ds, h1, h⟩ := bind_some h
  exact hs ρ ds h1 S σ H al en _ fun vs H1 e1 rv => ⟨S, ds, d, al.ex e1, by rw [List.append_nil]; exact rv, h, fun v H2 e2 r2 => q v H2 (e1.trans e2) r2⟩
theorem sw_call {f : List PD → Option PD} {ts : TA} {as : XWA} (hs : SWA ts as) : SW (tCall (spF f) [] E0 ts) (wCB f as) := fun pn F T H σ ρ d ρ' st e Q q => by
  obtain ⟨⟨xs, ρ1⟩, h1, e⟩ := bind_some e
  obtain ⟨z, h3, e⟩ := bind_some e
  cases e
  exact hs pn F T H σ ρ xs _ st h1 _ fun vs T1 H1 st1 s1 rv => ⟨SF F T1, xs, d, st1.als, by rw [List.append_nil]; exact rv, h3, fun v H2 e2 r2 => q v T1 H2 (st1.ex e2) (s1.trans (Stp.ex st1.al e2)) r2⟩
/-- a def whose first argument is a list that it may write -/
def spW (g : List Cel → List PD → Option (PD × List Cel)) : Sp := fun vs H Q _ => ∃ (F : Hs) (a : Addr) (B : List Addr) (cs : List Cel) (ws : List V) (ds : List PD) (d : PD) (cs' : List Cel), vs = .ref a :: ws ∧ Al F H ∧ (∀ x ∈ a :: B, ¬ F x) ∧ (a :: B).Nodup ∧
  Own (hid (FL F (a :: B)) H) H (.ref a) cs (a :: B) ∧ RpAll (hid (FL F (a :: B)) H) ws ds ∧ g cs ds = some (d, cs') ∧
  ∀ v B' H', (∀ x, F x → H' x = H x) → Ex (hid (FL F (a :: B)) H) (hid (FL F (a :: B')) H') → (∀ x ∈ a :: B', ¬ F x) → (a :: B').Nodup → Own (hid (FL F (a :: B')) H') H' (.ref a) cs' (a :: B') → Rp (hid (FL F (a :: B')) H') v d → Q v H'
def ownAt (ρ : Env) (i : Nat) : Option (List Cel) := match ρ[i]? with
  | some (.own cs) => some cs
  | _ => none
theorem ownAt_eq {ρ : Env} {i : Nat} {cs : List Cel} (h : ownAt ρ i = some cs) : ρ[i]? = some (.own cs) := by
  unfold ownAt at h
  split at h
  · rename_i e
    cases h
    exact e
  · cases h
def wCallK (i : Nat) (g : List Cel → List PD → Option (PD × List Cel)) (as : XWA) : XW := fun ρ => (ownAt ρ i).bind fun _ => (as ρ).bind fun x => (ownAt x.2 i).bind fun cs => (g cs x.1).bind fun y => some (y.1, x.2.set i (.own y.2))
theorem sw_callK {i : Nat} {g : List Cel → List PD → Option (PD × List Cel)} {ts : TA} {as : XWA} (hs : SWA ts as) : SW (tCall (spW g) [] E0 (tCons (tVar i) ts)) (wCallK i g as) := fun pn F T H σ ρ d ρ' st e Q q => by
  obtain ⟨cs0, h0, e⟩ := bind_some e
  obtain ⟨⟨xs, ρ1⟩, h1, e⟩ := bind_some e
  obtain ⟨cs, hi, e⟩ := bind_some e
  obtain ⟨⟨z, cs'⟩, h3, e⟩ := bind_some e
  have hi : ρ1[i]? = some (.own cs) := ownAt_eq hi
  have e : some (z, ρ1.set i (.own cs')) = some (d, ρ') := e
  obtain ⟨rfl, rfl⟩ := Prod.mk.inj (Option.some.inj e)
  -- the slot holds the same address all along
  have key : ∀ (vs : List V) (T1 : Trs) (H1 : Hp), StOk pn F T1 H1 σ ρ1 → Stp F T H T1 H1 → RpAll (hid (SF F T1) H1) vs xs → ∀ a : Addr, σ[i]? = some (some (.ref a)) → spW g (.ref a :: vs) H1 Q E0 := by
    intro vs T1 H1 st1 s1 rv a ha
    obtain ⟨a', us, B, ha', hl, hc, hT⟩ := st1.at_own hi
    have ea : a' = a := by rw [ha'] at ha; cases ha; rfl
    subst ea
    obtain ⟨F1, hF1⟩ : ∃ F1 : Hs, F1 = fun x => F x ∨ ∃ j, j ≠ i ∧ x ∈ T1 j := ⟨_, rfl⟩
    have eqv : ∀ x, FL F1 (a' :: B) x ↔ SF F T1 x := fun x => by
      rw [hF1]
      constructor
      · rintro ((h | ⟨j, _, h⟩) | h)
        · exact .inl h
        · exact .inr ⟨j, h⟩
        · exact .inr ⟨i, by rw [hT]; exact h⟩
      · rintro (h | ⟨j, h⟩)
        · exact .inl (.inl h)
        · by_cases c : j = i
          · subst c; rw [hT] at h; exact .inr h
          · exact .inl (.inr ⟨j, c, h⟩)
    have eh : hid (FL F1 (a' :: B)) H1 = hid (SF F T1) H1 := hid_eq eqv
    refine ⟨F1, a', B, cs, vs, xs, z, cs', rfl, ?_, ?_, by rw [← hT]; exact st1.nd i, ⟨a', us, B, rfl, hl, by rw [eh]; exact hc, rfl⟩, by rw [eh]; exact rv, h3, fun v B' H' fr vis off nd ow rv' => ?_⟩
    · intro x hx
      rw [hF1] at hx
      exact st1.als x (hx.elim .inl fun ⟨j, _, h⟩ => .inr ⟨j, h⟩)
    · intro x hx hx2
      rw [hF1] at hx2
      have hx3 : x ∈ T1 i := by rw [hT]; exact hx
      rcases hx2 with h | ⟨j, c, h⟩
      · exact st1.off i x hx3 h
      · exact c (st1.dis j i x h hx3)
    · have eqv' : ∀ x, FL F1 (a' :: B') x ↔ SF F (setT T1 i (a' :: B')) x := fun x => by
        rw [hF1]
        constructor
        · rintro ((h | ⟨j, c, h⟩) | h)
          · exact .inl h
          · exact .inr ⟨j, by rw [setT_ne c]; exact h⟩
          · exact .inr ⟨i, by rw [setT_same]; exact h⟩
        · rintro (h | ⟨j, h⟩)
          · exact .inl (.inl h)
          · by_cases c : j = i
            · subst c; rw [setT_same] at h; exact .inr h
            · rw [setT_ne c] at h; exact .inl (.inr ⟨j, c, h⟩)
      have eh' : hid (FL F1 (a' :: B')) H' = hid (SF F (setT T1 i (a' :: B'))) H' := hid_eq eqv'
      rw [eh, eh'] at vis
      rw [eh'] at ow rv'
      have il : i < ρ1.length := (List.getElem?_eq_some_iff.mp hi).1
      refine q v (setT T1 i (a' :: B')) H' ⟨by rw [List.length_set]; exact st1.len, fun x hx => ?_, fun j x h => ?_, fun j k x h h' => ?_, fun j => ?_, fun j hj => ?_, fun j s hs => ?_, st1.pin⟩ (s1.trans ⟨fun x hx => fr x (by rw [hF1]; exact .inl hx), vis⟩) rv'
      · rw [fr x (by rw [hF1]; exact .inl hx)]
        exact st1.al x hx
      · by_cases c : j = i
        · subst c
          rw [setT_same] at h
          exact fun z => off x h (by rw [hF1]; exact .inl z)
        · rw [setT_ne c] at h
          exact st1.off j x h
      · by_cases c : j = i
        · subst c
          rw [setT_same] at h
          by_cases c2 : k = j
          · exact c2.symm
          · rw [setT_ne c2] at h'
            exact absurd (show F1 x by rw [hF1]; exact .inr ⟨k, c2, h'⟩) (off x h)
        · rw [setT_ne c] at h
          by_cases c2 : k = i
          · subst c2
            rw [setT_same] at h'
            exact absurd (show F1 x by rw [hF1]; exact .inr ⟨j, c, h⟩) (off x h')
          · rw [setT_ne c2] at h'
            exact st1.dis j k x h h'
      · by_cases c : j = i
        · subst c; rw [setT_same]; exact nd
        · rw [setT_ne c]; exact st1.nd j
      · rw [List.length_set] at hj
        rw [setT_ne (by omega)]
        exact st1.out j hj
      · by_cases c : i = j
        · subst c
          rw [List.getElem?_set_self il] at hs
          cases hs
          rw [setT_same]
          exact ⟨_, ha', _, rfl, ow⟩
        · rw [List.getElem?_set_ne c] at hs
          obtain ⟨o, h1, h2⟩ := st1.sl j s hs
          rw [setT_ne (fun z => c z.symm)]
          exact ⟨o, h1, h2.mv vis fun x hx => fr x (by rw [hF1]; exact .inr ⟨j, fun z => c z.symm, hx⟩)⟩
  obtain ⟨a, _, _, ha, _⟩ := st.at_own (ownAt_eq h0)
  refine ⟨.ref a, ha, hs pn F T H σ ρ xs ρ1 st h1 _ fun vs T1 H1 st1 s1 rv => ?_⟩
  show spW g (V.ref a :: vs ++ []) H1 Q E0
  rw [List.append_nil]
  exact key vs T1 H1 st1 s1 rv a ha
end Uv

namespace Uv
open PySem PySem.Spec PyProof.Rows L2
open Evl (Ex)
variable [kk : KK]
/-! ### what is walked -/
def Loose (H : Hp) (v : V) (x : PD) : Prop := ∃ a xs ds, v = .ref a ∧ H a = some (.tup xs) ∧ RpAll H xs ds ∧ x = .tuple ds
def Rk (b : Bool) (H : Hp) (v : V) (x : PD) : Prop := Rp H v x ∨ (b = true ∧ Loose H v x)
def Wk (b : Bool) (S : Hs) (J : It) (xs : List PD) (H : Hp) : Prop := ∀ S' H2, Ex (hid S H) (hid S' H2) → Al S' H2 → J.stop xs.length H2 ∧ ∀ i x, xs[i]? = some x → J.go i H2 ∧ ∀ v H3, J.yld i H2 v H3 → Ex H2 H3 ∧ Rk b (hid S' H3) v x
def pairsD (xs : List PD) : List PD := xs.zipIdx.map fun p => .tuple [.int (p.2 : Nat), p.1]
def zipD (xs ys : List PD) : List PD := List.zipWith (fun x y => .tuple [x, y]) xs ys
section
variable {S : Hs} {H : Hp}
theorem wk_tup {a : Addr} {o : Obj} {vs : List V} {xs : List PD} (ha : hid S H a = some (fz o vs)) (ra : RpAll (hid S H) vs xs) : Wk false S (Itt K a) xs H := fun S' H2 e2 al2 => by
  have sq : SqT K H2 a vs := .inl (.inr ⟨_, hid_le _ _ (e2 _ _ ha)⟩)
  have ra2 := ra.ex e2
  refine ⟨⟨_, sq, Nat.le_of_eq ra2.length⟩, fun i x hx => ?_⟩
  obtain ⟨v, hv, rv⟩ := ra2.get hx
  refine ⟨⟨_, v, sq, hv⟩, fun w H3 y => ?_⟩
  obtain ⟨y1, y2⟩ := y
  have e := y2 _ sq
  rw [hv] at e
  cases e
  subst y1
  exact ⟨Ex.refl _, .inl rv⟩
theorem wk_lst {a : Addr} {vs : List V} {xs : List PD} (ha : hid S H a = some (.lst vs)) (ra : RpAll (hid S H) vs xs) : Wk false S (Itl K a) xs H := fun S' H2 e2 al2 => by
  have sq : SqL K H2 a vs := .inl (.inl (hid_le _ _ (e2 _ _ ha)))
  have ra2 := ra.ex e2
  refine ⟨⟨_, sq, Nat.le_of_eq ra2.length⟩, fun i x hx => ?_⟩
  obtain ⟨v, hv, rv⟩ := ra2.get hx
  refine ⟨⟨_, v, sq, hv⟩, fun w H3 y => ?_⟩
  obtain ⟨y1, y2⟩ := y
  have e := y2 _ sq
  rw [hv] at e
  cases e
  subst y1
  exact ⟨Ex.refl _, .inl rv⟩
theorem wk_scr {a : Addr} {vs : List V} {xs : List PD} (ha : SqL K (hid S H) a vs) (ra : RpAll (hid S H) vs xs) : Wk false S (Itl K a) xs H := fun S' H2 e2 al2 => by
  have sq : SqL K H2 a vs := sqx hid_le (sqx e2 ha)
  have ra2 := ra.ex e2
  refine ⟨⟨_, sq, Nat.le_of_eq ra2.length⟩, fun i x hx => ?_⟩
  obtain ⟨v, hv, rv⟩ := ra2.get hx
  refine ⟨⟨_, v, sq, hv⟩, fun w H3 y => ?_⟩
  obtain ⟨y1, y2⟩ := y
  have e := y2 _ sq
  rw [hv] at e
  cases e
  subst y1
  exact ⟨Ex.refl _, .inl rv⟩
theorem wk_rng {lo : Int} {n : Nat} : Wk false S (Itr lo n) ((List.range n).map fun k => .int (lo + (k : Nat))) H := fun S' H2 e2 al2 => by
  refine ⟨by show n ≤ _; simp, fun i x hx => ?_⟩
  rw [List.getElem?_map] at hx
  cases qq : (List.range n)[i]? with
  | none => rw [qq] at hx; cases hx
  | some k =>
    rw [qq] at hx
    obtain ⟨hi, ek⟩ := List.getElem?_eq_some_iff.mp qq
    have ek2 : i = k := by simpa using ek
    subst ek2
    cases hx
    refine ⟨by show i < n; simpa using hi, fun v H3 y => ?_⟩
    obtain ⟨y1, y2⟩ := y
    subst y1 y2
    exact ⟨Ex.refl _, .inl (.int _)⟩
theorem pairs_get {xs : List PD} {i : Nat} {x : PD} (hx : (pairsD xs)[i]? = some x) : ∃ y, xs[i]? = some y ∧ x = .tuple [.int (i : Nat), y] := by
  unfold pairsD at hx
  rw [List.getElem?_map, List.getElem?_zipIdx] at hx
  cases q : xs[i]? with
  | none => rw [q] at hx; simp at hx
  | some y =>
    rw [q] at hx
    refine ⟨y, rfl, ?_⟩
    simp at hx
    exact hx.symm
theorem loose2 {S' : Hs} {H2 : Hp} {T : Addr} {u v : V} {x y : PD} (al : Al S' H2) (hT : H2 T = none) (ru : Rp (hid S' H2) u x) (rv : Rp (hid S' H2) v y) : Ex H2 (upd H2 T (.tup [u, v])) ∧ Rk true (hid S' (upd H2 T (.tup [u, v]))) (.ref T) (.tuple [x, y]) :=
  ⟨Ex.new hT, .inr ⟨rfl, T, _, _, rfl, new_ok al hT, .cons (ru.ex (hid_ex (Ex.new hT))) (.cons (rv.ex (hid_ex (Ex.new hT))) .nil), rfl⟩⟩
theorem wk_enumT {a : Addr} {o : Obj} {vs : List V} {xs : List PD} (ha : hid S H a = some (fz o vs)) (ra : RpAll (hid S H) vs xs) : Wk true S (Un.IteT K a) (pairsD xs) H := fun S' H2 e2 al2 => by
  have sq : SqT K H2 a vs := .inl (.inr ⟨_, hid_le _ _ (e2 _ _ ha)⟩)
  have ra2 := ra.ex e2
  refine ⟨⟨_, sq, by rw [ra2.length]; simp [pairsD]⟩, fun i x hx => ?_⟩
  obtain ⟨y, hy, rfl⟩ := pairs_get hx
  obtain ⟨v, hv, rv⟩ := ra2.get hy
  refine ⟨⟨_, v, sq, hv⟩, fun w H3 yl => ?_⟩
  obtain ⟨T, z, rfl, e2, rfl, e4⟩ := yl
  have ez := e4 _ sq
  rw [hv] at ez
  cases ez
  exact loose2 al2 e2 (.int _) rv
theorem wk_enumL {a : Addr} {vs : List V} {xs : List PD} (ha : hid S H a = some (.lst vs)) (ra : RpAll (hid S H) vs xs) : Wk true S (Ite K a) (pairsD xs) H := fun S' H2 e2 al2 => by
  have sq : SqL K H2 a vs := .inl (.inl (hid_le _ _ (e2 _ _ ha)))
  have ra2 := ra.ex e2
  refine ⟨⟨_, sq, by rw [ra2.length]; simp [pairsD]⟩, fun i x hx => ?_⟩
  obtain ⟨y, hy, rfl⟩ := pairs_get hx
  obtain ⟨v, hv, rv⟩ := ra2.get hy
  refine ⟨⟨_, v, sq, hv⟩, fun w H3 yl => ?_⟩
  obtain ⟨T, z, rfl, e2, rfl, e4⟩ := yl
  have ez := e4 _ sq
  rw [hv] at ez
  cases ez
  exact loose2 al2 e2 (.int _) rv
theorem zip_get {xs ys : List PD} {i : Nat} {x : PD} (hx : (zipD xs ys)[i]? = some x) : ∃ y z, xs[i]? = some y ∧ ys[i]? = some z ∧ x = .tuple [y, z] := by
  unfold zipD at hx
  rw [List.getElem?_zipWith] at hx
  cases q1 : xs[i]? with
  | none => rw [q1] at hx; simp at hx
  | some y =>
    cases q2 : ys[i]? with
    | none => rw [q1, q2] at hx; simp at hx
    | some z =>
      rw [q1, q2] at hx
      simp at hx
      exact ⟨y, z, rfl, rfl, hx.symm⟩
theorem wk_zipT {a b : Addr} {o o' : Obj} {vs us : List V} {xs ys : List PD} (ha : hid S H a = some (fz o vs)) (ra : RpAll (hid S H) vs xs) (hb : hid S H b = some (fz o' us)) (rb : RpAll (hid S H) us ys) : Wk true S (RZ.ItzT K a b) (zipD xs ys) H := fun S' H2 e2 al2 => by
  have sq : SqT K H2 a vs := .inl (.inr ⟨_, hid_le _ _ (e2 _ _ ha)⟩)
  have sq2 : SqT K H2 b us := .inl (.inr ⟨_, hid_le _ _ (e2 _ _ hb)⟩)
  have ra2 := ra.ex e2
  have rb2 := rb.ex e2
  refine ⟨⟨_, _, sq, sq2, by rw [ra2.length, rb2.length]; unfold zipD; rw [List.length_zipWith]; omega⟩, fun i x hx => ?_⟩
  obtain ⟨y, z, hy, hz, rfl⟩ := zip_get hx
  obtain ⟨v, hv, rv⟩ := ra2.get hy
  obtain ⟨u, hu, ru⟩ := rb2.get hz
  refine ⟨⟨_, _, v, u, sq, sq2, hv, hu⟩, fun w H3 yl => ?_⟩
  obtain ⟨T, z1, z2, rfl, e2, rfl, e4, e5⟩ := yl
  have ez := e4 _ sq
  rw [hv] at ez
  cases ez
  have ez2 := e5 _ sq2
  rw [hu] at ez2
  cases ez2
  exact loose2 al2 e2 rv ru
theorem wk_zipL {a b : Addr} {vs us : List V} {xs ys : List PD} (ha : hid S H a = some (.lst vs)) (ra : RpAll (hid S H) vs xs) (hb : hid S H b = some (.lst us)) (rb : RpAll (hid S H) us ys) : Wk true S (Itz K a b) (zipD xs ys) H := fun S' H2 e2 al2 => by
  have sq : SqL K H2 a vs := .inl (.inl (hid_le _ _ (e2 _ _ ha)))
  have sq2 : SqL K H2 b us := .inl (.inl (hid_le _ _ (e2 _ _ hb)))
  have ra2 := ra.ex e2
  have rb2 := rb.ex e2
  refine ⟨⟨_, _, sq, sq2, by rw [ra2.length, rb2.length]; unfold zipD; rw [List.length_zipWith]; omega⟩, fun i x hx => ?_⟩
  obtain ⟨y, z, hy, hz, rfl⟩ := zip_get hx
  obtain ⟨v, hv, rv⟩ := ra2.get hy
  obtain ⟨u, hu, ru⟩ := rb2.get hz
  refine ⟨⟨_, _, v, u, sq, sq2, hv, hu⟩, fun w H3 yl => ?_⟩
  obtain ⟨T, z1, z2, rfl, e2, rfl, e4, e5⟩ := yl
  have ez := e4 _ sq
  rw [hv] at ez
  cases ez
  have ez2 := e5 _ sq2
  rw [hu] at ez2
  cases ez2
  exact loose2 al2 e2 rv ru
end
/-! ### sources, from an expression or from arguments -/
def iSeq (K : PySem.W.Frag) (te : TE) : TI := fun σ H R => iList K te σ H R ∨ iTup K te σ H R
def iEnumU (K : PySem.W.Frag) (ta : TA) : TI := fun σ H R => iEnum K ta σ H R ∨ Un.iEnumT K ta σ H R
def seqP : PD → Option (List PD)
  | .list ds => some ds
  | .tuple ds => some ds
  | .dict [(.none, .list ds)] => some ds
  | _ => none
def rngP : List PD → Option (List PD)
  | [.int n] => if -(2 ^ 62) ≤ n ∧ n < 2 ^ 62 then some ((List.range n.toNat).map fun k => .int (0 + (k : Nat))) else none
  | _ => none
def rng2P : List PD → Option (List PD)
  | [.int i, .int j] => if -(2 ^ 62) ≤ i ∧ i < 2 ^ 62 ∧ -(2 ^ 62) ≤ j ∧ j < 2 ^ 62 then some ((List.range (j - i).toNat).map fun k => .int (i + (k : Nat))) else none
  | _ => none
def enumP : List PD → Option (List PD)
  | [.list ds] => some (pairsD ds)
  | [.tuple ds] => some (pairsD ds)
  | _ => none
def zipP : List PD → Option (List PD)
  | [.list xs, .list ys] => some (zipD xs ys)
  | [.tuple xs, .tuple ys] => some (zipD xs ys)
  | _ => none
abbrev XI := VE → Option (List PD)
def Es (b : Bool) (wi : TI) (ρ : VE) (xs : List PD) : Prop := ∀ S σ H, Al S H → En (hid S H) σ ρ → ∀ R : It → Hp → Prop, (∀ J H1, Ex H H1 → Wk b S J xs H1 → R J H1) → wi σ H R
def SI (b : Bool) (wi : TI) (x : XI) : Prop := ∀ ρ xs, x ρ = some xs → Es b wi ρ xs
abbrev XWI := Env → Option (List PD × Env)
def SWI (b : Bool) (wi : TI) (w : XWI) : Prop := ∀ pn F T H σ ρ xs ρ', StOk pn F T H σ ρ → w ρ = some (xs, ρ') → ∀ R : It → Hp → Prop, (∀ J T' H', StOk pn F T' H' σ ρ' → Stp F T H T' H' → Wk b (SF F T') J xs H' → R J H') → wi σ H R
def xiE (a : XE) : XI := fun ρ => (a ρ).bind seqP
def xiA (f : List PD → Option (List PD)) (as : XA) : XI := fun ρ => (as ρ).bind f
def wiE (a : XW) : XWI := fun ρ => (a ρ).bind fun x => (seqP x.1).bind fun xs => some (xs, x.2)
def wiA (f : List PD → Option (List PD)) (as : XWA) : XWI := fun ρ => (as ρ).bind fun x => (f x.1).bind fun xs => some (xs, x.2)
def wiM (x : XI) : XWI := fun ρ => (x (mk ρ)).bind fun xs => some (xs, ρ)
section
variable {te : TE} {ts : TA}
/-- the arguments' readings at work -/
def Ai (b : Bool) (wi : TA → TI) (f : List PD → Option (List PD)) : Prop := ∀ (ts : TA) (S : Hs) (σ : L2.St) (H : Hp) (R : It → Hp → Prop) (ds xs : List PD), f ds = some xs →
  (∀ Q : List V → Hp → Prop, (∀ vs H1, Al S H1 → RpAll (hid S H1) vs ds → (∀ J, Wk b S J xs H1 → R J H1) → Q vs H1) → ts σ H Q) → wi ts σ H R
theorem core_rng {S : Hs} {vs : List V} {H1 : Hp} {ds xs : List PD} (h : rngP ds = some xs) (rv : RpAll (hid S H1) vs ds) : ∃ j : Int, vs = [.int j] ∧ -(2 ^ 62) ≤ j ∧ j < 2 ^ 62 ∧ Wk false S (Itr 0 j.toNat) xs H1 := by
  unfold rngP at h
  split at h
  · rename_i n
    by_cases c : -(2 ^ 62) ≤ n ∧ n < 2 ^ 62
    · rw [if_pos c] at h
      cases h
      cases rv with
      | cons h1 t =>
        cases t
        cases h1
        exact ⟨n, rfl, c.1, c.2, wk_rng⟩
    · rw [if_neg c] at h; cases h
  · cases h
theorem core_rng2 {S : Hs} {vs : List V} {H1 : Hp} {ds xs : List PD} (h : rng2P ds = some xs) (rv : RpAll (hid S H1) vs ds) : ∃ i j : Int, vs = [.int i, .int j] ∧ (-(2 ^ 62) ≤ i ∧ i < 2 ^ 62 ∧ -(2 ^ 62) ≤ j ∧ j < 2 ^ 62) ∧ Wk false S (Itr i (j - i).toNat) xs H1 := by
  unfold rng2P at h
  split at h
  · rename_i n m
    by_cases c : -(2 ^ 62) ≤ n ∧ n < 2 ^ 62 ∧ -(2 ^ 62) ≤ m ∧ m < 2 ^ 62
    · rw [if_pos c] at h
      cases h
      cases rv with
      | cons h1 t =>
        cases t with
        | cons h2 t =>
          cases t
          cases h1; cases h2
          exact ⟨n, m, rfl, c, wk_rng⟩
    · rw [if_neg c] at h; cases h
  · cases h
theorem core_enum {S : Hs} {vs : List V} {H1 : Hp} {ds xs : List PD} (h : enumP ds = some xs) (rv : RpAll (hid S H1) vs ds) : (∃ a us, vs = [.ref a] ∧ SqL K H1 a us ∧ Wk true S (Ite K a) xs H1) ∨ ∃ a us, vs = [.ref a] ∧ SqT K H1 a us ∧ Wk true S (Un.IteT K a) xs H1 := by
  unfold enumP at h
  split at h
  · cases h
    cases rv with
    | cons h1 t =>
      cases t
      cases h1 with
      | lst ha ra => exact .inl ⟨_, _, rfl, .inl (.inl (hid_le _ _ ha)), wk_enumL ha ra⟩
  · cases h
    cases rv with
    | cons h1 t =>
      cases t
      cases h1 with
      | tup ha _ ra => exact .inr ⟨_, _, rfl, .inl (.inr ⟨_, hid_le _ _ ha⟩), wk_enumT ha ra⟩
  · cases h
theorem core_zip {S : Hs} {vs : List V} {H1 : Hp} {ds xs : List PD} {R : It → Hp → Prop} (h : zipP ds = some xs) (rv : RpAll (hid S H1) vs ds) (q : ∀ J, Wk true S J xs H1 → R J H1) : ∃ a b us ws, vs = [.ref a, .ref b] ∧ ((SqL K H1 a us ∧ SqL K H1 b ws ∧ R (Itz K a b) H1) ∨ (SqT K H1 a us ∧ SqT K H1 b ws ∧ R (RZ.ItzT K a b) H1)) := by
  unfold zipP at h
  split at h
  · cases h
    cases rv with
    | cons h1 t =>
      cases t with
      | cons h2 t =>
        cases t
        cases h1 with
        | lst ha ra =>
          cases h2 with
          | lst hb rb => exact ⟨_, _, _, _, rfl, .inl ⟨.inl (.inl (hid_le _ _ ha)), .inl (.inl (hid_le _ _ hb)), q _ (wk_zipL ha ra hb rb)⟩⟩
  · cases h
    cases rv with
    | cons h1 t =>
      cases t with
      | cons h2 t =>
        cases t
        cases h1 with
        | tup ha _ ra =>
          cases h2 with
          | tup hb _ rb => exact ⟨_, _, _, _, rfl, .inr ⟨.inl (.inr ⟨_, hid_le _ _ ha⟩), .inl (.inr ⟨_, hid_le _ _ hb⟩), q _ (wk_zipT ha ra hb rb)⟩⟩
  · cases h
theorem si_seq {a : XE} (ha : SE te a) : SI false (iSeq K te) (xiE a) := fun ρ xs h S σ H al en R q => by
  obtain ⟨d, h1, h⟩ := bind_some h
  cases d with
  | list ds =>
    cases h
    refine .inl (ha ρ _ h1 S σ H al en _ fun v H1 e1 rv => ?_)
    cases rv with
    | lst hx ra => exact ⟨_, rfl, ⟨_, .inl (.inl (hid_le _ _ hx))⟩, q _ H1 e1 (wk_lst hx ra)⟩
  | tuple ds =>
    cases h
    refine .inr (ha ρ _ h1 S σ H al en _ fun v H1 e1 rv => ?_)
    cases rv with
    | tup hx _ ra => exact ⟨_, rfl, ⟨_, .inl (.inr ⟨_, hid_le _ _ hx⟩)⟩, q _ H1 e1 (wk_tup hx ra)⟩
  | dict kvs =>
    refine .inl (ha ρ _ h1 S σ H al en _ fun v H1 e1 rv => ?_)
    cases rv with
    | dic _ => cases h
    | scr hs ra => cases h; exact ⟨_, rfl, ⟨_, sqx hid_le hs⟩, q _ H1 e1 (wk_scr hs ra)⟩
  | _ => cases h
theorem si_rng {as : XA} (hs : SA ts as) : SI false (iRng1 ts) (xiA rngP as) := fun ρ xs h S σ H al en R q => by
  obtain ⟨ds, h1, h⟩ := bind_some h
  refine hs ρ ds h1 S σ H al en _ fun vs H1 e1 rv => ?_
  obtain ⟨j, h2, h3, h4, w⟩ := core_rng h rv
  exact ⟨j, h2, h3, h4, q _ H1 e1 w⟩
theorem si_rng2 {as : XA} (hs : SA ts as) : SI false (iRng2 ts) (xiA rng2P as) := fun ρ xs h S σ H al en R q => by
  obtain ⟨ds, h1, h⟩ := bind_some h
  refine hs ρ ds h1 S σ H al en _ fun vs H1 e1 rv => ?_
  obtain ⟨i, j, h2, h3, w⟩ := core_rng2 h rv
  exact ⟨i, j, h2, h3, q _ H1 e1 w⟩
theorem enum_l {ds xs : List PD} (h : enumP ds = some xs) : (∃ l, ds = [.list l]) ∨ ∃ l, ds = [.tuple l] := by
  unfold enumP at h
  split at h
  · exact .inl ⟨_, rfl⟩
  · exact .inr ⟨_, rfl⟩
  · cases h
theorem si_enum {as : XA} (hs : SA ts as) : SI true (iEnumU K ts) (xiA enumP as) := fun ρ xs h S σ H al en R q => by
  obtain ⟨ds, h1, h⟩ := bind_some h
  rcases enum_l h with ⟨l, rfl⟩ | ⟨l, rfl⟩
  · refine .inl (hs ρ _ h1 S σ H al en _ fun vs H1 e1 rv => ?_)
    cases h
    cases rv with
    | cons g1 t =>
      cases t
      cases g1 with
      | lst ha ra => exact ⟨_, _, rfl, .inl (.inl (hid_le _ _ ha)), q _ H1 e1 (wk_enumL ha ra)⟩
  · refine .inr (hs ρ _ h1 S σ H al en _ fun vs H1 e1 rv => ?_)
    cases h
    cases rv with
    | cons g1 t =>
      cases t
      cases g1 with
      | tup ha _ ra => exact ⟨_, _, rfl, .inl (.inr ⟨_, hid_le _ _ ha⟩), q _ H1 e1 (wk_enumT ha ra)⟩
theorem si_zip {as : XA} (hs : SA ts as) : SI true (RZ.iZipA K ts) (xiA zipP as) := fun ρ xs h S σ H al en R q => by
  obtain ⟨ds, h1, h⟩ := bind_some h
  exact hs ρ ds h1 S σ H al en _ fun vs H1 e1 rv => core_zip h rv fun J w => q J H1 e1 w
theorem swi_seq {a : XW} (ha : SW te a) : SWI false (iSeq K te) (wiE a) := fun pn F T H σ ρ xs ρ' st h R q => by
  obtain ⟨⟨d, ρ1⟩, h1, h⟩ := bind_some h
  obtain ⟨ys, h2, h⟩ := bind_some h
  cases h
  cases d with
  | list ds =>
    cases h2
    refine .inl (ha pn F T H σ ρ _ _ st h1 _ fun v T1 H1 st1 s1 rv => ?_)
    cases rv with
    | lst hx ra => exact ⟨_, rfl, ⟨_, .inl (.inl (hid_le _ _ hx))⟩, q _ T1 H1 st1 s1 (wk_lst hx ra)⟩
  | tuple ds =>
    cases h2
    refine .inr (ha pn F T H σ ρ _ _ st h1 _ fun v T1 H1 st1 s1 rv => ?_)
    cases rv with
    | tup hx _ ra => exact ⟨_, rfl, ⟨_, .inl (.inr ⟨_, hid_le _ _ hx⟩)⟩, q _ T1 H1 st1 s1 (wk_tup hx ra)⟩
  | dict kvs =>
    refine .inl (ha pn F T H σ ρ _ _ st h1 _ fun v T1 H1 st1 s1 rv => ?_)
    cases rv with
    | dic _ => cases h2
    | scr hs ra => cases h2; exact ⟨_, rfl, ⟨_, sqx hid_le hs⟩, q _ T1 H1 st1 s1 (wk_scr hs ra)⟩
  | _ => cases h2
theorem swi_rng {as : XWA} (hs : SWA ts as) : SWI false (iRng1 ts) (wiA rngP as) := fun pn F T H σ ρ xs ρ' st h R q => by
  obtain ⟨⟨ds, ρ1⟩, h1, h⟩ := bind_some h
  obtain ⟨ys, h2, h⟩ := bind_some h
  cases h
  refine hs pn F T H σ ρ ds _ st h1 _ fun vs T1 H1 st1 s1 rv => ?_
  obtain ⟨j, h2, h3, h4, w⟩ := core_rng h2 rv
  exact ⟨j, h2, h3, h4, q _ T1 H1 st1 s1 w⟩
theorem swi_rng2 {as : XWA} (hs : SWA ts as) : SWI false (iRng2 ts) (wiA rng2P as) := fun pn F T H σ ρ xs ρ' st h R q => by
  obtain ⟨⟨ds, ρ1⟩, h1, h⟩ := bind_some h
  obtain ⟨ys, h2, h⟩ := bind_some h
  cases h
  refine hs pn F T H σ ρ ds _ st h1 _ fun vs T1 H1 st1 s1 rv => ?_
  obtain ⟨i, j, h2, h3, w⟩ := core_rng2 h2 rv
  exact ⟨i, j, h2, h3, q _ T1 H1 st1 s1 w⟩
theorem swi_enum {as : XWA} (hs : SWA ts as) : SWI true (iEnumU K ts) (wiA enumP as) := fun pn F T H σ ρ xs ρ' st h R q => by
  obtain ⟨⟨ds, ρ1⟩, h1, h⟩ := bind_some h
  obtain ⟨ys, h2, h⟩ := bind_some h
  cases h
  rcases enum_l h2 with ⟨l, e⟩ | ⟨l, e⟩ <;> (have e : ds = _ := e; subst e)
  · refine .inl (hs pn F T H σ ρ _ _ st h1 _ fun vs T1 H1 st1 s1 rv => ?_)
    cases h2
    cases rv with
    | cons g1 t =>
      cases t
      cases g1 with
      | lst ha ra => exact ⟨_, _, rfl, .inl (.inl (hid_le _ _ ha)), q _ T1 H1 st1 s1 (wk_enumL ha ra)⟩
  · refine .inr (hs pn F T H σ ρ _ _ st h1 _ fun vs T1 H1 st1 s1 rv => ?_)
    cases h2
    cases rv with
    | cons g1 t =>
      cases t
      cases g1 with
      | tup ha _ ra => exact ⟨_, _, rfl, .inl (.inr ⟨_, hid_le _ _ ha⟩), q _ T1 H1 st1 s1 (wk_enumT ha ra)⟩
theorem swi_zip {as : XWA} (hs : SWA ts as) : SWI true (RZ.iZipA K ts) (wiA zipP as) := fun pn F T H σ ρ xs ρ' st h R q => by
  obtain ⟨⟨ds, ρ1⟩, h1, h⟩ := bind_some h
  obtain ⟨ys, h2, h⟩ := bind_some h
  cases h
  exact hs pn F T H σ ρ ds _ st h1 _ fun vs T1 H1 st1 s1 rv => core_zip h2 rv fun J w => q J T1 H1 st1 s1 w
end
end Uv

namespace Uv
open PySem PySem.Spec PyProof.Rows L2
open Evl (Ex)
variable [kk : KK]
/-! ### targets -/
def Off (vs : List Nat) (σ σ' : L2.St) : Prop := σ'.length = σ.length ∧ ∀ (i : Nat), i ∉ vs → σ'[i]? = σ[i]?
theorem Off.refl {vs : List Nat} {σ : L2.St} : Off vs σ σ := ⟨rfl, fun _ _ => rfl⟩
theorem Off.name {i : Nat} {σ : L2.St} {o : Option V} : Off [i] σ (σ.set i o) := ⟨List.length_set, fun j hj => List.getElem?_set_ne fun z => hj (by rw [z]; exact List.mem_cons_self ..)⟩
theorem Off.trans {vs ws : List Nat} {σ σ1 σ2 : L2.St} (a : Off vs σ σ1) (b : Off ws σ1 σ2) : Off (vs ++ ws) σ σ2 := ⟨b.1.trans a.1, fun i hi => (b.2 i fun z => hi (List.mem_append_right _ z)).trans (a.2 i fun z => hi (List.mem_append_left _ z))⟩
def gTU (K : PySem.W.Frag) (n : Nat) (t : TGs) : TG := fun v σ H Q => gTup K n t v σ H Q ∨ gUnl K n t v σ H Q
theorem PG.or {X : Cx} {e : Expr} {t u : TG} (h : PG X e t) (h' : PG X e u) : PG X e (fun v σ H Q => t v σ H Q ∨ u v σ H Q) := ⟨fun pins s σ H v w Q I r q => q.elim (h.run pins s σ H v w Q I r) (h'.run pins s σ H v w Q I r)⟩
abbrev XGV := PD → VE → Option VE
abbrev XGVs := List PD → VE → Option VE
def gvName (i : Nat) : XGV := fun x ρ => some (ρ.set i (some x))
def gvNil : XGVs := fun xs ρ => match xs with
  | [] => some ρ
  | _ :: _ => none
def gvCons (g : XGV) (gs : XGVs) : XGVs := fun xs ρ => match xs with
  | x :: r => (g x ρ).bind fun ρ1 => gs r ρ1
  | [] => none
def gvTup (n : Nat) (gs : XGVs) : XGV := fun x ρ => (seqP x).bind fun ds => if ds.length = n then gs ds ρ else none
def SGV (b : Bool) (g : TG) (xg : XGV) (vs : List Nat) : Prop := ∀ x ρ ρ', xg x ρ = some ρ' → ∀ S σ H v, En (hid S H) σ ρ → Rk b (hid S H) v x → ∀ Q : L2.St → Hp → Prop, (∀ σ', En (hid S H) σ' ρ' → Off vs σ σ' → Q σ' H) → g v σ H Q
def SGVs (gs : TGs) (xg : XGVs) (vs : List Nat) : Prop := ∀ xs ρ ρ', xg xs ρ = some ρ' → ∀ S σ H ws, En (hid S H) σ ρ → RpAll (hid S H) ws xs → ∀ Q : L2.St → Hp → Prop, (∀ σ', En (hid S H) σ' ρ' → Off vs σ σ' → Q σ' H) → gs ws σ H Q
abbrev XG := PD → Env → Option Env
abbrev XGs := List PD → Env → Option Env
def gName' (i : Nat) : XG := fun x ρ => some (ρ.set i (.dat x))
def gNil' : XGs := fun xs ρ => match xs with
  | [] => some ρ
  | _ :: _ => none
def gCons' (g : XG) (gs : XGs) : XGs := fun xs ρ => match xs with
  | x :: r => (g x ρ).bind fun ρ1 => gs r ρ1
  | [] => none
def gTup' (n : Nat) (gs : XGs) : XG := fun x ρ => (seqP x).bind fun ds => if ds.length = n then gs ds ρ else none
def SG (b : Bool) (g : TG) (xg : XG) (vs : List Nat) : Prop := ∀ pn F T H σ v x ρ ρ', StOk pn F T H σ ρ → xg x ρ = some ρ' → Rk b (hid (SF F T) H) v x → ∀ Q : L2.St → Hp → Prop, (∀ σ' T', StOk pn F T' H σ' ρ' → Stp F T H T' H → Off vs σ σ' → Q σ' H) → g v σ H Q
def SGs (gs : TGs) (xg : XGs) (vs : List Nat) : Prop := ∀ pn F T H σ ws xs ρ ρ', StOk pn F T H σ ρ → xg xs ρ = some ρ' → RpAll (hid (SF F T) H) ws xs → ∀ Q : L2.St → Hp → Prop, (∀ σ' T', StOk pn F T' H σ' ρ' → Stp F T H T' H → Off vs σ σ' → Q σ' H) → gs ws σ H Q
section
variable {vs ws : List Nat}
theorem sgv_name {i : Nat} : SGV false (gName i) (gvName i) [i] := fun x ρ ρ' h S σ H v en r Q q => by
  cases h
  rcases r with r | ⟨z, _⟩
  · exact q _ (en.set i r) Off.name
  · cases z
theorem sgv_nil : SGVs gNil gvNil [] := fun xs ρ ρ' h S σ H us en r Q q => by
  cases r with
  | nil => cases h; exact ⟨rfl, q σ en Off.refl⟩
  | cons _ _ => cases h
theorem sgv_cons {g : TG} {gs : TGs} {xg : XGV} {xgs : XGVs} (hg : SGV false g xg vs) (hs : SGVs gs xgs ws) : SGVs (gCons g gs) (gvCons xg xgs) (vs ++ ws) := fun xs ρ ρ' h S σ H us en r Q q => by
  cases r with
  | nil => cases h
  | cons a b =>
    obtain ⟨ρ1, h1, h2⟩ := bind_some (show (xg _ ρ).bind _ = some ρ' from h)
    exact ⟨_, _, rfl, hg _ ρ ρ1 h1 S σ H _ en (.inl a) _ fun σ1 en1 f1 => hs _ ρ1 ρ' h2 S σ1 H _ en1 b Q fun σ2 en2 f2 => q σ2 en2 (f1.trans f2)⟩
theorem seq_read {b : Bool} {n : Nat} {H G : Hp} {v : V} {x : PD} {ds : List PD} (e : Ex G H) (hx : seqP x = some ds) (hn : ds.length = n) (r : Rk b G v x) : ∃ a us, v = .ref a ∧ (SqT K H a us ∨ SqL K H a us) ∧ us.length = n ∧ RpAll G us ds := by
  rcases r with r | ⟨_, a, us, es, rfl, ha, ra, rfl⟩
  · cases r with
    | lst ha ra => cases hx; exact ⟨_, _, rfl, .inr (.inl (.inl (e _ _ ha))), by rw [ra.length, hn], ra⟩
    | tup ha _ ra => cases hx; exact ⟨_, _, rfl, .inl (.inl (.inr ⟨_, e _ _ ha⟩)), by rw [ra.length, hn], ra⟩
    | scr hs ra => cases hx; exact ⟨_, _, rfl, .inr (sqx e hs), by rw [ra.length, hn], ra⟩
    | _ => cases hx
  · cases hx
    exact ⟨a, us, rfl, .inl (.inl (.inl (e _ _ ha))), by rw [ra.length, hn], ra⟩
theorem sgv_tup {b : Bool} {n : Nat} {gs : TGs} {xgs : XGVs} (hs : SGVs gs xgs vs) : SGV b (gTU K n gs) (gvTup n xgs) vs := fun x ρ ρ' h S σ H v en r Q q => by
  obtain ⟨ds, h1, h⟩ := bind_some h
  by_cases c : ds.length = n
  · rw [if_pos c] at h
    obtain ⟨a, us, rfl, sq, hl, ra⟩ := seq_read (hid_le (S := S)) h1 c r
    rcases sq with sq | sq
    · exact .inl ⟨a, us, rfl, sq, hl, hs ds ρ ρ' h S σ H us en ra Q q⟩
    · exact .inr ⟨a, us, rfl, sq, hl, hs ds ρ ρ' h S σ H us en ra Q q⟩
  · rw [if_neg c] at h; cases h
theorem sg_name {i : Nat} (hi : i ≠ 0) : SG false (gName i) (gName' i) [i] := fun pn F T H σ v x ρ ρ' st h r Q q => by
  cases h
  rcases r with r | ⟨z, _⟩
  · obtain ⟨st', s⟩ := st.set hi r
    exact q _ _ st' s Off.name
  · cases z
theorem sg_nil : SGs gNil gNil' [] := fun pn F T H σ us xs ρ ρ' st h r Q q => by
  cases r with
  | nil => cases h; exact ⟨rfl, q σ T st Stp.refl Off.refl⟩
  | cons _ _ => cases h
theorem sg_cons {g : TG} {gs : TGs} {xg : XG} {xgs : XGs} (hg : SG false g xg vs) (hs : SGs gs xgs ws) : SGs (gCons g gs) (gCons' xg xgs) (vs ++ ws) := fun pn F T H σ us xs ρ ρ' st h r Q q => by
  cases r with
  | nil => cases h
  | cons a b =>
    obtain ⟨ρ1, h1, h2⟩ := bind_some (show (xg _ ρ).bind _ = some ρ' from h)
    exact ⟨_, _, rfl, hg pn F T H σ _ _ ρ ρ1 st h1 (.inl a) _ fun σ1 T1 st1 s1 f1 => hs pn F T1 H σ1 _ _ ρ1 ρ' st1 h2 (b.ex s1.vis) Q fun σ2 T2 st2 s2 f2 => q σ2 T2 st2 (s1.trans s2) (f1.trans f2)⟩
theorem sg_tup {b : Bool} {n : Nat} {gs : TGs} {xgs : XGs} (hs : SGs gs xgs vs) : SG b (gTU K n gs) (gTup' n xgs) vs := fun pn F T H σ v x ρ ρ' st h r Q q => by
  obtain ⟨ds, h1, h⟩ := bind_some h
  by_cases c : ds.length = n
  · rw [if_pos c] at h
    obtain ⟨a, us, rfl, sq, hl, ra⟩ := seq_read (hid_le (S := SF F T)) h1 c r
    rcases sq with sq | sq
    · exact .inl ⟨a, us, rfl, sq, hl, hs pn F T H σ us ds ρ ρ' st h ra Q q⟩
    · exact .inr ⟨a, us, rfl, sq, hl, hs pn F T H σ us ds ρ ρ' st h ra Q q⟩
  · rw [if_neg c] at h; cases h
end
/-! ### comprehensions, pure -/
def clear (ρ : VE) : List Nat → VE
  | [] => ρ
  | v :: vs => (clear ρ vs).set v none
theorem clear_en {H : Hp} {σ : L2.St} {ρ : VE} (h : En H σ ρ) : ∀ vs : List Nat, En H (wipe σ vs) (clear ρ vs)
  | [] => h
  | v :: vs => (clear_en h vs).clear v none
theorem wipe_get {σ : L2.St} {i : Nat} : ∀ {vs : List Nat}, i ∉ vs → (wipe σ vs)[i]? = σ[i]?
  | [], _ => rfl
  | v :: vs, h => by
    unfold wipe
    rw [List.getElem?_set_ne (fun z => h (by rw [← z]; exact List.mem_cons_self ..))]
    exact wipe_get fun z => h (List.mem_cons_of_mem _ z)
theorem wipe_at {σ : L2.St} {i : Nat} : ∀ {vs : List Nat}, i ∈ vs → i < σ.length → (wipe σ vs)[i]? = some none
  | v :: vs, h, hl => by
    unfold wipe
    by_cases c : v = i
    · subst c
      exact List.getElem?_set_self (by rw [wipe_length]; exact hl)
    · rw [List.getElem?_set_ne c]
      rcases List.mem_cons.mp h with z | z
      · exact absurd z.symm c
      · exact wipe_at z hl
theorem wipe_eq {σ τ : L2.St} {vs : List Nat} (hl : σ.length = τ.length) (h : ∀ i, i ∉ vs → σ[i]? = τ[i]?) : wipe σ vs = wipe τ vs := by
  apply List.ext_getElem?
  intro i
  by_cases c : i ∈ vs
  · by_cases b : i < σ.length
    · rw [wipe_at c b, wipe_at c (by omega)]
    · rw [List.getElem?_eq_none (by rw [wipe_length]; omega), List.getElem?_eq_none (by rw [wipe_length]; omega)]
  · rw [wipe_get c, wipe_get c]
    exact h i c
theorem wipe_off {vs : List Nat} {σ τ : L2.St} {us : List Nat} (f : Off us (wipe σ vs) τ) (hu : ∀ i ∈ us, i ∈ vs) : wipe τ vs = wipe σ vs := by
  have ew : wipe (wipe σ vs) vs = wipe σ vs := wipe_eq (wipe_length σ vs) fun j hj => wipe_get hj
  rw [← ew]
  exact wipe_eq f.1 fun j hj => f.2 j fun z => hj (hu j z)
def lcGo (g : XGV) (t : XT) (e : XE) (ρ : VE) : List PD → Option (List PD)
  | [] => some []
  | x :: xs => (g x ρ).bind fun ρ1 => (t ρ1).bind fun b => if b = true then (e ρ1).bind fun d => (lcGo g t e ρ xs).bind fun ds => some (d :: ds) else lcGo g t e ρ xs
def xLc (src : XI) (g : XGV) (t : XT) (e : XE) (vs : List Nat) : XE := fun ρ => (src ρ).bind fun xs => if xs.length ≤ 40000 then (lcGo g t e (clear ρ vs) xs).bind fun ds => some (.list ds) else none
/-- a list that is new -/
def FrL (te : TE) (ρ : VE) (ds : List PD) : Prop := ∀ S σ H, Al S H → En (hid S H) σ ρ → ∀ Q : VK, (∀ p vs H2, Ex H H2 → H p = none → H2 p = some (.lst vs) → RpAll (hid (fun x => x = p ∨ S x) H2) vs ds → Q (.ref p) H2) → te σ H Q
def SEF (te : TE) (x : XE) : Prop := ∀ ρ d, x ρ = some d → ∃ ds, d = .list ds ∧ FrL te ρ ds
theorem SEF.se {te : TE} {x : XE} (h : SEF te x) : SE te x := fun ρ d e S σ H al en Q q => by
  obtain ⟨ds, rfl, f⟩ := h ρ d e
  exact f S σ H al en Q fun p vs H2 e2 hp h2 ra => q _ H2 e2 (.lst (by rw [hid_out (al.new hp)]; exact h2) (ra.ex (hid_sub fun x hx => .inr hx)))
section
theorem lc_step {g : XGV} {t : XT} {e : XE} {ρ : VE} {x : PD} {xs ds : List PD} (h : lcGo g t e ρ (x :: xs) = some ds) : ∃ ρ1 b, g x ρ = some ρ1 ∧ t ρ1 = some b ∧ ((b = true ∧ ∃ d ds', e ρ1 = some d ∧ lcGo g t e ρ xs = some ds' ∧ ds = d :: ds') ∨ (b = false ∧ lcGo g t e ρ xs = some ds)) := by
  obtain ⟨ρ1, h1, h⟩ := bind_some (show (g x ρ).bind _ = some ds from h)
  obtain ⟨b, h2, h⟩ := bind_some h
  refine ⟨ρ1, b, h1, h2, ?_⟩
  cases b with
  | true =>
    obtain ⟨d, h3, h⟩ := bind_some (show (e ρ1).bind _ = some ds from h)
    obtain ⟨ds', h4, h⟩ := bind_some h
    cases h
    exact .inl ⟨rfl, d, ds', h3, h4, rfl⟩
  | false => exact .inr ⟨rfl, h⟩
theorem sef_lc {b : Bool} {wi : TI} {g : TG} {tt : TT} {te : TE} {vs us : List Nat} {src : XI} {xg : XGV} {t : XT} {e : XE} (hs : SI b wi src) (hg : SGV b g xg us) (hu : ∀ i ∈ us, i ∈ vs) (ht : ST tt t) (he : SE te e) : SEF (tLc wi g tt te vs) (xLc src xg t e vs) := fun ρ d h => by
  obtain ⟨xs, h1, h⟩ := bind_some h
  by_cases hz : xs.length ≤ 40000
  · rw [if_pos hz] at h
    obtain ⟨ds, h2, h⟩ := bind_some h
    cases h
    refine ⟨ds, rfl, fun S σ H al en Q q => hs ρ xs h1 S σ H al en _ fun J H1 e1 wk D hD => ?_⟩
    have al1 := al.ex e1
    have alD : Al (fun x => x = D ∨ S x) (upd H1 D (.lst [])) := fun x hx => by
      by_cases c : x = D
      · subst c; rw [upd_same]; exact fun z => nomatch z
      · rw [upd_ne c]; exact al1 x (hx.resolve_left c)
    refine ⟨fun i m H' => m = xs.length - i ∧ i ≤ xs.length ∧ Ex H1 H' ∧ Al (fun x => x = D ∨ S x) H' ∧ ∃ acc ds1 ds2, H' D = some (.lst acc) ∧ acc.length ≤ i ∧ RpAll (hid (fun x => x = D ∨ S x) H') acc ds1 ∧ lcGo xg t e (clear ρ vs) (xs.drop i) = some ds2 ∧ ds = ds1 ++ ds2,
      ⟨_, rfl, Nat.zero_le _, Ex.new hD, alD, [], [], ds, upd_same, Nat.le_refl _, .nil, h2, rfl⟩, fun i m H' hw => ?_⟩
    obtain ⟨rfl, hi, e2, al2, acc, ds1, ds2, hacc, la, ra, hgo, hds⟩ := hw
    have ewk : Ex (hid S H1) (hid (fun x => x = D ∨ S x) H') := hid_cons e2 hD
    obtain ⟨w1, w2⟩ := wk _ H' ewk al2
    by_cases hlt : i < xs.length
    · obtain ⟨w3, w4⟩ := w2 i _ (List.getElem?_eq_getElem hlt)
      rw [List.drop_eq_getElem_cons hlt] at hgo
      obtain ⟨ρ1, b1, g1, t1, alt⟩ := lc_step hgo
      refine .inr ⟨w3, fun H2 => Ex H1 H2 ∧ Al (fun x => x = D ∨ S x) H2 ∧ ∃ acc ds1 ds2, H2 D = some (.lst acc) ∧ acc.length ≤ i + 1 ∧ RpAll (hid (fun x => x = D ∨ S x) H2) acc ds1 ∧ lcGo xg t e (clear ρ vs) (xs.drop (i + 1)) = some ds2 ∧ ds = ds1 ++ ds2, fun H2 hn => ⟨_, by omega, rfl, hlt, hn⟩, fun v H3 y => ?_⟩
      obtain ⟨e3, rv⟩ := w4 v H3 y
      have al3 := al2.ex e3
      have en3 : En (hid (fun x => x = D ∨ S x) H3) (wipe σ vs) (clear ρ vs) := clear_en (en.ex (((hid_ex e1).trans ewk).trans (hid_ex e3))) vs
      refine hg _ _ ρ1 g1 _ (wipe σ vs) H3 v en3 rv _ fun σ4 en4 off => ⟨wipe_off off hu, ?_⟩
      refine ht ρ1 b1 t1 _ σ4 H3 al3 en4 _ fun H5 e5 => ?_
      have hacc5 : H5 D = some (.lst acc) := e5 _ _ (e3 _ _ hacc)
      have ra5 := ra.ex ((hid_ex (S := fun x => x = D ∨ S x) e3).trans (hid_ex e5))
      rcases alt with ⟨rfl, d1, ds', f1, f2, rfl⟩ | ⟨rfl, f2⟩
      · show te σ4 H5 _
        refine he ρ1 d1 f1 _ σ4 H5 (al3.ex e5) (en4.ex (hid_ex e5)) _ fun z H6 e6 rz => ⟨acc, e6 _ _ hacc5, Evl.sz_lt (by omega), Ex.mut (((e2.trans e3).trans e5).trans e6) hD, ?_, acc ++ [z], ds1 ++ [d1], ds', upd_same, by rw [List.length_append]; simpa using la, ?_, f2, by rw [hds, List.append_assoc]; rfl⟩
        · intro x hx
          by_cases c : x = D
          · subst c; rw [upd_same]; exact fun q => nomatch q
          · rw [upd_ne c]; exact ((al3.ex e5).ex e6) x hx
        · have hu' : Ex (hid (fun x => x = D ∨ S x) H6) (hid (fun x => x = D ∨ S x) (upd H6 D (.lst (acc ++ [z])))) := fun x o h => by
            obtain ⟨c, h⟩ := hid_some h
            rw [hid_out c, upd_ne (fun z => c (.inl z))]
            exact h
          exact RpAll.append (ra5.ex ((hid_ex e6).trans hu')) (.cons (rz.ex hu') .nil)
      · exact ⟨(e2.trans e3).trans e5, al3.ex e5, acc, ds1, ds2, hacc5, by omega, ra5, f2, hds⟩
    · have ei : i = xs.length := by omega
      subst ei
      rw [List.drop_length] at hgo
      cases hgo
      rw [List.append_nil] at hds
      subst hds
      exact .inl ⟨w1, q D acc H' (e1.trans e2) (by
        cases qq : H D with
        | none => rfl
        | some o => rw [e1 _ _ qq] at hD; cases hD) hacc ra⟩
  · rw [if_neg hz] at h; cases h
theorem sef_lst {ts : TA} {as : XA} (hs : SA ts as) : SEF (tLst ts) (xLst as) := fun ρ d h => by
  obtain ⟨ds, h1, h⟩ := bind_some h
  by_cases hl : ds.length ≤ 100000
  · rw [if_pos hl] at h
    cases h
    refine ⟨ds, rfl, fun S σ H al en Q q => hs ρ ds h1 S σ H al en _ fun vs H1 e1 ra => ⟨by rw [ra.length]; exact Evl.sz_of hl, fun p hp => q p vs _ (e1.trans (Ex.new hp)) (by
      cases qq : H p with
      | none => rfl
      | some o => rw [e1 _ _ qq] at hp; cases hp) upd_same (ra.ex (hid_cons (Ex.new hp) hp))⟩⟩
  · rw [if_neg hl] at h; cases h
theorem sef_list {ta : TE} {a : XE} (ha : SE ta a) : SEF (tCB (rListQ K) (tCons ta tNil)) (xUn listP a) := fun ρ d h => by
  obtain ⟨x, h1, h⟩ := bind_some h
  have fresh : ∀ {H H1 : Hp} {p : Addr}, Ex H H1 → H1 p = none → H p = none := fun {H H1 p} e hp => by
    cases qq : H p with
    | none => rfl
    | some o => rw [e _ _ qq] at hp; cases hp
  cases x with
  | list ds =>
    cases h
    refine ⟨ds, rfl, fun S σ H al en Q q => ha ρ _ h1 S σ H al en _ fun v H1 e1 rv => ?_⟩
    cases rv with
    | lst hx ra => exact ⟨_, _, rfl, .inl (.inl (.inl (hid_le _ _ hx))), fun l hl => q l _ _ (e1.trans (Ex.new hl)) (fresh e1 hl) upd_same (ra.ex (hid_cons (Ex.new hl) hl))⟩
  | tuple ds =>
    cases h
    refine ⟨ds, rfl, fun S σ H al en Q q => ha ρ _ h1 S σ H al en _ fun v H1 e1 rv => ?_⟩
    cases rv with
    | tup hx _ ra => exact ⟨_, _, rfl, .inr (.inl (.inr ⟨_, hid_le _ _ hx⟩)), fun l hl => q l _ _ (e1.trans (Ex.new hl)) (fresh e1 hl) upd_same (ra.ex (hid_cons (Ex.new hl) hl))⟩
  | _ => cases h
end
end Uv

namespace Uv
open PySem PySem.Spec PyProof.Rows L2
open Evl (Ex)
variable [kk : KK]
/-! ### new lists, owned -/
theorem FL_nil {F : Hs} : FL F [] = F := funext fun x => propext ⟨fun h => h.elim id (fun z => nomatch z), .inl⟩
theorem FL_app {F : Hs} {A B : List Addr} : FL (FL F A) B = FL F (A ++ B) := funext fun x => propext ⟨fun h => h.elim (fun h => h.elim .inl fun z => .inr (List.mem_append_left _ z)) fun z => .inr (List.mem_append_right _ z),
  fun h => h.elim (fun h => .inl (.inl h)) fun z => (List.mem_append.mp z).elim (fun z => .inl (.inr z)) .inr⟩
theorem FL_perm {F : Hs} {A B : List Addr} (h : ∀ x, x ∈ A ↔ x ∈ B) : FL F A = FL F B := funext fun x => propext ⟨fun z => z.elim .inl fun z => .inr ((h x).mp z), fun z => z.elim .inl fun z => .inr ((h x).mpr z)⟩
theorem SF_FL1 {F : Hs} {T : Trs} {p : Addr} : SF (FL F [p]) T = fun x => x = p ∨ SF F T x := funext fun x => propext ⟨fun h => h.elim (fun h => h.elim (fun z => .inr (.inl z)) fun z => .inl (by simpa using z)) fun z => .inr (.inr z),
  fun h => h.elim (fun z => .inl (.inr (by rw [z]; exact List.mem_cons_self ..))) fun z => z.elim (fun z => .inl (.inl z)) .inr⟩
theorem ex_none {H H1 : Hp} {p : Addr} (e : Ex H H1) (hp : H1 p = none) : H p = none := by
  cases qq : H p with
  | none => rfl
  | some o => rw [e _ _ qq] at hp; cases hp
section
variable {pn : Option V} {F : Hs} {T : Trs} {H H2 : Hp} {σ : L2.St} {ρ : Env}
/-- one more new object in the frame -/
theorem StOk.fresh (st : StOk pn F T H σ ρ) (e : Ex H H2) {p : Addr} (hp : H p = none) (h2 : H2 p ≠ none) : StOk pn (FL F [p]) T H2 σ ρ ∧ Ex (hid (SF F T) H) (hid (SF (FL F [p]) T) H2) := by
  have vis : Ex (hid (SF F T) H) (hid (SF (FL F [p]) T) H2) := by rw [SF_FL1]; exact hid_cons e hp
  have st2 := st.ex e
  refine ⟨⟨st.len, fun x h => ?_, fun i x hx z => ?_, st.dis, st.nd, st.out, fun i s hi => ?_, st.pin⟩, vis⟩
  · rcases h with h | h
    · exact st2.al x h
    · have ex : x = p := by simpa using h
      rw [ex]; exact h2
  · rcases z with z | z
    · exact st.off i x hx z
    · have ex : x = p := by simpa using z
      obtain ⟨vs, q⟩ := st.lst hx
      rw [ex, hp] at q
      cases q
  · obtain ⟨o, h1, h3⟩ := st.sl i s hi
    refine ⟨o, h1, h3.mv vis fun x hx => ?_⟩
    obtain ⟨vs, q⟩ := st.lst hx
    rw [q, e x _ q]
end
abbrev XWC := Env → Option (List Cel × Env)
def SWC (ta : TA) (w : XWC) : Prop := ∀ pn F T H σ ρ cs ρ', StOk pn F T H σ ρ → w ρ = some (cs, ρ') → ∀ Q : List V → Hp → Prop, (∀ vs B T' H', StOk pn (FL F B) T' H' σ ρ' → B.Nodup → (∀ x ∈ B, ¬ F x) → (∀ x, F x → H' x = H x) → Ex (hid (SF F T) H) (hid (SF (FL F B) T') H') → Cels (hid (SF (FL F B) T') H') H' vs cs B → Q vs H') → ta σ H Q
def asList : PD → Option (List PD)
  | .list ds => some ds
  | _ => none
theorem asList_eq {d : PD} {ds : List PD} (h : asList d = some ds) : d = .list ds := by
  cases d with
  | list l => cases h; rfl
  | _ => cases h
def wOM (x : XE) : XWO := fun ρ => ((x (mk ρ)).bind asList).bind fun ds => some (ds.map Cel.dat, ρ)
def wOV (x : XE) : XWO := fun ρ => ((x (vw ρ)).bind asList).bind fun ds => if flats ds = true then some (ds.map Cel.dat, ρ) else none
theorem Cels.dats {G H : Hp} : ∀ {vs : List V} {ds : List PD}, RpAll G vs ds → Cels G H vs (ds.map Cel.dat) []
  | _, _, .nil => .nil
  | _, _, .cons h r => .dat h (Cels.dats r)
theorem swo_M {te : TE} {x : XE} (h : SEF te x) : SWO te (wOM x) := fun pn F T H σ ρ cs ρ' st e Q q => by
  obtain ⟨ds, h1, h2⟩ := bind_some e
  obtain ⟨d, h1, h3⟩ := bind_some h1
  cases h2
  have e := asList_eq h3
  subst e
  obtain ⟨ds', e', f⟩ := h _ _ h1
  cases e'
  refine f (SF F T) σ H st.als st.mkd Q fun p vs H2 e2 hp h2 ra => ?_
  obtain ⟨st2, vis⟩ := st.fresh e2 hp (by rw [h2]; exact fun z => nomatch z)
  refine q _ [p] T H2 st2 (by simp) (fun x hx => ?_) (Stp.ex (T := T) st.al e2).fr vis ⟨p, vs, [], rfl, h2, Cels.dats (by rw [SF_FL1]; exact ra), rfl⟩
  have ex : x = p := by simpa using hx
  rw [ex]
  exact st.al.new hp
theorem swo_V {te : TE} {x : XE} (h : SEF te x) : SWO te (wOV x) := fun pn F T H σ ρ cs ρ' st e Q q => by
  obtain ⟨ds, h1, h2⟩ := bind_some e
  obtain ⟨d, h1, h3⟩ := bind_some h1
  by_cases c : flats ds = true
  · rw [if_pos c] at h2
    cases h2
    have e := asList_eq h3
    subst e
    obtain ⟨ds', e', f⟩ := h _ _ h1
    cases e'
    refine f F σ H st.al st.vw Q fun p vs H2 e2 hp h2 ra => ?_
    obtain ⟨st2, vis⟩ := st.fresh e2 hp (by rw [h2]; exact fun z => nomatch z)
    have fr : ∀ x o u, hid (fun x => x = p ∨ F x) H2 x = some (.frz o u) → hid (SF (FL F [p]) T) H2 x = some (.frz o u) := fun x o u hh => by
      obtain ⟨c1, c2⟩ := hid_some hh
      exact st2.frz (Ex.refl _) x o u (by rw [hid_out]; exact c2; exact fun z => c1 (z.elim .inr fun z => .inl (by simpa using z)))
    refine q _ [p] T H2 st2 (by simp) (fun x hx => ?_) (Stp.ex (T := T) st.al e2).fr vis ⟨p, vs, [], rfl, h2, Cels.dats (ra.flat fr c), rfl⟩
    have ex : x = p := by simpa using hx
    rw [ex]
    exact st.al.new hp
  · rw [if_neg c] at h2; cases h2
/-- a new list becomes data at once -/
def wFz (o : XWO) : XW := fun ρ => (o ρ).bind fun x => some (.list (x.1.map Cel.pd), x.2)
theorem sw_fz {te : TE} {o : XWO} (h : SWO te o) : SW te (wFz o) := fun pn F T H σ ρ d ρ' st e Q q => by
  obtain ⟨⟨cs, ρ1⟩, h1, e⟩ := bind_some e
  cases e
  refine h pn F T H σ ρ cs _ st h1 Q fun v A T' H' st' nd off fr vis ow => ?_
  obtain ⟨st2, sub⟩ := st'.thaw
  refine q v T' H' st2 ⟨fr, vis.trans sub⟩ (ow.rp sub fun x hx => hid_out ?_)
  rintro (z | ⟨i, z⟩)
  · exact off x hx z
  · exact st'.off i x z (.inr hx)
/-! items one by one -/
def wcNil : XWC := fun ρ => some ([], ρ)
def wcDat (a : XW) (as : XWC) : XWC := fun ρ => (a ρ).bind fun x => (as x.2).bind fun xs => some (.dat x.1 :: xs.1, xs.2)
def allDat : List Cel → Option (List PD)
  | [] => some []
  | .dat d :: r => (allDat r).bind fun ds => some (d :: ds)
  | .sub _ :: _ => none
theorem allDat_map : ∀ ds : List PD, allDat (ds.map Cel.dat) = some ds
  | [] => rfl
  | d :: ds => by rw [List.map_cons, allDat, allDat_map ds]; rfl
theorem allDat_eq : ∀ {cs : List Cel} {ds : List PD}, allDat cs = some ds → cs = ds.map Cel.dat
  | [], ds, h => by cases h; rfl
  | .dat d :: r, ds, h => by
    obtain ⟨es, h1, h2⟩ := bind_some (show (allDat r).bind _ = some ds from h)
    cases h2
    rw [allDat_eq h1]
    rfl
  | .sub _ :: _, _, h => nomatch h
def wcSub (a : XWO) (as : XWC) : XWC := fun ρ => (a ρ).bind fun x => (allDat x.1).bind fun ds => (as x.2).bind fun xs => some (.sub ds :: xs.1, xs.2)
theorem Cels.dats_inv {G H : Hp} : ∀ {vs : List V} {ds : List PD} {B : List Addr}, Cels G H vs (ds.map Cel.dat) B → RpAll G vs ds ∧ B = []
  | _, [], _, .nil => ⟨.nil, rfl⟩
  | _, d :: ds, _, .dat r c => ⟨.cons r (Cels.dats_inv c).1, (Cels.dats_inv c).2⟩
theorem swc_nil : SWC tNil wcNil := fun pn F T H σ ρ cs ρ' st e Q q => by
  cases e
  exact q [] [] T H (by rw [FL_nil]; exact st) (by simp) (fun x hx => nomatch hx) (fun _ _ => rfl) (by rw [FL_nil]; exact Ex.refl _) .nil
theorem swc_dat {ta : TE} {ts : TA} {a : XW} {as : XWC} (ha : SW ta a) (hs : SWC ts as) : SWC (tCons ta ts) (wcDat a as) := fun pn F T H σ ρ cs ρ' st e Q q => by
  obtain ⟨⟨x, ρ1⟩, h1, e⟩ := bind_some e
  obtain ⟨⟨xs, ρ2⟩, h2, e⟩ := bind_some e
  cases e
  exact ha pn F T H σ ρ x ρ1 st h1 _ fun v T1 H1 st1 s1 rv => hs pn F T1 H1 σ ρ1 xs ρ2 st1 h2 _ fun vs B T2 H2 st2 nd off fr vis c =>
    q (v :: vs) B T2 H2 st2 nd off (fun x hx => (fr x hx).trans (s1.fr x hx)) (s1.vis.trans vis) (.dat (rv.ex vis) c)
theorem swc_sub {ta : TE} {ts : TA} {a : XWO} {as : XWC} (ha : SWO ta a) (hs : SWC ts as) : SWC (tCons ta ts) (wcSub a as) := fun pn F T H σ ρ cs ρ' st e0 Q q => by
  obtain ⟨⟨x, ρ1⟩, h1, e1⟩ := bind_some e0
  obtain ⟨ds, hd, e2⟩ := bind_some e1
  obtain ⟨⟨xs, ρ2⟩, h2, e3⟩ := bind_some e2
  have e4 : some (Cel.sub ds :: xs, ρ2) = some (cs, ρ') := e3
  clear e0 e1 e2 e3
  obtain ⟨rfl, rfl⟩ := Prod.mk.inj (Option.some.inj e4)
  have ex : x = _ := allDat_eq hd
  subst ex
  refine ha pn F T H σ ρ _ ρ1 st h1 _ fun v A T1 H1 st1 nd off fr vis ow => ?_
  obtain ⟨b, ws, B0, rfl, hb, cb, rfl⟩ := ow
  obtain ⟨ra, rfl⟩ := cb.dats_inv
  refine hs pn (FL F [b]) T1 H1 σ ρ1 xs ρ2 st1 h2 _ fun vs B T2 H2 st2 nd2 off2 fr2 vis2 c => ?_
  have eF : FL (FL F [b]) B = FL F (b :: B) := FL_app
  rw [eF] at st2 vis2 c
  have hb2 : H2 b = some (.lst ws) := by rw [fr2 b (.inr (List.mem_cons_self ..))]; exact hb
  refine q (.ref b :: vs) (b :: B) T2 H2 st2 (List.nodup_cons.mpr ⟨fun z => off2 b z (.inr (List.mem_cons_self ..)), nd2⟩) (fun x hx => ?_) (fun x hx => (fr2 x (.inl hx)).trans (fr x hx)) (vis.trans vis2) (.sub hb2 (ra.ex vis2) c)
  rcases List.mem_cons.mp hx with z | z
  · rw [z]; exact off b (List.mem_cons_self ..)
  · exact fun w => off2 x z (.inl w)
def wOL (as : XWC) : XWO := fun ρ => (as ρ).bind fun x => if x.1.length ≤ 100000 then some x else none
theorem swo_lst {ts : TA} {as : XWC} (hs : SWC ts as) : SWO (tLst ts) (wOL as) := fun pn F T H σ ρ cs ρ' st e Q q => by
  obtain ⟨⟨xs, ρ1⟩, h1, e⟩ := bind_some e
  by_cases hl : xs.length ≤ 100000
  · rw [if_pos hl] at e
    cases e
    refine hs pn F T H σ ρ _ _ st h1 _ fun vs B T1 H1 st1 nd off fr vis c => ⟨by rw [c.length]; exact Evl.sz_of hl, fun p hp => ?_⟩
    obtain ⟨st2, vis2⟩ := st1.fresh (Ex.new (o := .lst vs) hp) hp (by rw [upd_same]; exact fun z => nomatch z)
    have eF : FL (FL F B) [p] = FL F (p :: B) := by
      rw [FL_app]
      exact FL_perm fun x => by simp [or_comm]
    rw [eF] at st2 vis2
    have npB : ∀ x ∈ B, x ≠ p := fun x hx z => by
      have := st1.al x (.inr hx)
      rw [z, hp] at this
      exact this rfl
    have npF : ∀ x, F x → x ≠ p := fun x hx z => by
      have := st1.al x (.inl hx)
      rw [z, hp] at this
      exact this rfl
    refine q (.ref p) (p :: B) T1 _ st2 (List.nodup_cons.mpr ⟨fun z => npB p z rfl, nd⟩) (fun x hx => ?_) (fun x hx => by rw [upd_ne (npF x hx)]; exact fr x hx) (vis.trans vis2) ⟨p, vs, B, rfl, upd_same, c.mv vis2 fun x hx => upd_ne (npB x hx), rfl⟩
    rcases List.mem_cons.mp hx with z | z
    · rw [z]; exact fun w => npF p w rfl
    · exact off x z
  · rw [if_neg hl] at e; cases e
end Uv

namespace Uv
open PySem PySem.Spec PyProof.Rows L2
open Evl (Ex)
variable [kk : KK]
/-! ### statements -/
inductive Out | nxt (ρ : Env) | ret (d : PD) (ρ : Env) | retO (cs : List Cel) (ρ : Env) | brk (ρ : Env) | cnt (ρ : Env)
abbrev XS := Env → Option Out
def OutOk (pn : Option V) (F : Hs) (T : Trs) (H : Hp) (D : Ends) : Out → Prop
  | .nxt ρ => ∀ σ T' H', StOk pn F T' H' σ ρ → Stp F T H T' H' → D.nx σ H'
  | .brk ρ => ∀ σ T' H', StOk pn F T' H' σ ρ → Stp F T H T' H' → D.bk σ H'
  | .cnt ρ => ∀ σ T' H', StOk pn F T' H' σ ρ → Stp F T H T' H' → D.ct σ H'
  | .ret d ρ => ∀ v σ T' H', StOk pn F T' H' σ ρ → Stp F T H T' H' → Rp (hid (SF F T') H') v d → D.rt v H'
  | .retO cs ρ => ∀ v A σ T' H', StOk pn (FL F A) T' H' σ ρ → A.Nodup → (∀ x ∈ A, ¬ F x) → (∀ x, F x → H' x = H x) → Ex (hid (SF F T) H) (hid (SF (FL F A) T') H') → Own (hid (SF (FL F A) T') H') H' v cs A → D.rt v H'
def SS (ts : TS) (x : XS) : Prop := ∀ pn F T H σ ρ o D, StOk pn F T H σ ρ → x ρ = some o → OutOk pn F T H D o → ts D σ H
theorem OutOk.step {pn : Option V} {F : Hs} {T T1 : Trs} {H H1 : Hp} {D : Ends} (s : Stp F T H T1 H1) : ∀ {o : Out}, OutOk pn F T H D o → OutOk pn F T1 H1 D o
  | .nxt _, h => fun σ T' H' st s' => h σ T' H' st (s.trans s')
  | .brk _, h => fun σ T' H' st s' => h σ T' H' st (s.trans s')
  | .cnt _, h => fun σ T' H' st s' => h σ T' H' st (s.trans s')
  | .ret _ _, h => fun v σ T' H' st s' => h v σ T' H' st (s.trans s')
  | .retO _ _, h => fun v A σ T' H' st nd off fr vis => h v A σ T' H' st nd off (fun x hx => (fr x hx).trans (s.fr x hx)) (s.vis.trans vis)
/-- with another way on -/
theorem OutOk.on {pn : Option V} {F : Hs} {T : Trs} {H : Hp} {D : Ends} {nx bk ct : L2.St → Hp → Prop} : ∀ {o : Out}, (∀ ρ, o ≠ .nxt ρ) → (∀ ρ, o ≠ .brk ρ) → (∀ ρ, o ≠ .cnt ρ) → OutOk pn F T H D o → OutOk pn F T H { D with nx := nx, bk := bk, ct := ct } o
  | .nxt _, h, _, _, _ => absurd rfl (h _)
  | .brk _, _, h, _, _ => absurd rfl (h _)
  | .cnt _, _, _, h, _ => absurd rfl (h _)
  | .ret _ _, _, _, _, h => h
  | .retO _ _, _, _, _, h => h
def sNext : XS := fun ρ => some (.nxt ρ)
def sCont : XS := fun ρ => some (.cnt ρ)
def sBreak : XS := fun ρ => some (.brk ρ)
def sSeq (x y : XS) : XS := fun ρ => (x ρ).bind fun o => match o with
  | .nxt ρ1 => y ρ1
  | o => some o
def sRet (w : XW) : XS := fun ρ => (w ρ).bind fun x => some (.ret x.1 x.2)
def sRetN : XS := fun ρ => some (.ret .none ρ)
def sRetO (w : XWO) : XS := fun ρ => (w ρ).bind fun x => some (.retO x.1 x.2)
def sIf (c : XWT) (x y : XS) : XS := fun ρ => (c ρ).bind fun k => if k.1 = true then x k.2 else y k.2
def sAsg (g : XG) (w : XW) : XS := fun ρ => (w ρ).bind fun x => (g x.1 x.2).bind fun ρ1 => some (.nxt ρ1)
def sOwn (i : Nat) (w : XWO) : XS := fun ρ => (w ρ).bind fun x => if i < x.2.length then some (.nxt (x.2.set i (.own x.1))) else none
def sDrop (w : XW) : XS := fun ρ => (w ρ).bind fun x => some (.nxt x.2)
def toSl : Cel → Sl
  | .dat d => .dat d
  | .sub ds => .own (ds.map Cel.dat)
def two : List Cel → Option (Cel × Cel)
  | [c, e] => some (c, e)
  | _ => none
theorem two_eq {cs : List Cel} {c e : Cel} (h : two cs = some (c, e)) : cs = [c, e] := by
  unfold two at h
  split at h
  · cases h; rfl
  · cases h
def sPar (i j : Nat) (as : XWC) : XS := fun ρ => (as ρ).bind fun x => (two x.1).bind fun c => if i < x.2.length ∧ j < x.2.length then some (.nxt ((x.2.set i (toSl c.1)).set j (toSl c.2))) else none
section
variable {te : TE} {t u : TS} {ct : TT} {x y : XS} {w : XW} {c : XWT}
theorem ss_next : SS tNext sNext := fun pn F T H σ ρ o D st e q => by cases e; exact q σ T H st Stp.refl
theorem ss_cont : SS tCont sCont := fun pn F T H σ ρ o D st e q => by cases e; exact q σ T H st Stp.refl
theorem ss_break : SS tBreak sBreak := fun pn F T H σ ρ o D st e q => by cases e; exact q σ T H st Stp.refl
theorem ss_seq (hx : SS t x) (hy : SS u y) : SS (tSeq t u) (sSeq x y) := fun pn F T H σ ρ o D st e q => by
  obtain ⟨o1, h1, e⟩ := bind_some e
  cases o1 with
  | nxt ρ1 => exact hx pn F T H σ ρ _ { D with nx := u D } st h1 fun σ2 T2 H2 st2 s2 => hy pn F T2 H2 σ2 ρ1 o D st2 e (q.step s2)
  | ret d ρ1 => cases e; exact hx pn F T H σ ρ _ { D with nx := u D } st h1 q
  | retO d ρ1 => cases e; exact hx pn F T H σ ρ _ { D with nx := u D } st h1 q
  | brk ρ1 => cases e; exact hx pn F T H σ ρ _ { D with nx := u D } st h1 q
  | cnt ρ1 => cases e; exact hx pn F T H σ ρ _ { D with nx := u D } st h1 q
theorem ss_ret (h : SW te w) : SS (tRet te) (sRet w) := fun pn F T H σ ρ o D st e q => by
  obtain ⟨⟨d, ρ1⟩, h1, e⟩ := bind_some e
  cases e
  exact h pn F T H σ ρ d ρ1 st h1 _ fun v T' H' st' s' rv => q v σ T' H' st' s' rv
theorem ss_retN : SS tRetN sRetN := fun pn F T H σ ρ o D st e q => by cases e; exact q .non σ T H st Stp.refl .non
theorem ss_retO {w : XWO} (h : SWO te w) : SS (tRet te) (sRetO w) := fun pn F T H σ ρ o D st e q => by
  obtain ⟨⟨d, ρ1⟩, h1, e⟩ := bind_some e
  cases e
  exact h pn F T H σ ρ d ρ1 st h1 _ fun v A T' H' st' nd off fr vis ow => q v A σ T' H' st' nd off fr vis ow
theorem ss_if (hc : SWT ct c) (hx : SS t x) (hy : SS u y) : SS (tIfS ct t u) (sIf c x y) := fun pn F T H σ ρ o D st e q => by
  obtain ⟨⟨k, ρ1⟩, h1, e⟩ := bind_some e
  refine hc pn F T H σ ρ k ρ1 st h1 _ fun T1 H1 st1 s1 => ?_
  cases k with
  | true => exact hx pn F T1 H1 σ ρ1 o D st1 e (q.step s1)
  | false => exact hy pn F T1 H1 σ ρ1 o D st1 e (q.step s1)
theorem ss_asg {g : TG} {xg : XG} {vs : List Nat} (hg : SG false g xg vs) (h : SW te w) : SS (tAsg te g) (sAsg xg w) := fun pn F T H σ ρ o D st e q => by
  obtain ⟨⟨d, ρ1⟩, h1, e⟩ := bind_some e
  obtain ⟨ρ2, h2, e⟩ := bind_some e
  cases e
  exact h pn F T H σ ρ d ρ1 st h1 _ fun v T1 H1 st1 s1 rv => hg pn F T1 H1 σ v d ρ1 ρ2 st1 h2 (.inl rv) _ fun σ' T' st' s' _ => q σ' T' H1 st' (s1.trans s')
theorem ss_own {i : Nat} {w : XWO} (hi : i ≠ 0) (h : SWO te w) : SS (tAsg te (gName i)) (sOwn i w) := fun pn F T H σ ρ o D st e q => by
  obtain ⟨⟨cs, ρ1⟩, h1, e⟩ := bind_some e
  by_cases c : i < ρ1.length
  · rw [if_pos c] at e
    cases e
    refine h pn F T H σ ρ cs ρ1 st h1 _ fun v A T' H' st' nd off fr vis ow => ?_
    obtain ⟨st2, vis2⟩ := st'.own hi c ow nd off
    exact q _ _ H' st2 ⟨fr, vis.trans vis2⟩
  · rw [if_neg c] at e; cases e
theorem ss_drop (h : SW te w) : SS (tDrop te) (sDrop w) := fun pn F T H σ ρ o D st e q => by
  obtain ⟨⟨d, ρ1⟩, h1, e⟩ := bind_some e
  cases e
  exact h pn F T H σ ρ d ρ1 st h1 _ fun v T' H' st' s' rv => q σ T' H' st' s'
/-! a cell goes to a slot -/
theorem StOk.cel {pn : Option V} {F : Hs} {T : Trs} {H : Hp} {σ : L2.St} {ρ : Env} {i : Nat} {v : V} {c : Cel} {B : List Addr} (hi : i ≠ 0) (hl : i < ρ.length) (st : StOk pn (FL F B) T H σ ρ) (nd : B.Nodup) (off : ∀ x ∈ B, ¬ F x) (hc : Cels (hid (SF (FL F B) T) H) H [v] [c] B) :
    ∃ T', StOk pn F T' H (σ.set i (some v)) (ρ.set i (toSl c)) ∧ Ex (hid (SF (FL F B) T) H) (hid (SF F T') H) := by
  cases hc with
  | dat r n =>
    cases n
    rw [FL_nil] at st r ⊢
    obtain ⟨st', s⟩ := st.set hi r
    exact ⟨_, st', s.vis⟩
  | sub hb r n =>
    cases n
    obtain ⟨st', vis⟩ := st.own (i := i) hi hl ⟨_, _, [], rfl, hb, Cels.dats r, rfl⟩ nd off
    exact ⟨_, st', vis⟩
theorem ss_par {i j : Nat} {ts : TA} {as : XWC} (hi : i ≠ 0) (hj : j ≠ 0) (hs : SWC ts as) : SS (tPar i j ts) (sPar i j as) := fun pn F T H σ ρ o D st e q => by
  obtain ⟨⟨cs, ρ1⟩, h1, e⟩ := bind_some e
  obtain ⟨⟨c, d⟩, h2, e⟩ := bind_some e
  have ec : cs = _ := two_eq h2
  subst ec
  · skip
    by_cases hl : i < ρ1.length ∧ j < ρ1.length
    · rw [if_pos hl] at e
      cases e
      refine hs pn F T H σ ρ _ ρ1 st h1 _ fun vs B T1 H1 st1 nd off fr vis hc => ?_
      obtain ⟨v, w, rfl⟩ : ∃ v w, vs = [v, w] := by
        have := hc.length
        match vs, this with
        | [v, w], _ => exact ⟨v, w, rfl⟩
      refine ⟨v, w, rfl, ?_⟩
      -- split the addresses
      have split : ∃ B1 B2, B = B1 ++ B2 ∧ Cels (hid (SF (FL F B) T1) H1) H1 [v] [c] B1 ∧ Cels (hid (SF (FL F B) T1) H1) H1 [w] [d] B2 := by
        cases hc with
        | dat r n => exact ⟨[], B, rfl, .dat r .nil, n⟩
        | sub hb r n => exact ⟨[_], _, rfl, .sub hb r .nil, n⟩
      obtain ⟨B1, B2, rfl, c1, c2⟩ := split
      have eF : FL F (B1 ++ B2) = FL (FL F B2) B1 := by rw [FL_app]; exact FL_perm fun x => by simp [or_comm]
      rw [eF] at st1 c1 c2 vis
      have nds := List.nodup_append.mp nd
      obtain ⟨T2, st2, vis2⟩ := StOk.cel (F := FL F B2) hi hl.1 st1 nds.1 (fun x hx z => z.elim (off x (List.mem_append_left _ hx)) fun z => nds.2.2 x hx x z rfl) c1
      have c2' := c2.mv vis2 fun x hx => (rfl : H1 x = H1 x)
      obtain ⟨T3, st3, vis3⟩ := StOk.cel (F := F) hj (by rw [List.length_set]; exact hl.2) st2 nds.2.1 (fun x hx => off x (List.mem_append_right _ hx)) c2'
      exact q _ T3 H1 st3 ⟨fr, (vis.trans vis2).trans vis3⟩
    · rw [if_neg hl] at e; cases e
end
/-! ### writing to owned lists -/
section
variable {G H : Hp}
theorem Cels.snoc : ∀ {vs : List V} {cs : List Cel} {B : List Addr} {v : V} {d : PD}, Cels G H vs cs B → Rp G v d → Cels G H (vs ++ [v]) (cs ++ [.dat d]) B
  | _, _, _, _, _, .nil, r => .dat r .nil
  | _, _, _, _, _, .dat h c, r => .dat h (c.snoc r)
  | _, _, _, _, _, .sub h1 h2 c, r => .sub h1 h2 (c.snoc r)
theorem Cels.app : ∀ {vs us : List V} {cs : List Cel} {ds : List PD} {B : List Addr}, Cels G H vs cs B → RpAll G us ds → Cels G H (vs ++ us) (cs ++ ds.map Cel.dat) B
  | _, _, _, _, _, .nil, r => Cels.dats r
  | _, _, _, _, _, .dat h c, r => .dat h (c.app r)
  | _, _, _, _, _, .sub h1 h2 c, r => .sub h1 h2 (c.app r)
theorem Cels.ins : ∀ (n : Nat) {vs : List V} {cs : List Cel} {B : List Addr} {v : V} {d : PD}, Cels G H vs cs B → Rp G v d → Cels G H (vs.take n ++ [v] ++ vs.drop n) (cs.take n ++ [.dat d] ++ cs.drop n) B
  | 0, _, _, _, _, _, c, r => by simpa using Cels.dat r c
  | n + 1, _, _, _, _, _, .nil, r => by simpa using Cels.dat r .nil
  | n + 1, _, _, _, _, _, .dat h c, r => by simpa using Cels.dat h (c.ins n r)
  | n + 1, _, _, _, _, _, .sub h1 h2 c, r => by simpa using Cels.sub h1 h2 (c.ins n r)
theorem Cels.set : ∀ (n : Nat) {vs : List V} {cs : List Cel} {B : List Addr} {v : V} {d d0 : PD}, Cels G H vs cs B → cs[n]? = some (.dat d0) → Rp G v d → Cels G H (vs.set n v) (cs.set n (.dat d)) B
  | _, _, _, _, _, _, _, .nil, h, _ => by simp at h
  | 0, _, _, _, _, _, _, .dat _ c, _, r => by simpa using Cels.dat r c
  | 0, _, _, _, _, _, _, .sub _ _ c, h, r => by simp at h
  | n + 1, _, _, _, _, _, _, .dat h0 c, h, r => by simpa using Cels.dat h0 (c.set n (by simpa using h) r)
  | n + 1, _, _, _, _, _, _, .sub h1 h2 c, h, r => by simpa using Cels.sub h1 h2 (c.set n (by simpa using h) r)
theorem Cels.erase : ∀ (n : Nat) {vs : List V} {cs : List Cel} {B : List Addr} {d0 : PD}, Cels G H vs cs B → cs[n]? = some (.dat d0) → Cels G H (vs.eraseIdx n) (cs.eraseIdx n) B ∧ ∃ v, vs[n]? = some v ∧ Rp G v d0
  | _, _, _, _, _, .nil, h => by simp at h
  | 0, _, _, _, _, .dat r c, h => by
    cases Option.some.inj (show some (Cel.dat _) = some (Cel.dat _) from h)
    exact ⟨by simpa using c, _, rfl, r⟩
  | 0, _, _, _, _, .sub _ _ c, h => by simp at h
  | n + 1, _, _, _, _, .dat h0 c, h => by
    obtain ⟨c1, v, e, r⟩ := c.erase n (by simpa using h)
    exact ⟨by simpa using Cels.dat h0 c1, v, by simpa using e, r⟩
  | n + 1, _, _, _, _, .sub h1 h2 c, h => by
    obtain ⟨c1, v, e, r⟩ := c.erase n (by simpa using h)
    exact ⟨by simpa using Cels.sub h1 h2 c1, v, by simpa using e, r⟩
/-- the owned list within: where it is, and the whole with it written -/
theorem Cels.inner : ∀ (n : Nat) {vs : List V} {cs : List Cel} {B : List Addr} {ds : List PD}, Cels G H vs cs B → B.Nodup → cs[n]? = some (.sub ds) → ∃ b ws, vs[n]? = some (.ref b) ∧ b ∈ B ∧ H b = some (.lst ws) ∧ RpAll G ws ds ∧
    ∀ (ws' : List V) (ds' : List PD), RpAll G ws' ds' → Cels G (upd H b (.lst ws')) vs (cs.set n (.sub ds')) B
  | _, _, _, _, _, .nil, _, h => by simp at h
  | 0, _, _, _, _, .dat _ c, _, h => by simp at h
  | 0, _, _, _, _, .sub (b := b) hb r c, nd, h => by
    cases Option.some.inj (show some (Cel.sub _) = some (Cel.sub _) from h)
    refine ⟨_, _, rfl, List.mem_cons_self .., hb, r, fun ws' ds' r' => ?_⟩
    have hn := (List.nodup_cons.mp nd).1
    simpa using Cels.sub upd_same r' (c.mv (Ex.refl _) fun x hx => upd_ne fun z => hn (by rw [← z]; exact hx))
  | n + 1, _, _, _, _, .dat h0 c, nd, h => by
    obtain ⟨b, ws, e1, e2, e3, e4, f⟩ := c.inner n nd (by simpa using h)
    exact ⟨b, ws, by simpa using e1, e2, e3, e4, fun ws' ds' r' => by simpa using Cels.dat h0 (f ws' ds' r')⟩
  | n + 1, _, _, _, _, .sub (b := b0) h1 h2 c, nd, h => by
    obtain ⟨hn, nd'⟩ := List.nodup_cons.mp nd
    obtain ⟨b, ws, e1, e2, e3, e4, f⟩ := c.inner n nd' (by simpa using h)
    exact ⟨b, ws, by simpa using e1, List.mem_cons_of_mem _ e2, e3, e4, fun ws' ds' r' => by simpa using Cels.sub (by rw [upd_ne fun z => hn (by rw [z]; exact e2)]; exact h1) h2 (f ws' ds' r')⟩
end
section
variable {pn : Option V} {F : Hs} {T : Trs} {H : Hp} {σ : L2.St} {ρ : Env}
/-- an owned list within an owned list is written -/
theorem StOk.writeSub (st : StOk pn F T H σ ρ) {i n : Nat} {cs : List Cel} {ds ds' : List PD} (hi : ρ[i]? = some (.own cs)) (hn : cs[n]? = some (.sub ds)) : ∃ a vs b ws, σ[i]? = some (some (.ref a)) ∧ H a = some (.lst vs) ∧ vs[n]? = some (.ref b) ∧ vs.length = cs.length ∧ H b = some (.lst ws) ∧ RpAll (hid (SF F T) H) ws ds ∧
    ∀ ws' ds', RpAll (hid (SF F T) H) ws' ds' → StOk pn F T (upd H b (.lst ws')) σ (ρ.set i (.own (cs.set n (.sub ds')))) ∧ Stp F T H T (upd H b (.lst ws')) := by
  obtain ⟨a, vs, B, h1, h2, h3, h4⟩ := st.at_own hi
  have ndA := st.nd i
  rw [h4] at ndA
  obtain ⟨haB, ndB⟩ := List.nodup_cons.mp ndA
  obtain ⟨b, ws, e1, e2, e3, e4, f⟩ := h3.inner n ndB hn
  refine ⟨a, vs, b, ws, h1, h2, e1, h3.length, e3, e4, fun ws' ds' r' => ?_⟩
  have hb : b ∈ T i := by rw [h4]; exact List.mem_cons_of_mem _ e2
  have hS : SF F T b := .inr ⟨i, hb⟩
  have vis : Ex (hid (SF F T) H) (hid (SF F T) (upd H b (.lst ws'))) := fun x o h => by
    obtain ⟨c, h⟩ := hid_some h
    rw [hid_out c, upd_ne (fun z => c (by rw [z]; exact hS))]
    exact h
  have ne : ∀ x, x ≠ b → upd H b (.lst ws') x = H x := fun x h => upd_ne h
  refine ⟨⟨by rw [List.length_set]; exact st.len, fun x h => ?_, st.off, st.dis, st.nd, fun j hj => st.out j (by rw [List.length_set] at hj; exact hj), fun j q hq => ?_, st.pin⟩, ⟨fun x h => ne x fun z => st.off i b hb (by rw [← z]; exact h), vis⟩⟩
  · rw [ne x fun z => st.off i b hb (by rw [← z]; exact h)]
    exact st.al x h
  · by_cases c : i = j
    · subst c
      have hl : i < ρ.length := (List.getElem?_eq_some_iff.mp hi).1
      rw [List.getElem?_set_self hl] at hq
      cases hq
      refine ⟨_, h1, .ref a, rfl, a, vs, B, rfl, by rw [ne a fun z => haB (by rw [z]; exact e2)]; exact h2, (f ws' ds' r').mv vis fun x _ => rfl, h4⟩
    · rw [List.getElem?_set_ne c] at hq
      obtain ⟨o', h5, h6⟩ := st.sl j q hq
      exact ⟨o', h5, h6.mv vis fun x hx => ne x fun z => c (st.dis i j b hb (by rw [← z]; exact hx))⟩
end
def sApp (i : Nat) (a : XW) : XS := fun ρ => (ownAt ρ i).bind fun _ => (a ρ).bind fun x => (ownAt x.2 i).bind fun cs => if cs.length < 100000 then some (.nxt (x.2.set i (.own (cs ++ [.dat x.1])))) else none
def sExt (i : Nat) (a : XW) : XS := fun ρ => (ownAt ρ i).bind fun _ => (a ρ).bind fun x => (asList x.1).bind fun ds => (ownAt x.2 i).bind fun cs => if cs.length + ds.length ≤ 100000 then some (.nxt (x.2.set i (.own (cs ++ ds.map Cel.dat)))) else none
def isI : PD → Option Int
  | .int i => some i
  | _ => none
theorem isI_eq {d : PD} {i : Int} (h : isI d = some i) : d = .int i := by
  cases d with
  | int c => cases h; rfl
  | _ => cases h
def insA : List PD → Option (Int × PD)
  | [.int k, d] => some (k, d)
  | _ => none
theorem insA_eq {ds : List PD} {k : Int} {d : PD} (h : insA ds = some (k, d)) : ds = [.int k, d] := by
  unfold insA at h
  split at h
  · cases h; rfl
  · cases h
def sIns (i : Nat) (as : XWA) : XS := fun ρ => (ownAt ρ i).bind fun _ => (as ρ).bind fun x => (insA x.1).bind fun kd => (ownAt x.2 i).bind fun cs => if cs.length < 100000 ∧ 0 ≤ kd.1 ∧ kd.1 < 2 ^ 63 then some (.nxt (x.2.set i (.own (cs.take kd.1.toNat ++ [.dat kd.2] ++ cs.drop kd.1.toNat)))) else none
def datAt (cs : List Cel) (n : Nat) : Option PD := match cs[n]? with
  | some (.dat d) => some d
  | _ => none
theorem datAt_eq {cs : List Cel} {n : Nat} {d : PD} (h : datAt cs n = some d) : cs[n]? = some (.dat d) := by
  unfold datAt at h
  split at h
  · rename_i e; cases h; exact e
  · cases h
def subAt (cs : List Cel) (n : Nat) : Option (List PD) := match cs[n]? with
  | some (.sub d) => some d
  | _ => none
theorem subAt_eq {cs : List Cel} {n : Nat} {d : List PD} (h : subAt cs n = some d) : cs[n]? = some (.sub d) := by
  unfold subAt at h
  split at h
  · rename_i e; cases h; exact e
  · cases h
def wPop (i : Nat) (a : XW) : XW := fun ρ => (ownAt ρ i).bind fun _ => (a ρ).bind fun x => (isI x.1).bind fun k => (ownAt x.2 i).bind fun cs => if -(2 ^ 63) ≤ k ∧ k < 2 ^ 63 then (ixN cs.length k).bind fun n => (datAt cs n).bind fun d => some (d, x.2.set i (.own (cs.eraseIdx n))) else none
/-- x[k] = e -/
def sSet (i : Nat) (k : XE) (a : XW) : XS := fun ρ => (a ρ).bind fun x => (ownAt x.2 i).bind fun cs => ((k (vw x.2)).bind isI).bind fun k => (ixN cs.length k).bind fun n => (datAt cs n).bind fun _ => some (.nxt (x.2.set i (.own (cs.set n (.dat x.1)))))
/-- x[k][j] = e -/
def sSetS (i : Nat) (k j : XE) (a : XW) : XS := fun ρ => (a ρ).bind fun x => (ownAt x.2 i).bind fun cs => ((k (vw x.2)).bind isI).bind fun k => (ixN cs.length k).bind fun n => (subAt cs n).bind fun ds => ((j (vw x.2)).bind isI).bind fun j => (ixN ds.length j).bind fun m => some (.nxt (x.2.set i (.own (cs.set n (.sub (ds.set m x.1))))))
/-- x[k].pop(j), the item dropped -/
def sPopS (i : Nat) (k j : XE) : XS := fun ρ => (ownAt ρ i).bind fun cs => ((k (vw ρ)).bind isI).bind fun k => (ixN cs.length k).bind fun n => (subAt cs n).bind fun ds => ((j (vw ρ)).bind isI).bind fun j => if -(2 ^ 63) ≤ j ∧ j < 2 ^ 63 then (ixN ds.length j).bind fun m => some (.nxt (ρ.set i (.own (cs.set n (.sub (ds.eraseIdx m)))))) else none
section
variable {te tk tj : TE} {w : XW} {k j : XE}
theorem RpAll.erase {G : Hp} : ∀ {vs : List V} {ds : List PD} (n : Nat), RpAll G vs ds → RpAll G (vs.eraseIdx n) (ds.eraseIdx n)
  | _, _, _, .nil => by simpa using RpAll.nil
  | _, _, 0, .cons _ r => by simpa using r
  | _, _, n + 1, .cons h r => by simpa using RpAll.cons h (r.erase n)
theorem ss_app {i : Nat} (h : SW te w) : SS (tDrop (tBM K "list" rAppend (tVar i) (tCons te tNil))) (sApp i w) := fun pn F T H σ ρ o D st e q => by
  obtain ⟨c0, h0, e⟩ := bind_some e
  obtain ⟨⟨d, ρ1⟩, h1, e⟩ := bind_some e
  obtain ⟨cs, h2, e⟩ := bind_some e
  by_cases hl : cs.length < 100000
  · rw [if_pos hl] at e
    cases e
    obtain ⟨a, vs, B, ha, hv, _⟩ := st.at_own (ownAt_eq h0)
    refine ⟨.ref a, ha, .inl ⟨rfl, _, .inl (.inl hv)⟩, h pn F T H σ ρ d ρ1 st h1 _ fun v T1 H1 st1 s1 rv => ?_⟩
    obtain ⟨a', vs', B', ha', hv', hc', hT⟩ := st1.at_own (ownAt_eq h2)
    have ea : a' = a := by rw [ha'] at ha; cases ha; rfl
    subst ea
    obtain ⟨st2, s2⟩ := st1.write (ownAt_eq h2) hT ha' (hc'.snoc rv)
    exact ⟨a', vs', v, rfl, rfl, hv', by rw [hc'.length]; exact Evl.sz_lt hl, q σ T1 _ st2 (s1.trans s2)⟩
  · rw [if_neg hl] at e; cases e
theorem ss_ext {i : Nat} (h : SW te w) : SS (tDrop (tBM K "list" rExtend (tVar i) (tCons te tNil))) (sExt i w) := fun pn F T H σ ρ o D st e q => by
  obtain ⟨c0, h0, e⟩ := bind_some e
  obtain ⟨⟨d, ρ1⟩, h1, e⟩ := bind_some e
  obtain ⟨ds, hd, e⟩ := bind_some e
  obtain ⟨cs, h2, e⟩ := bind_some e
  by_cases hl : cs.length + ds.length ≤ 100000
  · rw [if_pos hl] at e
    cases e
    have ed : d = .list ds := asList_eq hd
    subst ed
    obtain ⟨a, vs, B, ha, hv, _⟩ := st.at_own (ownAt_eq h0)
    refine ⟨.ref a, ha, .inl ⟨rfl, _, .inl (.inl hv)⟩, h pn F T H σ ρ _ ρ1 st h1 _ fun v T1 H1 st1 s1 rv => ?_⟩
    obtain ⟨a', vs', B', ha', hv', hc', hT⟩ := st1.at_own (ownAt_eq h2)
    have ea : a' = a := by rw [ha'] at ha; cases ha; rfl
    subst ea
    cases rv with
    | lst hb rb =>
      obtain ⟨st2, s2⟩ := st1.write (ownAt_eq h2) hT ha' (hc'.app rb)
      exact ⟨a', _, vs', _, rfl, rfl, hv', hid_le _ _ hb, by rw [hc'.length, rb.length]; exact Evl.sz_of hl, q σ T1 _ st2 (s1.trans s2)⟩
  · rw [if_neg hl] at e; cases e
abbrev rInsQ : V → List V → Hp → VK → Prop := fun x vs H Q => ∃ (l : Addr) (xs : List V) (i : Int) (y : V), x = .ref l ∧ vs = [.int i, y] ∧ H l = some (.lst xs) ∧ xs.length < sizeLine ∧ 0 ≤ i ∧ i < 2 ^ 63 ∧
  Q .non (upd H l (.lst (xs.take i.toNat ++ [y] ++ xs.drop i.toNat)))
theorem ss_ins {i : Nat} {ts : TA} {as : XWA} (h : SWA ts as) : SS (tDrop (tBM K "list" rInsQ (tVar i) ts)) (sIns i as) := fun pn F T H σ ρ o D st e q => by
  obtain ⟨c0, h0, e⟩ := bind_some e
  obtain ⟨⟨xs, ρ1⟩, h1, e⟩ := bind_some e
  obtain ⟨⟨kk, d⟩, hd, e⟩ := bind_some e
  obtain ⟨cs, h2, e⟩ := bind_some e
  by_cases hl : cs.length < 100000 ∧ 0 ≤ kk ∧ kk < 2 ^ 63
  · rw [if_pos hl] at e
    cases e
    have ed : xs = _ := insA_eq hd
    subst ed
    obtain ⟨a, vs, B, ha, hv, _⟩ := st.at_own (ownAt_eq h0)
    refine ⟨.ref a, ha, .inl ⟨rfl, _, .inl (.inl hv)⟩, h pn F T H σ ρ _ ρ1 st h1 _ fun us T1 H1 st1 s1 rv => ?_⟩
    obtain ⟨a', vs', B', ha', hv', hc', hT⟩ := st1.at_own (ownAt_eq h2)
    have ea : a' = a := by rw [ha'] at ha; cases ha; rfl
    subst ea
    cases rv with
    | cons g1 t =>
      cases t with
      | cons g2 t =>
        cases t
        cases g1
        obtain ⟨st2, s2⟩ := st1.write (ownAt_eq h2) hT ha' (hc'.ins kk.toNat g2)
        exact ⟨a', vs', kk, _, rfl, rfl, hv', by rw [hc'.length]; exact Evl.sz_lt hl.1, hl.2.1, hl.2.2, q σ T1 _ st2 (s1.trans s2)⟩
  · rw [if_neg hl] at e; cases e
theorem sw_pop {i : Nat} (h : SW te w) : SW (tBM K "list" rPopAt (tVar i) (tCons te tNil)) (wPop i w) := fun pn F T H σ ρ d ρ' st e Q q => by
  obtain ⟨c0, h0, e⟩ := bind_some e
  obtain ⟨⟨dk, ρ1⟩, h1, e⟩ := bind_some e
  obtain ⟨kk, hk, e⟩ := bind_some e
  obtain ⟨cs, h2, e⟩ := bind_some e
  by_cases hl : -(2 ^ 63) ≤ kk ∧ kk < 2 ^ 63
  · rw [if_pos hl] at e
    obtain ⟨n, hn, e⟩ := bind_some e
    obtain ⟨d1, hd, e⟩ := bind_some e
    cases e
    have ed : dk = _ := isI_eq hk
    subst ed
    obtain ⟨a, vs, B, ha, hv, _⟩ := st.at_own (ownAt_eq h0)
    refine ⟨.ref a, ha, .inl ⟨rfl, _, .inl (.inl hv)⟩, h pn F T H σ ρ _ ρ1 st h1 _ fun v T1 H1 st1 s1 rv => ?_⟩
    obtain ⟨a', vs', B', ha', hv', hc', hT⟩ := st1.at_own (ownAt_eq h2)
    have ea : a' = a := by rw [ha'] at ha; cases ha; rfl
    subst ea
    cases rv
    obtain ⟨hc2, y, hy, ry⟩ := hc'.erase n (datAt_eq hd)
    obtain ⟨st2, s2⟩ := st1.write (ownAt_eq h2) hT ha' hc2
    refine ⟨a', vs', kk, n, y, rfl, rfl, hv', hl.1, hl.2, (ixN_seq (by rw [hc'.length]; exact hn)).1, hy, q y T1 _ st2 (s1.trans s2) (ry.ex s2.vis)⟩
  · rw [if_neg hl] at e; cases e
theorem ss_set {i : Nat} (hk : SE tk k) (h : SW te w) : SS (tAsg te (gSub (tVar i) tk rSetL)) (sSet i k w) := fun pn F T H σ ρ o D st e q => by
  obtain ⟨⟨d, ρ1⟩, h1, e⟩ := bind_some e
  obtain ⟨cs, h2, e⟩ := bind_some e
  obtain ⟨kk, h3, e⟩ := bind_some e
  obtain ⟨dk, h3, h4⟩ := bind_some h3
  obtain ⟨n, hn, e⟩ := bind_some e
  obtain ⟨d0, hd, e⟩ := bind_some e
  cases e
  have ed : dk = _ := isI_eq h4
  subst ed
  refine h pn F T H σ ρ d ρ1 st h1 _ fun v T1 H1 st1 s1 rv => ?_
  obtain ⟨a', vs', B', ha', hv', hc', hT⟩ := st1.at_own (ownAt_eq h2)
  refine ⟨.ref a', ha', hk _ _ h3 F σ H1 st1.al st1.vw _ fun vk H2 e2 rk => ?_⟩
  cases rk
  have st2 := st1.ex e2
  have s2 : Stp F T1 H1 T1 H2 := Stp.ex st1.al e2
  obtain ⟨a2, vs2, B2, ha2, hv2, hc2, hT2⟩ := st2.at_own (ownAt_eq h2)
  have ea : a2 = a' := by rw [ha2] at ha'; cases ha'; rfl
  subst ea
  obtain ⟨st3, s3⟩ := st2.write (ownAt_eq h2) hT2 ha2 (hc2.set n (datAt_eq hd) (rv.ex s2.vis))
  exact ⟨a2, vs2, kk, n, rfl, rfl, hv2, by rw [hc2.length]; exact hn, q σ T1 _ st3 ((s1.trans s2).trans s3)⟩
/-- reading x[k], a list within -/
theorem ix_sub {pn : Option V} {F : Hs} {T : Trs} {H : Hp} {σ : L2.St} {ρ : Env} (st : StOk pn F T H σ ρ) {i n : Nat} {cs : List Cel} {ds : List PD} {kk : Int} (hi : ρ[i]? = some (.own cs)) (hn : ixN cs.length kk = some n) (hs : cs[n]? = some (.sub ds)) (hk : SE tk k) (h3 : k (vw ρ) = some (.int kk)) {Q : VK}
    (q : ∀ b H2, Ex H H2 → (∃ a vs, σ[i]? = some (some (.ref a)) ∧ H2 a = some (.lst vs) ∧ vs[n]? = some (.ref b)) → Q (.ref b) H2) : tOp (rIx K) (tVar i) tk σ H Q := by
  obtain ⟨a, vs, b, ws, g1, g2, g3, g4, g5, g6, f⟩ := st.writeSub (ds' := ds) hi hs
  refine ⟨.ref a, g1, hk _ _ h3 F σ H st.al st.vw _ fun vk H2 e2 rk => ?_⟩
  cases rk
  refine .inl ⟨a, vs, kk, .ref b, rfl, rfl, .inl (.inl (e2 _ _ g2)), ?_, q b H2 e2 ⟨a, vs, g1, e2 _ _ g2, g3⟩⟩
  unfold atI
  rw [g4, hn]
  exact g3
theorem ss_setS {i : Nat} (hk : SE tk k) (hj : SE tj j) (h : SW te w) : SS (tAsg te (gSub (tOp (rIx K) (tVar i) tk) tj rSetL)) (sSetS i k j w) := fun pn F T H σ ρ o D st e q => by
  obtain ⟨⟨d, ρ1⟩, h1, e⟩ := bind_some e
  obtain ⟨cs, h2, e⟩ := bind_some e
  obtain ⟨kk, h3, e⟩ := bind_some e
  obtain ⟨dk, h3, h4⟩ := bind_some h3
  obtain ⟨n, hn, e⟩ := bind_some e
  obtain ⟨ds, hd, e⟩ := bind_some e
  obtain ⟨jj, h5, e⟩ := bind_some e
  obtain ⟨dj, h5, h6⟩ := bind_some h5
  obtain ⟨m, hm, e⟩ := bind_some e
  cases e
  have ed : dk = _ := isI_eq h4
  subst ed
  have ed : dj = _ := isI_eq h6
  subst ed
  refine h pn F T H σ ρ d ρ1 st h1 _ fun v T1 H1 st1 s1 rv => ?_
  refine ix_sub st1 (ownAt_eq h2) hn (subAt_eq hd) hk h3 fun b H2 e2 hb => ?_
  have st2 := st1.ex e2
  have s2 : Stp F T1 H1 T1 H2 := Stp.ex st1.al e2
  refine hj _ _ h5 F σ H2 st2.al st2.vw _ fun vj H3 e3 rj => ?_
  cases rj
  have st3 := st2.ex e3
  have s3 : Stp F T1 H2 T1 H3 := Stp.ex st2.al e3
  obtain ⟨a, vs, b', ws, g1, g2, g3, g4, g5, g6, f⟩ := st3.writeSub (ds' := ds) (ownAt_eq h2) (subAt_eq hd)
  obtain ⟨a2, vs2, k1, k2, k3⟩ := hb
  have ea : a2 = a := by rw [k1] at g1; cases g1; rfl
  subst ea
  have ev : vs2 = vs := by have := e3 _ _ k2; rw [this] at g2; cases g2; rfl
  subst ev
  have eb : b' = b := by rw [k3] at g3; cases g3; rfl
  subst eb
  obtain ⟨st4, s4⟩ := f (ws.set m v) (ds.set m d) (g6.set m ((rv.ex s2.vis).ex s3.vis))
  exact ⟨b', ws, jj, m, rfl, rfl, g5, by rw [g6.length]; exact hm, q σ T1 _ st4 (((s1.trans s2).trans s3).trans s4)⟩
theorem ss_popS {i : Nat} (hk : SE tk k) (hj : SE tj j) : SS (tDrop (tBM K "list" rPopAt (tOp (rIx K) (tVar i) tk) (tCons tj tNil))) (sPopS i k j) := fun pn F T H σ ρ o D st e q => by
  obtain ⟨cs, h2, e⟩ := bind_some e
  obtain ⟨kk, h3, e⟩ := bind_some e
  obtain ⟨dk, h3, h4⟩ := bind_some h3
  obtain ⟨n, hn, e⟩ := bind_some e
  obtain ⟨ds, hd, e⟩ := bind_some e
  obtain ⟨jj, h5, e⟩ := bind_some e
  obtain ⟨dj, h5, h6⟩ := bind_some h5
  by_cases hl : -(2 ^ 63) ≤ jj ∧ jj < 2 ^ 63
  · rw [if_pos hl] at e
    obtain ⟨m, hm, e⟩ := bind_some e
    cases e
    have ed : dk = _ := isI_eq h4
    subst ed
    have ed : dj = _ := isI_eq h6
    subst ed
    refine ix_sub st (ownAt_eq h2) hn (subAt_eq hd) hk h3 fun b H2 e2 hb => ?_
    have st2 := st.ex e2
    have s2 : Stp F T H T H2 := Stp.ex st.al e2
    obtain ⟨a, vs, b', ws, g1, g2, g3, g4, g5, g6, f⟩ := st2.writeSub (ds' := ds) (ownAt_eq h2) (subAt_eq hd)
    obtain ⟨a2, vs2, k1, k2, k3⟩ := hb
    have ea : a2 = a := by rw [k1] at g1; cases g1; rfl
    subst ea
    have ev : vs2 = vs := by rw [k2] at g2; cases g2; rfl
    subst ev
    have eb : b' = b := by rw [k3] at g3; cases g3; rfl
    subst eb
    refine ⟨.inl ⟨rfl, _, .inl (.inl g5)⟩, hj _ _ h5 F σ H2 st2.al st2.vw _ fun vj H3 e3 rj => ?_⟩
    cases rj
    have st3 := st2.ex e3
    have s3 : Stp F T H2 T H3 := Stp.ex st2.al e3
    clear f
    obtain ⟨a7, vs7, b7, ws7, u1, u2, u3, u4, u5, u6, f7⟩ := st3.writeSub (ds' := ds) (ownAt_eq h2) (subAt_eq hd)
    have ea : a7 = a2 := by rw [k1] at u1; cases u1; rfl
    subst ea
    have ev : vs7 = vs2 := by have := e3 _ _ k2; rw [this] at u2; cases u2; rfl
    subst ev
    have eb : b7 = b' := by rw [k3] at u3; cases u3; rfl
    subst eb
    obtain ⟨st4, s4⟩ := f7 (ws7.eraseIdx m) (ds.eraseIdx m) (u6.erase m)
    have hm' : ixN ws7.length jj = some m := by rw [u6.length]; exact hm
    obtain ⟨q1, q2, _, _⟩ := ixN_seq hm'
    exact ⟨b7, ws7, jj, m, ws7[m], rfl, rfl, u5, hl.1, hl.2, q1, List.getElem?_eq_getElem q2, q σ T _ st4 ((s2.trans s3).trans s4)⟩
  · rw [if_neg hl] at e; cases e
end
end Uv

namespace Uv
open PySem PySem.Spec PyProof.Rows L2
open Evl (Ex)
variable [kk : KK]
/-! ### loops -/
def forGo (g : XG) (b : XS) : List PD → Env → Option Out
  | [], ρ => some (.nxt ρ)
  | x :: xs, ρ => (g x ρ).bind fun ρ1 => (b ρ1).bind fun o => match o with
    | .nxt ρ2 => forGo g b xs ρ2
    | .cnt ρ2 => forGo g b xs ρ2
    | .brk ρ2 => some (.nxt ρ2)
    | .ret d ρ2 => some (.ret d ρ2)
    | .retO d ρ2 => some (.retO d ρ2)
def sFor (src : XWI) (g : XG) (b : XS) : XS := fun ρ => (src ρ).bind fun x => forGo g b x.1 x.2
theorem ss_for {bb : Bool} {wi : TI} {g : TG} {tb : TS} {vs : List Nat} {src : XWI} {xg : XG} {b : XS} (hs : SWI bb wi src) (hg : SG bb g xg vs) (hb : SS tb b) : SS (tFor wi g tb) (sFor src xg b) := fun pn F T H σ ρ o D st e q => by
  obtain ⟨⟨xs, ρ1⟩, h1, e⟩ := bind_some e
  have e : forGo xg b xs ρ1 = some o := e
  refine hs pn F T H σ ρ xs ρ1 st h1 _ fun J T1 H1 st1 s1 wk => ?_
  refine ⟨fun i m σ' H' => m = xs.length - i ∧ i ≤ xs.length ∧ ∃ T' ρ', StOk pn F T' H' σ' ρ' ∧ Stp F T1 H1 T' H' ∧ forGo xg b (xs.drop i) ρ' = some o, ⟨_, rfl, Nat.zero_le _, T1, ρ1, st1, Stp.refl, e⟩, fun i m σ' H' hw => ?_⟩
  obtain ⟨rfl, hi, T', ρ', st', s', hgo⟩ := hw
  obtain ⟨w1, w2⟩ := wk _ H' s'.vis st'.als
  by_cases hlt : i < xs.length
  · obtain ⟨w3, w4⟩ := w2 i _ (List.getElem?_eq_getElem hlt)
    rw [List.drop_eq_getElem_cons hlt] at hgo
    obtain ⟨ρ2, g1, hgo⟩ := bind_some (show (xg xs[i] ρ').bind _ = some o from hgo)
    obtain ⟨o2, b1, hgo⟩ := bind_some hgo
    refine .inr ⟨w3, fun σ2 H2 => ∃ T2 ρ2, StOk pn F T2 H2 σ2 ρ2 ∧ Stp F T1 H1 T2 H2 ∧ forGo xg b (xs.drop (i + 1)) ρ2 = some o, fun σ2 H2 hn => ⟨_, by omega, rfl, hlt, hn⟩, fun v H3 y => ?_⟩
    obtain ⟨e3, rv⟩ := w4 v H3 y
    have st3 := st'.ex e3
    have s3 : Stp F T' H' T' H3 := Stp.ex st'.al e3
    refine hg pn F T' H3 σ' v _ ρ' ρ2 st3 g1 rv _ fun σ4 T4 st4 s4 _ => ?_
    have s14 := (s'.trans s3).trans s4
    cases o2 with
    | nxt ρ5 => exact hb pn F T4 H3 σ4 ρ2 _ _ st4 b1 fun σ5 T5 H5 st5 s5 => ⟨T5, ρ5, st5, s14.trans s5, hgo⟩
    | cnt ρ5 => exact hb pn F T4 H3 σ4 ρ2 _ _ st4 b1 fun σ5 T5 H5 st5 s5 => ⟨T5, ρ5, st5, s14.trans s5, hgo⟩
    | brk ρ5 =>
      cases hgo
      exact hb pn F T4 H3 σ4 ρ2 _ _ st4 b1 fun σ5 T5 H5 st5 s5 => q σ5 T5 H5 st5 (s1.trans (s14.trans s5))
    | ret d ρ5 =>
      cases hgo
      exact hb pn F T4 H3 σ4 ρ2 _ _ st4 b1 (OutOk.on (fun _ z => nomatch z) (fun _ z => nomatch z) (fun _ z => nomatch z) (q.step (s1.trans s14)))
    | retO d ρ5 =>
      cases hgo
      exact hb pn F T4 H3 σ4 ρ2 _ _ st4 b1 (OutOk.on (fun _ z => nomatch z) (fun _ z => nomatch z) (fun _ z => nomatch z) (q.step (s1.trans s14)))
  · have ei : i = xs.length := by omega
    subst ei
    rw [List.drop_length] at hgo
    cases hgo
    exact .inl ⟨w1, q σ' T' H' st' (s1.trans s')⟩
def whGo (c : XWT) (b : XS) : Nat → Env → Option Out
  | 0, _ => none
  | n + 1, ρ => (c ρ).bind fun k => if k.1 = true then (b k.2).bind fun o => match o with
    | .nxt ρ2 => whGo c b n ρ2
    | .cnt ρ2 => whGo c b n ρ2
    | .brk ρ2 => some (.nxt ρ2)
    | .ret d ρ2 => some (.ret d ρ2)
    | .retO d ρ2 => some (.retO d ρ2)
    else some (.nxt k.2)
/-- how often a while may go round -/
def fuel : Nat := 100000
theorem fuel_lt {k : Nat} (h : k < 100000) : k < fuel := h
def sWhile (n : Nat) (c : XWT) (b : XS) : XS := whGo c b n
theorem ss_while {n : Nat} {ct : TT} {tb : TS} {c : XWT} {b : XS} (hc : SWT ct c) (hb : SS tb b) : SS (tWhile ct tb) (sWhile n c b) := fun pn F T H σ ρ o D st e q => by
  refine ⟨fun m σ' H' => ∃ T' ρ', StOk pn F T' H' σ' ρ' ∧ Stp F T H T' H' ∧ whGo c b m ρ' = some o, ⟨n, T, ρ, st, Stp.refl, e⟩, fun m σ' H' hw => ?_⟩
  obtain ⟨T', ρ', st', s', hgo⟩ := hw
  cases m with
  | zero => cases hgo
  | succ m =>
    obtain ⟨⟨k, ρ1⟩, h1, hgo⟩ := bind_some (show (c ρ').bind _ = some o from hgo)
    refine hc pn F T' H' σ' ρ' k ρ1 st' h1 _ fun T1 H1 st1 s1 => ?_
    cases k with
    | false => cases hgo; exact iteF (q σ' T1 H1 st1 (s'.trans s1))
    | true =>
      obtain ⟨o2, b1, hgo⟩ := bind_some (show (b ρ1).bind _ = some o from hgo)
      refine iteT ⟨fun σ2 H2 => ∃ T2 ρ2, StOk pn F T2 H2 σ2 ρ2 ∧ Stp F T H T2 H2 ∧ whGo c b m ρ2 = some o, fun σ2 H2 hn => ⟨m, Nat.lt_succ_self _, hn⟩, ?_⟩
      have s2 := s'.trans s1
      cases o2 with
      | nxt ρ5 => exact hb pn F T1 H1 σ' ρ1 _ _ st1 b1 fun σ5 T5 H5 st5 s5 => ⟨T5, ρ5, st5, s2.trans s5, hgo⟩
      | cnt ρ5 => exact hb pn F T1 H1 σ' ρ1 _ _ st1 b1 fun σ5 T5 H5 st5 s5 => ⟨T5, ρ5, st5, s2.trans s5, hgo⟩
      | brk ρ5 =>
        cases hgo
        exact hb pn F T1 H1 σ' ρ1 _ _ st1 b1 fun σ5 T5 H5 st5 s5 => q σ5 T5 H5 st5 (s2.trans s5)
      | ret d ρ5 =>
        cases hgo
        exact hb pn F T1 H1 σ' ρ1 _ _ st1 b1 (OutOk.on (fun _ z => nomatch z) (fun _ z => nomatch z) (fun _ z => nomatch z) (q.step s2))
      | retO d ρ5 =>
        cases hgo
        exact hb pn F T1 H1 σ' ρ1 _ _ st1 b1 (OutOk.on (fun _ z => nomatch z) (fun _ z => nomatch z) (fun _ z => nomatch z) (q.step s2))
/-! ### an owned list becomes data for good -/
def fzE (ρ : Env) (i : Nat) : Env := match ρ[i]? with
  | some (.own cs) => ρ.set i (.dat (.list (cs.map Cel.pd)))
  | _ => ρ
def sFz (i : Nat) (y : XS) : XS := fun ρ => y (fzE ρ i)
theorem StOk.fz1 {pn : Option V} {F : Hs} {T : Trs} {H : Hp} {σ : L2.St} {ρ : Env} (st : StOk pn F T H σ ρ) (i : Nat) : ∃ T', StOk pn F T' H σ (fzE ρ i) ∧ Stp F T H T' H := by
  unfold fzE
  cases hi : ρ[i]? with
  | none => exact ⟨T, st, Stp.refl⟩
  | some s =>
    cases s with
    | un => exact ⟨T, st, Stp.refl⟩
    | dat d => exact ⟨T, st, Stp.refl⟩
    | own cs =>
      have sub : Ex (hid (SF F T) H) (hid (SF F (setT T i [])) H) := hid_sub SF_setT_nil
      have mem : ∀ j x, x ∈ setT T i [] j → x ∈ T j ∧ j ≠ i := fun j x h => by
        by_cases c : j = i
        · subst c; rw [setT_same] at h; cases h
        · rw [setT_ne c] at h; exact ⟨h, c⟩
      refine ⟨setT T i [], ⟨by rw [List.length_set]; exact st.len, st.al, fun j x h => st.off j x (mem j x h).1, fun j k x h h' => st.dis j k x (mem j x h).1 (mem k x h').1, fun j => ?_, fun j hj => ?_, fun j q hq => ?_, st.pin⟩, ⟨fun _ _ => rfl, sub⟩⟩
      · by_cases c : j = i
        · subst c; rw [setT_same]; exact List.nodup_nil
        · rw [setT_ne c]; exact st.nd j
      · rw [List.length_set] at hj
        by_cases c : j = i
        · subst c; rw [setT_same]
        · rw [setT_ne c]; exact st.out j hj
      · by_cases c : i = j
        · subst c
          have hl : i < ρ.length := (List.getElem?_eq_some_iff.mp hi).1
          rw [List.getElem?_set_self hl] at hq
          cases hq
          obtain ⟨o, h1, v, rfl, ow⟩ := st.sl i _ hi
          rw [setT_same]
          refine ⟨_, h1, rfl, v, rfl, ow.rp sub fun x hx => hid_out ?_⟩
          rintro (z | ⟨j, z⟩)
          · exact st.off i x hx z
          · obtain ⟨z1, z2⟩ := mem j x z
            exact z2 (st.dis j i x z1 hx)
        · rw [List.getElem?_set_ne c] at hq
          obtain ⟨o', h1, h2⟩ := st.sl j q hq
          rw [setT_ne (fun z => c z.symm)]
          exact ⟨o', h1, h2.mv sub fun _ _ => rfl⟩
theorem ss_fz {i : Nat} {t : TS} {y : XS} (h : SS t y) : SS t (sFz i y) := fun pn F T H σ ρ o D st e q => by
  obtain ⟨T', st', s'⟩ := st.fz1 i
  exact h pn F T' H σ _ o D st' e (q.step s')
/-! ### comprehensions that draw -/
def clearE (ρ : Env) : List Nat → Env
  | [] => ρ
  | v :: vs => (clearE ρ vs).set v .un
def keepD : Option Sl → Sl
  | some (.dat d) => .dat d
  | _ => .un
def backE (ρ1 ρ : Env) : List Nat → Env
  | [] => ρ
  | v :: vs => (backE ρ1 ρ vs).set v (keepD ρ1[v]?)
theorem StOk.clear {pn : Option V} {F : Hs} {H : Hp} {σ : L2.St} {ρ : Env} : ∀ {T : Trs} (vs : List Nat), 0 ∉ vs → StOk pn F T H σ ρ → ∃ T', StOk pn F T' H (wipe σ vs) (clearE ρ vs) ∧ Stp F T H T' H
  | T, [], _, st => ⟨T, st, Stp.refl⟩
  | T, v :: vs, h0, st => by
    obtain ⟨T1, st1, s1⟩ := StOk.clear vs (fun z => h0 (List.mem_cons_of_mem _ z)) st
    obtain ⟨st2, s2⟩ := st1.drop (i := v) (o := none) (s := .un) (fun z => h0 (by rw [z]; exact List.mem_cons_self ..)) rfl
    exact ⟨_, st2, s1.trans s2⟩
theorem clearE_len {ρ : Env} : ∀ vs : List Nat, (clearE ρ vs).length = ρ.length
  | [] => rfl
  | v :: vs => by unfold clearE; rw [List.length_set, clearE_len vs]
theorem backE_len {ρ1 ρ : Env} : ∀ vs : List Nat, (backE ρ1 ρ vs).length = ρ.length
  | [] => rfl
  | v :: vs => by unfold backE; rw [List.length_set, backE_len vs]
theorem clearE_off {ρ : Env} {i : Nat} : ∀ {vs : List Nat}, i ∉ vs → (clearE ρ vs)[i]? = ρ[i]?
  | [], _ => rfl
  | v :: vs, h => by
    unfold clearE
    rw [List.getElem?_set_ne (fun z => h (by rw [← z]; exact List.mem_cons_self ..))]
    exact clearE_off fun z => h (List.mem_cons_of_mem _ z)
theorem clearE_at {ρ : Env} {i : Nat} : ∀ {vs : List Nat}, i ∈ vs → i < ρ.length → (clearE ρ vs)[i]? = some .un
  | v :: vs, h, hl => by
    unfold clearE
    by_cases c : v = i
    · subst c; exact List.getElem?_set_self (by rw [clearE_len]; exact hl)
    · rw [List.getElem?_set_ne c]
      exact clearE_at ((List.mem_cons.mp h).resolve_left fun z => c z.symm) hl
theorem backE_off {ρ1 ρ : Env} {i : Nat} : ∀ {vs : List Nat}, i ∉ vs → (backE ρ1 ρ vs)[i]? = ρ[i]?
  | [], _ => rfl
  | v :: vs, h => by
    unfold backE
    rw [List.getElem?_set_ne (fun z => h (by rw [← z]; exact List.mem_cons_self ..))]
    exact backE_off fun z => h (List.mem_cons_of_mem _ z)
theorem backE_at {ρ1 ρ : Env} {i : Nat} : ∀ {vs : List Nat}, i ∈ vs → i < ρ.length → (backE ρ1 ρ vs)[i]? = some (keepD ρ1[i]?)
  | v :: vs, h, hl => by
    unfold backE
    by_cases c : v = i
    · subst c; exact List.getElem?_set_self (by rw [backE_len]; exact hl)
    · rw [List.getElem?_set_ne c]
      exact backE_at ((List.mem_cons.mp h).resolve_left fun z => c z.symm) hl
def wlGo (g : XG) (t : XWT) (e : XW) (vs : List Nat) : List PD → Env → Option (List PD × Env)
  | [], ρ => some ([], ρ)
  | x :: xs, ρ => (g x (clearE ρ vs)).bind fun ρ1 => (t ρ1).bind fun b => if b.1 = true then (e b.2).bind fun d => (wlGo g t e vs xs d.2).bind fun r => some (d.1 :: r.1, r.2) else wlGo g t e vs xs b.2
def wLc (src : XWI) (g : XG) (t : XWT) (e : XW) (vs : List Nat) : XWO := fun ρ => (src ρ).bind fun x => if x.1.length ≤ 40000 then (wlGo g t e vs x.1 x.2).bind fun r => some (r.1.map Cel.dat, backE x.2 r.2 vs) else none
theorem wl_step {g : XG} {t : XWT} {e : XW} {vs : List Nat} {ρ : Env} {x : PD} {xs : List PD} {r : List PD × Env} (h : wlGo g t e vs (x :: xs) ρ = some r) : ∃ ρ1 b ρ2, g x (clearE ρ vs) = some ρ1 ∧ t ρ1 = some (b, ρ2) ∧ ((b = true ∧ ∃ d ρ3 r', e ρ2 = some (d, ρ3) ∧ wlGo g t e vs xs ρ3 = some r' ∧ r = (d :: r'.1, r'.2)) ∨ (b = false ∧ wlGo g t e vs xs ρ2 = some r)) := by
  obtain ⟨ρ1, h1, h⟩ := bind_some (show (g x (clearE ρ vs)).bind _ = some r from h)
  obtain ⟨⟨b, ρ2⟩, h2, h⟩ := bind_some h
  refine ⟨ρ1, b, ρ2, h1, h2, ?_⟩
  cases b with
  | true =>
    obtain ⟨⟨d, ρ3⟩, h3, h⟩ := bind_some (show (e ρ2).bind _ = some r from h)
    obtain ⟨r', h4, h⟩ := bind_some h
    cases h
    exact .inl ⟨rfl, d, ρ3, r', h3, h4, rfl⟩
  | false => exact .inr ⟨rfl, h⟩
theorem swo_lc {b : Bool} {wi : TI} {g : TG} {tt : TT} {te : TE} {vs us : List Nat} {src : XWI} {xg : XG} {t : XWT} {e : XW} (hs : SWI b wi src) (hg : SG b g xg us) (hu : ∀ i ∈ us, i ∈ vs) (h0 : 0 ∉ vs) (ht : SWT tt t) (he : SW te e) : SWO (tLc wi g tt te vs) (wLc src xg t e vs) := fun pn F T H σ ρ cs ρ' st hh Q q => by
  obtain ⟨⟨xs, ρ1⟩, h1, hh⟩ := bind_some hh
  by_cases hz : xs.length ≤ 40000
  · rw [if_pos hz] at hh
    obtain ⟨r, h2, hh⟩ := bind_some hh
    have h2 : wlGo xg t e vs xs ρ1 = some r := h2
    cases hh
    refine hs pn F T H σ ρ xs ρ1 st h1 _ fun J T1 H1 st1 s1 wk D hD => ?_
    have alD : ∀ {H' : Hp} {v : HO}, H' D = some v → H' D ≠ none := fun e z => by rw [e] at z; cases z
    obtain ⟨st2, vis2⟩ := st1.fresh (Ex.new (o := .lst []) hD) hD (by rw [upd_same]; exact fun z => nomatch z)
    obtain ⟨T3, st3, s3⟩ := st2.clear vs h0
    have npF : ∀ x, F x → x ≠ D := fun x hx z => by
      have := st1.al x hx
      rw [z, hD] at this
      exact this rfl
    refine ⟨fun i m H' => m = xs.length - i ∧ i ≤ xs.length ∧ ∃ T' ρ' acc ds1 r', StOk pn (FL F [D]) T' H' (wipe σ vs) (clearE ρ' vs) ∧ ρ'.length = ρ1.length ∧ (∀ x, F x → H' x = H1 x) ∧ Ex (hid (SF F T1) H1) (hid (SF (FL F [D]) T') H') ∧ H' D = some (.lst acc) ∧ acc.length ≤ i ∧ RpAll (hid (SF (FL F [D]) T') H') acc ds1 ∧ wlGo xg t e vs (xs.drop i) ρ' = some r' ∧ r = (ds1 ++ r'.1, r'.2),
      ⟨_, rfl, Nat.zero_le _, T3, ρ1, [], [], r, st3, rfl, fun x hx => upd_ne (npF x hx), vis2.trans s3.vis, upd_same, Nat.le_refl _, .nil, h2, rfl⟩, fun i m H' hw => ?_⟩
    obtain ⟨rfl, hi, T', ρ', acc, ds1, r', st', hlen, fr', vis', hacc, la, ra, hgo, hr⟩ := hw
    obtain ⟨w1, w2⟩ := wk _ H' vis' st'.als
    by_cases hlt : i < xs.length
    · obtain ⟨w3, w4⟩ := w2 i _ (List.getElem?_eq_getElem hlt)
      rw [List.drop_eq_getElem_cons hlt] at hgo
      obtain ⟨ρ4, b4, ρ5, g4, t4, alt⟩ := wl_step hgo
      refine .inr ⟨w3, fun H2 => ∃ T' ρ' acc ds1 r', StOk pn (FL F [D]) T' H2 (wipe σ vs) (clearE ρ' vs) ∧ ρ'.length = ρ1.length ∧ (∀ x, F x → H2 x = H1 x) ∧ Ex (hid (SF F T1) H1) (hid (SF (FL F [D]) T') H2) ∧ H2 D = some (.lst acc) ∧ acc.length ≤ i + 1 ∧ RpAll (hid (SF (FL F [D]) T') H2) acc ds1 ∧ wlGo xg t e vs (xs.drop (i + 1)) ρ' = some r' ∧ r = (ds1 ++ r'.1, r'.2), fun H2 hn => ⟨_, by omega, rfl, hlt, hn⟩, fun v H3 y => ?_⟩
      obtain ⟨e3, rv⟩ := w4 v H3 y
      have st3 := st'.ex e3
      have s3 : Stp (FL F [D]) T' H' T' H3 := Stp.ex st'.al e3
      refine hg pn (FL F [D]) T' H3 (wipe σ vs) v _ _ ρ4 st3 g4 rv _ fun σ4 T4 st4 s4 off => ⟨wipe_off off hu, ?_⟩
      refine ht pn (FL F [D]) T4 H3 σ4 ρ4 b4 ρ5 st4 t4 _ fun T5 H5 st5 s5 => ?_
      have s15 := (s3.trans s4).trans s5
      have hD5 : H5 D = some (.lst acc) := by rw [s15.fr D (.inr (List.mem_cons_self ..))]; exact hacc
      rcases alt with ⟨rfl, d, ρ6, r6, f1, f2, rfl⟩ | ⟨rfl, f2⟩
      · show te σ4 H5 _
        refine he pn (FL F [D]) T5 H5 σ4 ρ5 d ρ6 st5 f1 _ fun z T6 H6 st6 s6 rz => ?_
        have s16 := s15.trans s6
        have hD6 : H6 D = some (.lst acc) := by rw [s6.fr D (.inr (List.mem_cons_self ..))]; exact hD5
        refine ⟨acc, hD6, Evl.sz_lt (by omega), ?_⟩
        have hS : SF (FL F [D]) T6 D := .inl (.inr (List.mem_cons_self ..))
        have vis7 : Ex (hid (SF (FL F [D]) T6) H6) (hid (SF (FL F [D]) T6) (upd H6 D (.lst (acc ++ [z])))) := fun x o h => by
          obtain ⟨c, h⟩ := hid_some h
          rw [hid_out c, upd_ne (fun z => c (by rw [z]; exact hS))]
          exact h
        have st7 : StOk pn (FL F [D]) T6 (upd H6 D (.lst (acc ++ [z]))) σ4 ρ6 := st6.mv vis7 (fun j x hx => upd_ne fun z => st6.off j x hx (by rw [z]; exact .inr (List.mem_cons_self ..))) fun x hx => by
          by_cases c : x = D
          · subst c; rw [upd_same]; exact fun z => nomatch z
          · rw [upd_ne c]; exact st6.al x hx
        obtain ⟨T8, st8, s8⟩ := st7.clear vs h0
        rw [wipe_off off hu] at st8
        have vis8 := vis7.trans s8.vis
        refine ⟨T8, ρ6, acc ++ [z], ds1 ++ [d], r6, st8, ?_, fun x hx => ?_, ((vis'.trans s16.vis).trans vis8), upd_same, by rw [List.length_append]; simpa using la, RpAll.append (ra.ex (s16.vis.trans vis8)) (.cons (rz.ex vis8) .nil), f2, by rw [hr]; simp⟩
        · have l6 := st6.len
          have l5 := off.1
          rw [wipe_length] at l5
          have l1 := st1.len
          omega
        · rw [upd_ne (npF x hx), s16.fr x (.inl hx)]
          exact fr' x hx
      · obtain ⟨T8, st8, s8⟩ := st5.clear vs h0
        rw [wipe_off off hu] at st8
        refine ⟨T8, ρ5, acc, ds1, r', st8, ?_, fun x hx => ?_, (vis'.trans s15.vis).trans s8.vis, hD5, by omega, ra.ex (s15.vis.trans s8.vis), f2, hr⟩
        · have l6 := st5.len
          have l5 := off.1
          rw [wipe_length] at l5
          have l1 := st1.len
          omega
        · rw [s15.fr x (.inl hx)]
          exact fr' x hx
    · have ei : i = xs.length := by omega
      subst ei
      rw [List.drop_length] at hgo
      cases hgo
      rw [List.append_nil] at hr
      subst hr
      refine .inl ⟨w1, q (.ref D) [D] T' H' ⟨?_, st'.al, st'.off, st'.dis, st'.nd, fun j hj => st'.out j (by rw [backE_len] at hj; rw [clearE_len]; exact hj), fun j s hj => ?_, fun v hv => st1.pin v hv⟩ (by simp) (fun x hx => ?_) (fun x hx => (fr' x hx).trans (s1.fr x hx)) (s1.vis.trans vis') ⟨D, acc, [], rfl, hacc, Cels.dats ra, rfl⟩⟩
      · rw [backE_len, hlen]; exact st1.len
      · have hjl : j < ρ'.length := by
          have := (List.getElem?_eq_some_iff.mp hj).1
          rw [backE_len] at this
          exact this
        by_cases c : j ∈ vs
        · rw [backE_at c hjl] at hj
          cases hj
          obtain ⟨o', _, h2⟩ := st'.sl j .un (clearE_at c hjl)
          have hT : T' j = [] := h2
          have hσ : j < σ.length := by rw [st1.len, ← hlen]; exact hjl
          rw [hT]
          have h9 : ρ1[j]? = some (ρ1[j]'(by rw [← hlen]; exact hjl)) := List.getElem?_eq_getElem _
          rw [h9]
          obtain ⟨o9, k1, k2⟩ := st1.sl j _ h9
          cases hs9 : ρ1[j]'(by rw [← hlen]; exact hjl) with
          | un => exact ⟨_, List.getElem?_eq_getElem hσ, rfl⟩
          | own cs => exact ⟨_, List.getElem?_eq_getElem hσ, rfl⟩
          | dat d =>
            rw [hs9] at k2
            obtain ⟨_, v, rfl, rv⟩ := k2
            exact ⟨_, k1, rfl, v, rfl, rv.ex vis'⟩
        · rw [backE_off c] at hj
          obtain ⟨o', k1, k2⟩ := st'.sl j s (by rw [clearE_off c]; exact hj)
          rw [wipe_get c] at k1
          exact ⟨o', k1, k2⟩
      · have ex : x = D := by simpa using hx
        rw [ex]
        exact fun z => npF D z rfl
  · rw [if_neg hz] at hh; cases hh
/-! ### defs -/
def runP (n k : Nat) (X : XS) (ds : List PD) : Option PD := if ds.length = n then (X (ds.map Sl.dat ++ List.replicate k Sl.un)).bind fun o => match o with
  | .ret d _ => some d
  | .nxt _ => some .none
  | _ => none else none
def runW (n k : Nat) (X : XS) (cs : List Cel) (ds : List PD) : Option (PD × List Cel) := if ds.length = n then (X (.own cs :: (ds.map Sl.dat ++ List.replicate k Sl.un))).bind fun o => match o with
  | .ret d ρ => (ownAt ρ 0).bind fun cs' => some (d, cs')
  | .nxt ρ => (ownAt ρ 0).bind fun cs' => some (.none, cs')
  | _ => none else none
def runD (n k : Nat) (X : XS) (ds : List PD) : Option (List Cel) := if ds.length = n then (X (ds.map Sl.dat ++ List.replicate k Sl.un)).bind fun o => match o with
  | .retO cs _ => some cs
  | _ => none else none
/-- a def that gives a new list, owned -/
def spD (f : List PD → Option (List Cel)) : Sp := fun vs H Q _ => ∃ S ds cs, Al S H ∧ RpAll (hid S H) vs ds ∧ f ds = some cs ∧ ∀ v A H2, Ex H H2 → A.Nodup → (∀ x ∈ A, ¬ S x ∧ H x = none) → Own (hid (FL S A) H2) H2 v cs A → Q v H2
theorem sw_callD {f : List PD → Option (List Cel)} {ts : TA} {as : XWA} (hs : SWA ts as) : SWO (tCall (spD f) [] E0 ts) (fun ρ => (as ρ).bind fun x => (f x.1).bind fun cs => some (cs, x.2)) := fun pn F T H σ ρ cs ρ' st e Q q => by
  obtain ⟨⟨xs, ρ1⟩, h1, e⟩ := bind_some e
  obtain ⟨z, h3, e⟩ := bind_some e
  cases e
  refine hs pn F T H σ ρ xs _ st h1 _ fun vs T1 H1 st1 s1 rv => ⟨SF F T1, xs, cs, st1.als, by rw [List.append_nil]; exact rv, h3, fun v A H2 e2 nd off ow => ?_⟩
  have eq : SF (FL F A) T1 = FL (SF F T1) A := funext fun x => propext ⟨fun h => h.elim (fun h => h.elim (fun z => .inl (.inl z)) .inr) fun z => .inl (.inr z), fun h => h.elim (fun h => h.elim (fun z => .inl (.inl z)) .inr) fun z => .inl (.inr z)⟩
  have vis : Ex (hid (SF F T1) H1) (hid (SF (FL F A) T1) H2) := fun x o h => by
    obtain ⟨c, h⟩ := hid_some h
    rw [hid_out]
    · exact e2 x o h
    · rw [eq]
      rintro (z | z)
      · exact c z
      · rw [(off x z).2] at h; cases h
  have st2 := st1.ex e2
  refine q v A T1 H2 ⟨st2.len, fun x hx => hx.elim (st2.al x) (fun z => let ⟨ws, g⟩ := ow.lst x z; fun w => by rw [g] at w; cases w), fun i x hx z => z.elim (st1.off i x hx) fun z => (off x z).1 (.inr ⟨i, hx⟩), st2.dis, st2.nd, st2.out, fun i s hi => ?_, st2.pin⟩ nd (fun x hx z => (off x hx).1 (.inl z)) (fun x hx => ((Stp.ex (T := T1) st1.al e2).fr x hx).trans (s1.fr x hx)) (s1.vis.trans vis) (by rw [eq]; exact ow)
  obtain ⟨o, k1, k2⟩ := st1.sl i s hi
  refine ⟨o, k1, k2.mv vis fun x hx => ?_⟩
  obtain ⟨ws, g⟩ := st1.lst hx
  rw [g, e2 x _ g]
theorem st0 {S : Hs} {H : Hp} {N : List Str} {vs : List V} {ds : List PD} {n k : Nat} (al : Al S H) (ra : RpAll (hid S H) vs ds) (hn : ds.length = n) (hN : N.length = n + k) : StOk none S (fun _ => []) H (L2.start N vs) (ds.map Sl.dat ++ List.replicate k Sl.un) := by
  have e : N.length - vs.length = k := by rw [ra.length, hN, hn]; omega
  have eS : ∀ x, S x ↔ SF S (fun _ => []) x := fun x => ⟨.inl, fun h => h.elim id fun ⟨_, z⟩ => nomatch z⟩
  refine ⟨by unfold L2.start; rw [List.length_append, List.length_map, List.length_append, List.length_map, List.length_replicate, List.length_replicate, e, ra.length], al, fun i x h => (nomatch h), fun i j x h => (nomatch h), fun i => List.nodup_nil, fun i _ => rfl, fun i s hi => ?_, fun v z => nomatch z⟩
  unfold L2.start
  rw [e]
  by_cases c : i < ds.length
  · rw [List.getElem?_append_left (by rw [List.length_map]; exact c), List.getElem?_map, List.getElem?_eq_getElem c] at hi
    cases hi
    obtain ⟨v, h1, h2⟩ := ra.get (List.getElem?_eq_getElem c)
    refine ⟨some v, ?_, rfl, v, rfl, ?_⟩
    · rw [List.getElem?_append_left (by rw [List.length_map, ra.length]; exact c), List.getElem?_map, h1]
      rfl
    · rw [← hid_eq eS]; exact h2
  · rw [List.getElem?_append_right (by rw [List.length_map]; omega), List.getElem?_replicate] at hi
    rw [List.getElem?_append_right (by rw [List.length_map, ra.length]; omega), List.getElem?_replicate]
    rw [List.length_map] at hi ⊢
    rw [ra.length]
    split at hi
    · rename_i c2
      cases hi
      exact ⟨none, by rw [if_pos c2], rfl⟩
    · cases hi
theorem go_P {t : TS} {X : XS} {N : List Str} {vs : List V} {H : Hp} {Q : VK} {E : XK} {n k : Nat} (hX : SS t X) (hN : N.length = n + k) (hs : spF (runP n k X) vs H Q E) : t { nx := fun _ H' => Q .non H', rt := Q } (L2.start N vs) H := by
  obtain ⟨S, ds, d, al, ra, h, q⟩ := hs
  unfold runP at h
  by_cases hn : ds.length = n
  · rw [if_pos hn] at h
    obtain ⟨o, h1, h⟩ := bind_some h
    have eS : ∀ {T' : Trs} x, S x → SF S T' x := fun x => .inl
    have ex : ∀ {T' : Trs} {H' : Hp}, Stp S (fun _ => []) H T' H' → Ex H H' := fun {T' H'} s x o hx => by
      by_cases c : S x
      · rw [s.fr x c]; exact hx
      · exact hid_le _ _ (s.vis x o (by rw [hid_out (fun z => z.elim c fun ⟨_, z⟩ => nomatch z)]; exact hx))
    refine hX none S _ H _ _ o _ (st0 al ra hn hN) h1 ?_
    cases o with
    | ret d' ρ' => cases h; exact fun v σ T' H' st' s' rv => q v H' (ex s') (rv.ex (hid_sub fun x hx => .inl hx))
    | nxt ρ' => cases h; exact fun σ T' H' st' s' => q .non H' (ex s') .non
    | retO _ _ => cases h
    | brk _ => cases h
    | cnt _ => cases h
  · rw [if_neg hn] at h; cases h
theorem go_D {t : TS} {X : XS} {N : List Str} {vs : List V} {H : Hp} {Q : VK} {E : XK} {n k : Nat} (hX : SS t X) (hN : N.length = n + k) (hs : spD (runD n k X) vs H Q E) : t { nx := fun _ H' => Q .non H', rt := Q } (L2.start N vs) H := by
  obtain ⟨S, ds, d, al, ra, h, q⟩ := hs
  unfold runD at h
  by_cases hn : ds.length = n
  · rw [if_pos hn] at h
    obtain ⟨o, h1, h⟩ := bind_some h
    refine hX none S _ H _ _ o _ (st0 al ra hn hN) h1 ?_
    cases o with
    | retO d' ρ' =>
      cases h
      intro v A σ T' H' st' nd off fr vis ow
      have ex : Ex H H' := fun x o hx => by
        by_cases c : S x
        · rw [fr x c]; exact hx
        · exact hid_le _ _ (vis x o (by rw [hid_out (fun z => z.elim c fun ⟨_, z⟩ => nomatch z)]; exact hx))
      refine q v A H' ex nd (fun x hx => ⟨off x hx, ?_⟩) (ow.mv (hid_sub fun x hx => .inl hx) fun _ _ => rfl)
      cases qq : H x with
      | none => rfl
      | some o =>
        obtain ⟨c, _⟩ := hid_some (vis x o (by rw [hid_out (fun z => z.elim (off x hx) fun ⟨_, z⟩ => nomatch z)]; exact qq))
        exact absurd (.inl (.inr hx)) c
    | ret _ _ => cases h
    | nxt _ => cases h
    | brk _ => cases h
    | cnt _ => cases h
  · rw [if_neg hn] at h; cases h
theorem go_W {t : TS} {X : XS} {N : List Str} {vs : List V} {H : Hp} {Q : VK} {E : XK} {n k : Nat} (hX : SS t X) (hN : N.length = n + 1 + k) (hs : spW (runW n k X) vs H Q E) : t { nx := fun _ H' => Q .non H', rt := Q } (L2.start N vs) H := by
  obtain ⟨F, a, B, cs, ws, ds, d, cs', rfl, al, off, nd, ow, ra, h, q⟩ := hs
  unfold runW at h
  by_cases hn : ds.length = n
  · rw [if_pos hn] at h
    obtain ⟨o, h1, h⟩ := bind_some h
    obtain ⟨T, hT⟩ : ∃ T : Trs, T = fun i => if i = 0 then a :: B else [] := ⟨_, rfl⟩
    have T0 : T 0 = a :: B := by rw [hT]; rfl
    have TS : ∀ i, i ≠ 0 → T i = [] := fun i hi => by rw [hT]; exact if_neg hi
    have eqv : ∀ x, FL F (a :: B) x ↔ SF F T x := fun x => by
      constructor
      · rintro (z | z)
        · exact .inl z
        · exact .inr ⟨0, by rw [T0]; exact z⟩
      · rintro (z | ⟨i, z⟩)
        · exact .inl z
        · by_cases c : i = 0
          · subst c; rw [T0] at z; exact .inr z
          · rw [TS i c] at z; cases z
    have eh : hid (FL F (a :: B)) H = hid (SF F T) H := hid_eq eqv
    have e : N.length - (V.ref a :: ws).length = k := by rw [List.length_cons, ra.length, hN, hn]; omega
    have st : StOk (some (.ref a)) F T H (L2.start N (.ref a :: ws)) (.own cs :: (ds.map Sl.dat ++ List.replicate k Sl.un)) := by
      have mem : ∀ i x, x ∈ T i → i = 0 ∧ x ∈ a :: B := fun i x hx => by
        by_cases c : i = 0
        · subst c; rw [T0] at hx; exact ⟨rfl, hx⟩
        · rw [TS i c] at hx; cases hx
      refine ⟨?_, al, fun i x hx => off x (mem i x hx).2, fun i j x hx hy => (mem i x hx).1.trans (mem j x hy).1.symm, fun i => ?_, fun i hi => TS i (by rw [List.length_cons] at hi; omega), fun i s hi => ?_, fun v hv => ?_⟩
      · unfold L2.start
        rw [e]
        simp only [List.map_cons, List.cons_append, List.length_cons, List.length_append, List.length_map, List.length_replicate]
        rw [ra.length]
      · by_cases c : i = 0
        · subst c; rw [T0]; exact nd
        · rw [TS i c]; exact List.nodup_nil
      · unfold L2.start
        rw [e]
        cases i with
        | zero =>
          cases hi
          rw [T0]
          exact ⟨_, rfl, _, rfl, by rw [← eh]; exact ow⟩
        | succ i =>
          rw [TS _ (Nat.succ_ne_zero i)]
          have hi : (ds.map Sl.dat ++ List.replicate k Sl.un)[i]? = some s := hi
          show ∃ o, (ws.map some ++ List.replicate k none)[i]? = some o ∧ _
          by_cases c : i < ds.length
          · rw [List.getElem?_append_left (by rw [List.length_map]; exact c), List.getElem?_map, List.getElem?_eq_getElem c] at hi
            cases hi
            obtain ⟨v, k1, k2⟩ := ra.get (List.getElem?_eq_getElem c)
            refine ⟨some v, ?_, rfl, v, rfl, by rw [← eh]; exact k2⟩
            rw [List.getElem?_append_left (by rw [List.length_map, ra.length]; exact c), List.getElem?_map, k1]
            rfl
          · rw [List.getElem?_append_right (by rw [List.length_map]; omega), List.getElem?_replicate] at hi
            rw [List.getElem?_append_right (by rw [List.length_map, ra.length]; omega), List.getElem?_replicate]
            rw [List.length_map] at hi ⊢
            rw [ra.length]
            split at hi
            · rename_i c2
              cases hi
              exact ⟨none, by rw [if_pos c2], rfl⟩
            · cases hi
      · cases hv
        unfold L2.start
        rfl
    have fin : ∀ (v : V) (d1 : PD) (cs1 : List Cel) (σ : L2.St) (ρ1 : Env) (T' : Trs) (H' : Hp), StOk (some (.ref a)) F T' H' σ ρ1 → Stp F T H T' H' → Rp (hid (SF F T') H') v d1 → ownAt ρ1 0 = some cs1 → (d1, cs1) = (d, cs') → Q v H' := by
      intro v d1 cs1 σ ρ1 T' H' st' s' rv ho e2
      cases e2
      obtain ⟨a', us, B', h1, h2, h3, h4⟩ := st'.at_own (ownAt_eq ho)
      have hp := st'.pin _ rfl
      have ea : a' = a := by rw [h1] at hp; cases hp; rfl
      subst ea
      have sub : Ex (hid (SF F T') H') (hid (FL F (a' :: B')) H') := hid_sub fun x hx => hx.elim .inl fun z => .inr ⟨0, by rw [h4]; exact z⟩
      refine q v B' H' s'.fr (by rw [eh]; exact s'.vis.trans sub) (fun x hx => st'.off 0 x (by rw [h4]; exact hx)) (by rw [← h4]; exact st'.nd 0) ⟨a', us, B', rfl, h2, h3.mv sub fun _ _ => rfl, rfl⟩ (rv.ex sub)
    refine hX (some (.ref a)) F T H _ _ o _ st h1 ?_
    cases o with
    | ret d' ρ' =>
      obtain ⟨c1, k1, k2⟩ := bind_some h
      exact fun v σ T' H' st' s' rv => fin v d' c1 σ ρ' T' H' st' s' rv k1 (Option.some.inj k2)
    | nxt ρ' =>
      obtain ⟨c1, k1, k2⟩ := bind_some h
      exact fun σ T' H' st' s' => fin .non .none c1 σ ρ' T' H' st' s' .non k1 (Option.some.inj k2)
    | retO _ _ => cases h
    | brk _ => cases h
    | cnt _ => cases h
  · rw [if_neg hn] at h; cases h
/-! how many arguments -/
theorem len_F {n k : Nat} {X : XS} {vs : List V} {H : Hp} {Q : VK} {E : XK} (h : spF (runP n k X) vs H Q E) : vs.length = n := by
  obtain ⟨S, ds, d, _, ra, h, _⟩ := h
  unfold runP at h
  by_cases hn : ds.length = n
  · rw [ra.length]; exact hn
  · rw [if_neg hn] at h; cases h
theorem len_D {n k : Nat} {X : XS} {vs : List V} {H : Hp} {Q : VK} {E : XK} (h : spD (runD n k X) vs H Q E) : vs.length = n := by
  obtain ⟨S, ds, d, _, ra, h, _⟩ := h
  unfold runD at h
  by_cases hn : ds.length = n
  · rw [ra.length]; exact hn
  · rw [if_neg hn] at h; cases h
theorem len_W {n k : Nat} {X : XS} {vs : List V} {H : Hp} {Q : VK} {E : XK} (h : spW (runW n k X) vs H Q E) : vs.length = n + 1 := by
  obtain ⟨F, a, B, cs, ws, ds, d, cs', rfl, _, _, _, _, ra, h, _⟩ := h
  unfold runW at h
  by_cases hn : ds.length = n
  · rw [List.length_cons, ra.length, hn]
  · rw [if_neg hn] at h; cases h
end Uv

namespace Uv
open PySem PySem.Spec PyProof.Rows L2
open Evl (Ex)
/-! ### defs, called where nothing is under way (so repr tells all) -/
section
variable {P : Program} {w : World} {K : PySem.W.Frag} {mg : Str → Option Value} {base : Heap}
structure FnG (P : Program) (w : World) (K : PySem.W.Frag) (mg : Str → Option Value) (base : Heap) (k : Nat) (f : Addr) (fd : FuncData) (ps : List Str) (sp : Sp) : Prop where
  len : ∀ vs H Q E, sp vs H Q E → vs.length = ps.length
  run : ∀ (A : Around) (outer : List PySem.Env) (s : Shared) (H : Hp) (args : Args) (us : List Value) (vs : List V) (Q : VK) (E : XK), A.guards = some [] → Room k A → Env0 P w K mg base A outer s H → BindsTo s fd args (ps.zip us) → Vals vs us → sp vs H Q E →
    codeAny (model P w) A (.call (.ref f) args) (CR CX0 outer P w H s Q E) s
structure CalG (P : Program) (w : World) (K : PySem.W.Frag) (mg : Str → Option Value) (base : Heap) (k : Nat) (x : Str) (sp : Sp) : Prop where
  ex : ∃ (f : Addr) (fd : FuncData) (ps : List Str), FnG P w K mg base k f fd ps sp ∧ mg x = some (.ref f) ∧ PySem.W.keepIn K (.ref f) = true ∧ Binds K fd ps []
structure Dfn (K : PySem.W.Frag) (mg : Str → Option Value) (x : Str) (st : Stmt) (ps : List Str) : Prop where
  ex : ∃ f fd, Fun K x x st f fd ∧ mg x = some (.ref f) ∧ Binds K fd ps []
theorem dfn_mk {h : Heap} {x : Str} {st : Stmt} {ps : List Str} {f : Addr} {od an : Option Addr} {sl : Array (Option Value)} {oc kV dc pm cd ct : Value} (X : K.In h) (G : h.Ns mainGlobals mg)
    (a1 : PySem.W.nsIn K mainGlobals x = some (some (.ref f))) (l1 : K.lookup f = some ⟨oc, od, .func (PySem.W.fnOf x x (defArgs st) (defBody st) (defScope st) .none kV dc pm an cd ct), sl⟩) (c1 : PySem.W.codeIn K cd x = true) (k1 : PySem.W.keepIn K (.ref f) = true)
    (hb : ∀ (kV doc pm : Value) (an : Option Addr) (cdv ct : Value) (us : List Value), us.length = ps.length → bindArgs (PySem.W.fnOf x x (defArgs st) (defBody st) (defScope st) .none kV doc pm an cdv ct) ⟨us, []⟩ = pure (ps.zip us)) : Dfn K mg x st ps := by
  have F := fun_mk (st := st) l1 c1 k1
  exact ⟨f, _, F, PySem.W.mg_of X G a1, F.binds hb⟩
/-- a call by its name -/
theorem pe_g {X : Cx} {j k : Nat} {x : Str} {sp : Sp} {p pos : Pos} {e : Expr} {es : List Expr} {t : TA} (c : CalG X.prog X.w X.K X.mg X.base k x sp) (hr : Room j X.A) (hk : k ≤ j) (hG : X.A.guards = some []) (hg : Gl X x) (ha : PA X (e :: es) t)
    (hdb : (x == ("__debug__" : Str)) = false := by decide) (he : starEach (e :: es) X.env = (false, eval e X.env) :: starEach es X.env := by rfl) (hpl : (backTo pos (starEach es X.env)).any (·.1) = false := by rfl) :
    PE X (.Call (.Name x p) (e :: es) [] pos) (tCall sp [] E0 t) := by
  obtain ⟨f, fd, ps, F, hm, kp, b⟩ := c.ex
  refine ⟨fun pins s σ H Q I h => wpAny_Call_Name_kw (ld_glob I hg hm ?_ hdb)⟩
  refine PySem.W.callWith_K (h₀ := X.base) I.ok.mod.kin kp (thn (ha.run pos pins s σ H _ I h) fun us s1 hh => ?_) he hpl
  obtain ⟨vs, H1, I1, r, q⟩ := hh
  rw [List.append_nil] at q
  have hl : us.length = ps.length := by rw [← r.length]; exact F.len _ _ _ _ q
  have bd := b s1 us I1.kIn (by rw [List.append_nil]; exact hl)
  rw [List.append_nil] at bd
  refine ⟨I1.kIn, wpAny_call (codeAny_mono (F.run X.A X.stack s1 H1 ⟨us, []⟩ us vs Q E0 hG (hr.mono hk) I1.env0 bd r q) fun rr s' hq => ?_)⟩
  match rr, hq with
  | .error _, hq => exact hq.elim
  | .ok (.ret u), hq => exact I1.after hq
  | .ok .next, hq => exact hq.elim
  | .ok .brk, hq => exact hq.elim
  | .ok .cont, hq => exact hq.elim
/-- a def by its body -/
theorem fn_g {x : Str} {st : Stmt} {f : Addr} {fd : FuncData} {N ps : List Str} {k : Nat} {sp : Sp} (F : Fun K x x st f fd) (S : FnScope N ps (defScope st)) (len : ∀ vs H Q E, sp vs H Q E → vs.length = ps.length)
    (hb : ∀ (cdv : Value) (A : Around) (outer : List PySem.Env) (s : Shared) (H : Hp) (E : XK), (A.deeper (envOfC x (defScope st) s.heap.objs.size f cdv)).guards = some [] → Room k (A.deeper (envOfC x (defScope st) s.heap.objs.size f cdv)) →
      ∃ t, PSs (cxOf CX0 P w K mg base N x (defScope st) f cdv A outer s H E).nox (defBody st) t ∧ ∀ vs Q, sp vs H Q E → t { nx := fun _ H' => Q .non H', rt := Q } (L2.start N vs) H) : FnG P w K mg base (k + 1) f fd ps sp := by
  obtain ⟨oc, od, kV, doc, pm, an, cdv, ct, osl, rfl, lk, hcd⟩ := F.ex
  refine ⟨len, fun A outer s H args us vs Q E hG hr e0 hbd r hsp => ?_⟩
  obtain ⟨t, ht, hq⟩ := hb cdv A outer s H E hG (hr.deeper _)
  have keep : ∀ b o, base.get? b = some o → s.heap.get? b = some o := fun b o e => (e0.bs b o e).1
  have KX : K.In s.heap := e0.mod.kin.keeps keep
  have lim : s.heap.NoLimit := e0.mod.nolimit.keeps keep
  refine codeAny_call_function hr.depth (KX _ _ lk) rfl S.co S.gen rfl (PySem.W.codeRec_of KX hcd) (hbd _ _ _ _ ?_)
  refine wpAny_newFunctionEnv_cells S.kind (fun y hy => ?_) fun env he s1 ic => ?_
  · rcases S.par y.1 (List.of_mem_zip hy).1 with q | q
    · exact .inl q
    · exact .inr ⟨q, PySem.W.cellsFrom_some _ _ _ (.inl q)⟩
  · subst he
    have I : Inv (cxOf CX0 P w K mg base N x (defScope st) f cdv A outer s H E) [] (L2.start N vs) H s1 := inv_start S hr.hd e0 (len _ _ _ _ hsp) r ic
    refine ⟨lim.keeps ic.toInCall.keep, codeAny_func (wpAny_mono (ht.nox.run [] s1 (L2.start N vs) H _ I (hq vs Q hsp)) (fun fl s' hs => ?_) fun e s' hs => hs)⟩
    match fl, hs with
    | .ret u, ⟨v, σ', H', J, rv, q⟩ => exact ⟨v, H', J.os, J.bare, J.base, J.hok, rv, q⟩
    | .next, ⟨σ', H', J, q⟩ => exact ⟨.non, H', J.os, J.bare, J.base, J.hok, rfl, q⟩
    | .brk, ⟨_, _, _, q⟩ => exact q.elim
    | .cont, ⟨_, _, _, q⟩ => exact q.elim
theorem cal_g {x : Str} {st : Stmt} {N ps : List Str} {k : Nat} {sp : Sp} (F : Dfn K mg x st ps) (S : FnScope N ps (defScope st)) (len : ∀ vs H Q E, sp vs H Q E → vs.length = ps.length)
    (hb : ∀ (f : Addr) (cdv : Value) (A : Around) (outer : List PySem.Env) (s : Shared) (H : Hp) (E : XK), (A.deeper (envOfC x (defScope st) s.heap.objs.size f cdv)).guards = some [] → Room k (A.deeper (envOfC x (defScope st) s.heap.objs.size f cdv)) →
      ∃ t, PSs (cxOf CX0 P w K mg base N x (defScope st) f cdv A outer s H E).nox (defBody st) t ∧ ∀ vs Q, sp vs H Q E → t { nx := fun _ H' => Q .non H', rt := Q } (L2.start N vs) H) : CalG P w K mg base (k + 1) x sp := by
  obtain ⟨f, fd, F, hm, b⟩ := F.ex
  exact ⟨f, fd, ps, fn_g F S len (hb f), hm, F.kp, b⟩
end
/-! ### the end -/
/-- the heap behind the top as the layer sees it: the script alone may be tracked, and it is frozen -/
def scriptH (K : PySem.W.Frag) (a : Addr) (vs : List Value) (ns : List Int) : Hp := fun b => if b = a ∧ K.lookup a = none then some (.frz { cls := .type "list", data := .seq vs.toArray } (.lst (ns.map V.int))) else none
theorem scriptH_some {K : PySem.W.Frag} {a b : Addr} {vs : List Value} {ns : List Int} {o : HO} (h : scriptH K a vs ns b = some o) : b = a ∧ K.lookup a = none ∧ o = .frz { cls := .type "list", data := .seq vs.toArray } (.lst (ns.map V.int)) := by
  unfold scriptH at h
  by_cases c : b = a ∧ K.lookup a = none
  · rw [if_pos c] at h
    exact ⟨c.1, c.2, (Option.some.inj h).symm⟩
  · rw [if_neg c] at h
    cases h
theorem none_by {K : PySem.W.Frag} {a b : Addr} {vs : List Value} {ns : List Int} (h : b = a → K.lookup a = none → False) : scriptH K a vs ns b = none := by
  cases q : scriptH K a vs ns b with
  | none => rfl
  | some o =>
    obtain ⟨e1, e2, _⟩ := scriptH_some q
    exact (h e1 e2).elim
theorem top_call {P : Program} {w : World} {K : PySem.W.Frag} {mg mb : Str → Option Value} {k : Nat} {fa a : Addr} {fd : FuncData} {x : Str} {sp : Sp} {s₁ : Shared} {vs : List Value} {ns : List Int}
    (KX : K.In s₁.heap) (hns : s₁.heap.Ns mainGlobals mg) (hb : s₁.heap.Ns builtinsNs mb) (hbb : ∀ x : Str, x ≠ "__name__" → mb x = bootBuiltins x) (hlim : s₁.heap.NoLimit) (hg : s₁.gens = #[])
    (ha : s₁.heap.get? a = some { cls := .type "list", data := .seq vs.toArray }) (hi : IntsAre vs ns) (hl : ns.length ≤ sizeLine) (hr : Room k callerA)
    (F : ∀ base : Heap, K.In base → base.Ns mainGlobals mg → FnG P w K mg base k fa fd [x] sp) (hbind : ∀ (s : Shared) (u : Value), BindsTo s fd ⟨[u], []⟩ [(x, u)])
    (hsp : ∀ H : Hp, SqL K H a (ns.map V.int) → sp [.ref a] H (fun v _ => v = .bl true) fun _ _ _ => False) :
    codeAny (model P w) callerA (.call (.ref fa) ⟨[.ref a], []⟩) (fun r s' => r = .ok (.ret (.bool true)) ∧ OldK s₁.heap s'.heap ∧ s'.os = s₁.os ∧ AllBare s'.gens) s₁ := by
  have rv := vals_ints hi
  have hs : SqL K (scriptH K a vs ns) a (ns.map V.int) := by
    cases hk : K.lookup a with
    | none => exact .inl (.inr ⟨_, if_pos ⟨rfl, hk⟩⟩)
    | some o =>
      have e := KX a o hk
      rw [ha] at e
      cases e
      exact .inr ⟨_, vs.toArray, _, hk, rfl, rfl, rfl, by rw [List.size_toArray, hi.length]; exact hl, by simpa using rv⟩
  have hok : HOk P w (scriptH K a vs ns) s₁.heap := fun b o h => by
    obtain ⟨rfl, _, rfl⟩ := scriptH_some h
    exact ⟨ha, by rw [List.length_map]; exact hl, vs, _, rv, ha⟩
  have old : ∀ {b : Addr} {o : Obj}, s₁.heap.get? b = some o → scriptH K a vs ns b = none → (hidT s₁.heap (scriptH K a vs ns)).get? b = some o := fun e n => hidT_get e n
  have nsK : ∀ {b : Addr} {m : Str → Option Value}, s₁.heap.Ns b m → (hidT s₁.heap (scriptH K a vs ns)).Ns b m := fun {b m} ⟨o, es, ep, e, d, r⟩ => ⟨o, es, ep, old e (none_by fun z _ => by
    subst z
    rw [ha] at e
    cases e
    exact nomatch (show Data.seq vs.toArray _ = Data.dict es ep from d)), d, r⟩
  have kin : K.In (hidT s₁.heap (scriptH K a vs ns)) := fun b o e => old (KX b o e) (none_by fun z q => by
    subst z
    rw [q] at e
    cases e)
  have mod : Mod K mg (hidT s₁.heap (scriptH K a vs ns)) := ⟨kin, nsK hns, ⟨mb, nsK hb, hbb⟩, let ⟨mc, h1, h2⟩ := hlim; ⟨mc, nsK h1, h2⟩⟩
  have e0 : Env0 P w K mg (hidT s₁.heap (scriptH K a vs ns)) callerA [] s₁ (scriptH K a vs ns) := ⟨rfl, mod, fun b o e => of_hidT e, Nat.le_of_eq (hidT_size _ _), trivial, fun b hb => absurd (show b ∈ ([] : List Addr) from hb) (by simp), hok, .of_eq hg⟩
  refine codeAny_mono ((F _ kin (nsK hns)).run callerA [] s₁ _ ⟨[.ref a], []⟩ [.ref a] [.ref a] _ _ rfl hr e0 (hbind s₁ (.ref a)) (.cons rfl .nil) (hsp _ hs)) fun r s' h => ?_
  match r, h with
  | .error e, h => exact h.elim
  | .ok .next, h => exact h.elim
  | .ok .brk, h => exact h.elim
  | .ok .cont, h => exact h.elim
  | .ok (.ret u), ⟨v, H', os, bare, un, hok', r', q⟩ =>
    have q' : v = .bl true := q
    subst q'
    obtain rfl : u = Value.bool true := r'
    refine ⟨rfl, OldK.of_keep fun b o e => ?_, os, bare⟩
    cases q : scriptH K a vs ns b with
    | none => exact un.keep b o e q (fun z => absurd (show b ∈ ([] : List Addr) from z) (by simp)) (by simp)
    | some u =>
      obtain ⟨rfl, _, rfl⟩ := scriptH_some q
      obtain ⟨e1, _⟩ := hok b _ q
      obtain ⟨e2, _⟩ := hok' b _ (un.frzs b _ _ q)
      rw [e] at e1
      cases e1
      exact e2
/-- the row from the law as a function of the script -/
theorem walk_v {l : PySem.W.OpenLaw} {n k : Nat} {q : Program} {loose : List Str} {XP : (Str → Option Value) → Heap → Prop} {YP : World → Heap → Prop} {d : DefRec} {K : Params → PySem.W.Frag} {f : List PD → Option PD} {x : Str}
    (hn : l.most = some n) (hn2 : n ≤ sizeLine) (hdf : d.params.defaults = []) (hr : Room k callerA) (hY : ∀ (w : World) (h : Heap), YP w h → (K w.params).In h)
    (F : ∀ (w : World) (mg : Str → Option Value) (fa : Addr) (h : Heap), (K w.params).In h → h.Ns mainGlobals mg → mg d.name = some (.ref fa) →
      ∃ fd : FuncData, (∀ (s : Shared) (u : Value), BindsTo s fd ⟨[u], []⟩ [(x, u)]) ∧ ∀ base : Heap, (K w.params).In base → base.Ns mainGlobals mg → FnG l.prog w (K w.params) mg base k fa fd [x] (@spF ⟨K w.params⟩ f))
    (hf : ∀ ns : List Int, ns.length ≤ n → f [scrD (ns.map PyData.int)] = some (.bool true)) :
    PySem.W.WalkO q loose XP YP l.row.toRowW d [] (fun f vs => PySem.call f vs) := by
  refine Att.attach_call hn hdf fun w s₀ s₁ mg mb fa o pm cd doc a vs ns G Y ho hd hcd hmg hobj hints hlen hg => ?_
  obtain ⟨fd, hb, hF⟩ := F w mg fa _ (hY w _ Y) G.T.g hmg
  refine top_call (hY w _ Y) G.T.g G.T.b G.T.builtins G.T.nolimit hg hobj hints (Nat.le_trans hlen hn2) hr hF hb fun H hS => ?_
  letI : KK := ⟨K w.params⟩
  have e : ∀ x, ¬ (fun _ : Addr => False) x := fun x z => z
  have eh : hid (fun _ => False) H = H := funext fun x => hid_out (e x)
  refine ⟨fun _ => False, [scrD (ns.map PyData.int)], .bool true, fun x z => z.elim, .cons (.scr (xs := ns.map V.int) (by rw [eh]; exact hS) (RpAll.ofInts ns)) .nil, hf ns hlen, fun v H2 _ rv => ?_⟩
  cases rv
  rfl
end Uv

namespace Uv
open PySem PySem.Spec PyProof.Rows L2
open Evl (Ex)
variable [kk : KK]
def wCallD (f : List PD → Option (List Cel)) (as : XWA) : XWO := fun ρ => (as ρ).bind fun x => (f x.1).bind fun cs => some (cs, x.2)
/-! ### x[k].append(e), e drawn: the list within is kept aside meanwhile -/
def sAppS (i : Nat) (k : XE) (a : XW) : XS := fun ρ => (ownAt ρ i).bind fun cs => ((k (vw ρ)).bind isI).bind fun kk => (ixN cs.length kk).bind fun n => (subAt cs n).bind fun ds => (a (ρ.set i .un)).bind fun x =>
  match x.2[i]? with
  | some .un => if ds.length < 100000 then some (.nxt (x.2.set i (.own (cs.set n (.sub (ds ++ [x.1])))))) else none
  | _ => none
theorem StOk.protect {pn : Option V} {F : Hs} {T : Trs} {H : Hp} {σ : L2.St} {ρ : Env} (st : StOk pn F T H σ ρ) {i : Nat} (hi : i < ρ.length) : StOk pn (FL F (T i)) (setT T i []) H σ (ρ.set i .un) ∧ SF (FL F (T i)) (setT T i []) = SF F T := by
  have eS : SF (FL F (T i)) (setT T i []) = SF F T := funext fun x => propext ⟨fun h => by
      rcases h with (h | h) | ⟨j, h⟩
      · exact .inl h
      · exact .inr ⟨i, h⟩
      · by_cases c : j = i
        · subst c; rw [setT_same] at h; cases h
        · rw [setT_ne c] at h; exact .inr ⟨j, h⟩, fun h => by
      rcases h with h | ⟨j, h⟩
      · exact .inl (.inl h)
      · by_cases c : j = i
        · subst c; exact .inl (.inr h)
        · exact .inr ⟨j, by rw [setT_ne c]; exact h⟩⟩
  have mem : ∀ j x, x ∈ setT T i [] j → x ∈ T j ∧ j ≠ i := fun j x h => by
    by_cases c : j = i
    · subst c; rw [setT_same] at h; cases h
    · rw [setT_ne c] at h; exact ⟨h, c⟩
  refine ⟨⟨by rw [List.length_set]; exact st.len, fun x h => h.elim (st.al x) fun z => st.als x (.inr ⟨i, z⟩), fun j x h z => ?_, fun j k x h h' => st.dis j k x (mem j x h).1 (mem k x h').1, fun j => ?_, fun j hj => ?_, fun j q hq => ?_, st.pin⟩, eS⟩
  · obtain ⟨h1, h2⟩ := mem j x h
    exact z.elim (st.off j x h1) fun z => h2 (st.dis j i x h1 z)
  · by_cases c : j = i
    · subst c; rw [setT_same]; exact List.nodup_nil
    · rw [setT_ne c]; exact st.nd j
  · rw [List.length_set] at hj
    rw [setT_ne (by omega)]
    exact st.out j hj
  · by_cases c : i = j
    · subst c
      rw [List.getElem?_set_self hi] at hq
      cases hq
      rw [setT_same]
      exact ⟨_, List.getElem?_eq_getElem (by rw [st.len]; exact hi), rfl⟩
    · rw [List.getElem?_set_ne c] at hq
      rw [setT_ne (fun z => c z.symm), eS]
      exact st.sl j q hq
theorem ss_appS {i : Nat} {tk te : TE} {k : XE} {a : XW} (hi0 : i ≠ 0) (hk : SE tk k) (h : SW te a) : SS (tDrop (tBM K "list" rAppend (tOp (rIx K) (tVar i) tk) (tCons te tNil))) (sAppS i k a) := fun pn F T H σ ρ o D st e q => by
  obtain ⟨cs, h2, e⟩ := bind_some e
  obtain ⟨kk', h3, e⟩ := bind_some e
  obtain ⟨dk, h3, h4⟩ := bind_some h3
  obtain ⟨n, hn, e⟩ := bind_some e
  obtain ⟨ds, hd, e⟩ := bind_some e
  obtain ⟨⟨d, ρ1⟩, h5, e⟩ := bind_some e
  have ed : dk = _ := isI_eq h4
  subst ed
  have hu : ρ1[i]? = some .un ∧ ds.length < 100000 ∧ o = .nxt (ρ1.set i (.own (cs.set n (.sub (ds ++ [d]))))) := by
    revert e
    show (match ρ1[i]? with | some .un => if ds.length < 100000 then some (Out.nxt (ρ1.set i (.own (cs.set n (.sub (ds ++ [d])))))) else none | _ => none) = some o → _
    cases hq : ρ1[i]? with
    | none => intro e; cases e
    | some s =>
      cases s with
      | un =>
        intro e
        by_cases c : ds.length < 100000
        · have e : (if ds.length < 100000 then some (Out.nxt (ρ1.set i (.own (cs.set n (.sub (ds ++ [d])))))) else none) = some o := e
          rw [if_pos c] at e
          cases e
          exact ⟨rfl, c, rfl⟩
        · have e : (if ds.length < 100000 then some (Out.nxt (ρ1.set i (.own (cs.set n (.sub (ds ++ [d])))))) else none) = some o := e
          rw [if_neg c] at e
          cases e
      | dat _ => intro e; cases e
      | own _ => intro e; cases e
  obtain ⟨hu1, hu2, rfl⟩ := hu
  have hi := ownAt_eq h2
  have il : i < ρ.length := (List.getElem?_eq_some_iff.mp hi).1
  refine ix_sub st hi hn (subAt_eq hd) hk h3 fun b H2 e2 hb => ?_
  have st2 := st.ex e2
  have s2 : Stp F T H T H2 := Stp.ex st.al e2
  obtain ⟨a9, vs9, k1, k2, k3⟩ := hb
  obtain ⟨a', vs', B, g1, g2, g3, g4⟩ := st2.at_own hi
  have ea : a' = a9 := by rw [k1] at g1; cases g1; rfl
  subst ea
  have ev : vs' = vs9 := by rw [k2] at g2; cases g2; rfl
  subst ev
  have nd := st2.nd i
  obtain ⟨st3, eS⟩ := st2.protect il
  obtain ⟨b', ws, _, _, q3, q4, q5, q6, q7, q8, _⟩ := st2.writeSub (ds' := ds) hi (subAt_eq hd)
  refine ⟨.inl ⟨rfl, ?_⟩, h pn _ _ H2 σ _ d ρ1 st3 h5 _ fun v T4 H4 st4 s4 rv => ?_⟩
  · obtain ⟨a8, vs8, b8, ws8, u1, u2, u3, u4, u5, u6, _⟩ := st2.writeSub (ds' := ds) hi (subAt_eq hd)
    have ea : a8 = a' := by rw [k1] at u1; cases u1; rfl
    subst ea
    have ev : vs8 = vs' := by rw [k2] at u2; cases u2; rfl
    subst ev
    have eb : b8 = b := by rw [k3] at u3; cases u3; rfl
    subst eb
    exact ⟨ws8, .inl (.inl u5)⟩
  · -- the slot again
    have hT : T i = a' :: B := g4
    have ow : Own (hid (SF F T) H2) H2 (.ref a') cs (T i) := ⟨a', vs', B, rfl, k2, g3, hT⟩
    have vis4 := s4.vis
    rw [eS] at vis4
    have ow4 : Own (hid (SF (FL F (T i)) T4) H4) H4 (.ref a') cs (T i) := ow.mv vis4 fun x hx => s4.fr x (.inr hx)
    have il4 : i < ρ1.length := (List.getElem?_eq_some_iff.mp hu1).1
    obtain ⟨st5, vis5⟩ := st4.own (i := i) hi0 il4 ow4 nd (fun x hx => st2.off i x hx)
    have eσ : σ.set i (some (.ref a')) = σ := by
      apply List.ext_getElem?
      intro j
      by_cases c : i = j
      · subst c
        rw [List.getElem?_set_self (by rw [st.len]; exact il)]
        exact k1.symm
      · rw [List.getElem?_set_ne c]
    rw [eσ] at st5
    have hi5 : (ρ1.set i (.own cs))[i]? = some (.own cs) := List.getElem?_set_self il4
    obtain ⟨a8, vs8, b8, ws8, u1, u2, u3, u4, u5, u6, f⟩ := st5.writeSub (ds' := ds) hi5 (subAt_eq hd)
    have ea : a8 = a' := by rw [k1] at u1; cases u1; rfl
    subst ea
    have fr4 : H4 a8 = H2 a8 := s4.fr a8 (.inr (by rw [hT]; exact List.mem_cons_self ..))
    have ev : vs8 = vs' := by rw [fr4, k2] at u2; cases u2; rfl
    subst ev
    have eb : b8 = b := by rw [k3] at u3; cases u3; rfl
    subst eb
    have rv5 := rv.ex vis5
    obtain ⟨st6, s6⟩ := f (ws8 ++ [v]) (ds ++ [d]) (u6.append (.cons rv5 .nil))
    rw [List.set_set] at st6
    refine ⟨b8, ws8, v, rfl, rfl, u5, by rw [u6.length]; exact Evl.sz_lt hu2, q σ _ _ st6 ?_⟩
    refine (s2.trans ⟨fun x hx => s4.fr x (.inl hx), vis4.trans vis5⟩).trans s6
/-! ### sorted -/
def insI (x : Int) : List Int → List Int
  | [] => [x]
  | y :: ys => if x ≤ y then x :: y :: ys else y :: insI x ys
def sortI : List Int → List Int
  | [] => []
  | x :: xs => insI x (sortI xs)
theorem insI_perm (x : Int) : ∀ ys : List Int, (insI x ys).Perm (x :: ys)
  | [] => .refl _
  | y :: ys => by
    unfold insI
    by_cases c : x ≤ y
    · rw [if_pos c]
    · rw [if_neg c]
      exact ((insI_perm x ys).cons y).trans (.swap x y ys)
theorem sortI_perm : ∀ xs : List Int, (sortI xs).Perm xs
  | [] => .refl _
  | x :: xs => (insI_perm x _).trans ((sortI_perm xs).cons x)
theorem insI_sorted (x : Int) : ∀ {ys : List Int}, ys.Pairwise (· ≤ ·) → (insI x ys).Pairwise (· ≤ ·)
  | [], _ => by simp [insI]
  | y :: ys, h => by
    unfold insI
    obtain ⟨h1, h2⟩ := List.pairwise_cons.mp h
    by_cases c : x ≤ y
    · rw [if_pos c]
      refine List.pairwise_cons.mpr ⟨fun z hz => ?_, h⟩
      rcases List.mem_cons.mp hz with e | e
      · rw [e]; exact c
      · exact Int.le_trans c (h1 z e)
    · rw [if_neg c]
      refine List.pairwise_cons.mpr ⟨fun z hz => ?_, insI_sorted x h2⟩
      rcases List.mem_cons.mp ((insI_perm x ys).mem_iff.mp hz) with e | e
      · rw [e]; omega
      · exact h1 z e
theorem sortI_sorted : ∀ xs : List Int, (sortI xs).Pairwise (· ≤ ·)
  | [] => .nil
  | x :: xs => insI_sorted x (sortI_sorted xs)
theorem sorted_eq : ∀ {xs ys : List Int}, xs.Perm ys → xs.Pairwise (· ≤ ·) → ys.Pairwise (· ≤ ·) → xs = ys
  | [], ys, p, _, _ => (List.perm_nil.mp p.symm).symm ▸ rfl
  | x :: xs, [], p, _, _ => absurd (List.perm_nil.mp p) (by simp)
  | x :: xs, y :: ys, p, h, h' => by
    obtain ⟨h1, h2⟩ := List.pairwise_cons.mp h
    obtain ⟨h3, h4⟩ := List.pairwise_cons.mp h'
    have e : x = y := by
      have a1 : x ∈ y :: ys := p.mem_iff.mp (List.mem_cons_self ..)
      have a2 : y ∈ x :: xs := p.mem_iff.mpr (List.mem_cons_self ..)
      rcases List.mem_cons.mp a1 with e | e
      · exact e
      · rcases List.mem_cons.mp a2 with f | f
        · exact f.symm
        · exact Int.le_antisymm (h1 y f) (h3 x e)
    subst e
    rw [sorted_eq p.cons_inv h2 h4]
end Uv

namespace Uv
open PySem PySem.Spec PyProof.Rows L2 Srt SrtO
open Evl (Ex)
section
variable {prog : Program} {w : World} {A : Around} {E : Value → Shared → Prop} {s : Shared}
/-- a tuple's items, collected -/
theorem collectT {l : Addr} {vs : List Value} {Q : List Value → Shared → Prop} (tp : s.heap.IsTuple l vs.toArray) (sz : vs.length ≤ sizeLine)
    (k : Q vs { s with heap := (s.heap.push (seqObj "list" #[] 0)).update s.heap.objs.size (Obj.mapSeq (· ++ vs.toArray)) }) : wpAny (model prog w) A (collect (.ref l)) Q E s := by
  obtain ⟨ob, g, c, m, dt⟩ := tp
  have g2 : (s.heap.push (seqObj "list" #[] 0)).get? l = some ob := Heap.get?_push_of_some _ g
  have lo : (s.heap.push (seqObj "list" #[] 0)).get? s.heap.objs.size = some (seqObj "list" #[] 0) := Heap.get?_push_size _ rfl
  unfold collect; refine wpAny_bind (wpAny_runValue (codeAny_builtin entry_proto_collect' ?_))
  show wpAny _ _ (do again (.builtin "list.__iadd__" ⟨[← newList [], .ref l], []⟩)) _ _ s
  refine wpAny_bind (wpAny_newList (wpAny_pure ⟨Code.quiet_builtin _ (by decide +kernel), codeAny_builtin entry_list_iadd' ?_⟩))
  show wpAny _ _ (Builtin.List.listExtendWith (.ref s.heap.objs.size) (.ref l) (.ref s.heap.objs.size)) _ _ { s with heap := s.heap.push (seqObj "list" #[] 0) }
  unfold Builtin.List.listExtendWith; refine wpAny_bind (wpAny_typeOf (T := "tuple") ⟨ob, g2, c⟩ ?_)
  have tt : (Value.type "tuple" == Value.type "tuple") = true := by rfl
  rw [if_pos (by rw [tt, Bool.or_true])]
  refine wpAny_bind (listItems_at g2 dt (wpAny_bind (listItems_at lo rfl ?_)))
  rw [if_neg (by simp)]
  refine wpAny_bind (listUpdate_at lo rfl (wpAny_pure ?_) (Nat.zero_le _) (by show (#[] ++ vs.toArray).size ≤ sizeLine + 1; simp; omega))
  refine wpAny_bind (wpAny_load (get?_update_seq lo _) ?_)
  show wpAny _ _ (pure ((#[] : Array Value) ++ vs.toArray).toList) Q E _
  have z : ((#[] : Array Value) ++ vs.toArray).toList = vs := by simp
  rw [z]; exact wpAny_pure k
/-- sorted(t), t a tuple: the new list at size + 1 -/
theorem sortT {l : Addr} {vs : List Value} {lt : Value → Value → Bool} {Q : Value → Shared → Prop} (O : Swo lt) (tp : s.heap.IsTuple l vs.toArray) (sz : vs.length ≤ sizeLine)
    (ord : 2 ≤ vs.length → ∀ (h₁ : Heap) (a : Addr), h₁.get? a = some (seqObj "list" vs.toArray 0) → (∀ b o, s.heap.get? b = some o → b ≠ a ∧ h₁.get? b = some o) → SortableO prog w A.in1.in1 { s with heap := h₁ } a vs lt)
    (k : ∀ out : List Value, Srtd lt out → Stb lt out vs → Q (.ref (s.heap.objs.size + 1)) { s with heap := sortedAll s.heap vs out.toArray }) : wpAny (model prog w) A (call (.builtin "sorted") [.ref l]) Q E s := by
  obtain ⟨h1, e1⟩ : ∃ h1, h1 = (s.heap.push (seqObj "list" #[] 0)).update s.heap.objs.size (Obj.mapSeq (· ++ vs.toArray)) := ⟨_, rfl⟩
  have z : h1.objs.size = s.heap.objs.size + 1 := by rw [e1, Heap.size_update, size_push']
  have at1 : (h1.push (seqObj "list" vs.toArray 0)).get? (s.heap.objs.size + 1) = some (seqObj "list" vs.toArray 0) := by rw [← z]; exact Heap.get?_push_size _ rfl
  have old : ∀ b o, s.heap.get? b = some o → b ≠ s.heap.objs.size + 1 ∧ (h1.push (seqObj "list" vs.toArray 0)).get? b = some o := fun b o g => by
    have lt' : b < s.heap.objs.size := Heap.lt_size g
    refine ⟨Nat.ne_of_lt (Nat.lt_succ_of_lt lt'), Heap.get?_push_of_some _ ?_⟩
    rw [e1, Heap.get?_update_ne _ _ _ _ (Nat.ne_of_lt lt')]; exact Heap.get?_push_of_some _ g
  refine Calls.call_function_entry kind_sorted plain_sorted entry_sorted (args_sorted1 _) ?_; unfold Builtin.«sorted»
  refine wpAny_bind (m := checkCount "sorted" 1 1 _) (wpAny_pure (wpAny_bind (collectT tp sz (wpAny_bind (wpAny_newList ?_ sz)))))
  rw [← e1]
  show wpAny _ _ _ _ _ { s with heap := h1.push (seqObj "list" vs.toArray 0) }
  rw [z]
  refine wpAny_bind (wpAny_holding (wpAny_call_entry slot_list_sort ⟨_, at1, rfl⟩ entry_list_sort (list_sort_ord O at1 sz (fun h2 => ord h2 _ _ at1 old) fun out c1 c2 => ⟨_, rfl, wpAny_pure ⟨_, rfl, ?_⟩⟩) (args_list_sort _)))
  have kk := k out c1 c2
  unfold sortedAll at kk
  rw [← e1] at kk
  exact kk
end
def rSortedT (K : PySem.W.Frag) : List V → Hp → VK → Prop := fun vs H Q => ∃ (a : Addr) (ns : List Int), vs = [V.ref a] ∧ SqT K H a (ns.map V.int) ∧ ∀ (ms : List Int) (p : Addr), ms.Perm ns → ms.Pairwise (· ≤ ·) → H p = none → Q (.ref p) (upd H p (.lst (ms.map V.int)))
theorem cr_sortedT {X : Cx} : CallR X (.builtin "sorted") (rSortedT X.K) := by
  intro pins s σ H vs us Q I r ⟨a, ns, ev, hq, q⟩
  subst ev
  obtain ⟨its, rv, tp, sz⟩ := I.tuple hq
  rw [Vals.ref1 r]
  have hi := rv.ints
  refine sortT swo_int tp (by rw [← rv.length]; exact sz) (fun h2 h₁ a' _ _ => ints_sortable hi h2) fun out c1 c2 => ?_
  obtain ⟨k1, k2, k3⟩ := ints_out hi c1 c2
  obtain ⟨ep, at1⟩ := PyProof.Rows.sortedAll_at s.heap its out.toArray
  have ll : ((out.map iv).map V.int).length ≤ sizeLine := by rw [List.length_map, k2.length_eq]; rw [List.length_map] at sz; exact sz
  have I2 := I.laid (t' := s.toks) (o := .lst ((out.map iv).map V.int)) (fun _ _ => PyProof.Rows.sortedAll_old) (Nat.le_succ _) (show ObjOk X.prog X.w _ _ _ (.lst _) from ⟨ll, out, ep, vals_of_ints k1, at1⟩)
  exact ⟨.ref _, _, I2, rfl, q _ _ k2 k3 (I.hok.fresh (Nat.le_succ _))⟩
def rSortedU (K : PySem.W.Frag) : List V → Hp → VK → Prop := fun xs H Q => rSortedI K xs H Q ∨ rSortedT K xs H Q
variable [kk : KK]
theorem cr_sortedU {X : Cx} : CallR X (.builtin "sorted") (rSortedU X.K) := CallR.or cr_sortedI cr_sortedT
def sortP : PD → Option PD
  | .list ds => (unI ds).bind fun ns => some (.list ((sortI ns).map PyData.int))
  | .tuple ds => (unI ds).bind fun ns => some (.list ((sortI ns).map PyData.int))
  | _ => none
theorem sc_sort : SC (rSortedU K) (on1 sortP) := sc_on1 fun x z h S H v al rv Q q => by
  have fin : ∀ ns ms : List Int, ms.Perm ns → ms.Pairwise (· ≤ ·) → ms = sortI ns := fun ns ms p o => sorted_eq (p.trans (sortI_perm ns).symm) o (sortI_sorted ns)
  cases rv with
  | lst ha ra =>
    obtain ⟨ns, h1, h2⟩ := bind_some h
    have e := unI_eq h1
    subst e
    have e := ra.ints
    subst e
    cases h2
    refine .inl ⟨_, ns, rfl, .inl (.inl (hid_le _ _ ha)), fun ms p pm so hp => ?_⟩
    have e := fin ns ms pm so
    subst e
    exact q _ _ (Ex.new hp) (.lst (new_ok al hp) (RpAll.ofInts _))
  | tup ha _ ra =>
    obtain ⟨ns, h1, h2⟩ := bind_some h
    have e := unI_eq h1
    subst e
    have e := ra.ints
    subst e
    cases h2
    refine .inr ⟨_, ns, rfl, .inl (.inr ⟨_, hid_le _ _ ha⟩), fun ms p pm so hp => ?_⟩
    have e := fin ns ms pm so
    subst e
    exact q _ _ (Ex.new hp) (.lst (new_ok al hp) (RpAll.ofInts _))
  | _ => cases h
end Uv

namespace Uv
open PySem PySem.Spec PyProof.Rows L2
/-! ### the functions at work -/
abbrev natD (n : Nat) : PD := .int (n : Nat)
abbrev kk0 : KK := ⟨[]⟩
section
variable {ρ : Env} {v : VE}
@[simp] theorem q_mk_nil : mk [] = [] := rfl
@[simp] theorem q_mk_cons {s : Sl} {r : Env} : mk (s :: r) = s.mk :: mk r := rfl
@[simp] theorem q_vw_nil : vw [] = [] := rfl
@[simp] theorem q_vw_cons {s : Sl} {r : Env} : vw (s :: r) = s.vw :: vw r := rfl
@[simp] theorem q_mk_dat {d : PD} : (Sl.dat d).mk = some d := rfl
@[simp] theorem q_mk_un : Sl.un.mk = none := rfl
@[simp] theorem q_mk_own {cs : List Cel} : (Sl.own cs).mk = none := rfl
@[simp] theorem q_vw_dat {d : PD} : (Sl.dat d).vw = some d := rfl
@[simp] theorem q_vw_un : Sl.un.vw = none := rfl
@[simp] theorem q_vw_own {cs : List Cel} : (Sl.own cs).vw = some (.list (cs.map Cel.pd)) := rfl
@[simp] theorem q_pd_dat {d : PD} : (Cel.dat d).pd = d := rfl
@[simp] theorem q_pd_sub {ds : List PD} : (Cel.sub ds).pd = .list ds := rfl
/-! pure -/
@[simp] theorem q_var {i : Nat} : xVar i v = (v[i]?).bind id := rfl
@[simp] theorem q_c {d : PD} : xC d v = some d := rfl
@[simp] theorem q_op {f : PD → PD → Option PD} {a b : XE} : xOp f a b v = (a v).bind fun x => (b v).bind fun y => f x y := rfl
@[simp] theorem q_un {f : PD → Option PD} {a : XE} : xUn f a v = (a v).bind f := rfl
@[simp] theorem q_nil : xNil v = some [] := rfl
@[simp] theorem q_cons {a : XE} {as : XA} : xCons a as v = (a v).bind fun x => (as v).bind fun xs => some (x :: xs) := rfl
@[simp] theorem q_tup {as : XA} : xTup as v = (as v).bind fun ds => if ds.length ≤ 100000 then some (.tuple ds) else none := rfl
@[simp] theorem q_lst {as : XA} : xLst as v = (as v).bind fun ds => if ds.length ≤ 100000 then some (.list ds) else none := rfl
@[simp] theorem q_cb {f : List PD → Option PD} {as : XA} : xCB f as v = (as v).bind f := rfl
@[simp] theorem q_isB {b : Bool} : isB (.bool b) = some b := rfl
@[simp] theorem q_B {a : XE} : xB a v = (a v).bind isB := rfl
@[simp] theorem q_tand {a b : XT} : xTAnd a b v = (a v).bind fun c => if c = true then b v else some false := rfl
@[simp] theorem q_tor {a b : XT} : xTOr a b v = (a v).bind fun c => if c = true then some true else b v := rfl
@[simp] theorem q_tnot {a : XT} : xTNot a v = (a v).bind fun c => some (!c) := rfl
@[simp] theorem q_yes : xYes v = some true := rfl
@[simp] theorem q_and {a b : XE} : xAnd a b v = ((a v).bind isB).bind fun c => if c = true then b v else some (.bool false) := rfl
@[simp] theorem q_or {a b : XE} : xOr a b v = ((a v).bind isB).bind fun c => if c = true then some (.bool true) else b v := rfl
@[simp] theorem q_not {a : XE} : xNot a v = ((a v).bind isB).bind fun c => some (.bool (!c)) := rfl
@[simp] theorem q_if {c : XT} {a b : XE} : xIf c a b v = (c v).bind fun k => if k = true then a v else b v := rfl
@[simp] theorem q_chain {f g : PD → PD → Option PD} {a b c : XE} : xChain f g a b c v = (a v).bind fun x => (b v).bind fun y => ((f x y).bind isB).bind fun k => if k = true then (c v).bind fun z => g y z else some (.bool false) := rfl
@[simp] theorem q_isi {t : Ty} {a : XE} : xIsi t a v = (a v).bind fun d => if full d = true then none else some (.bool (isTy t d)) := rfl
@[simp] theorem q_nop : xNoPart v = some none := rfl
@[simp] theorem q_part {a : XE} : xPart a v = (a v).bind fun d => match d with | .int i => some (some i) | _ => none := rfl
@[simp] theorem q_sl {a : XE} {lo hi : XO} : xSl a lo hi v = (a v).bind fun d => (lo v).bind fun l => (hi v).bind fun h => slP d l h := rfl
@[simp] theorem q_idx {a b : XE} : xIdx a b v = (a v).bind fun x => (b v).bind fun y => idxP x y := rfl
@[simp] theorem q_on1 {f : PD → Option PD} {x : PD} : on1 f [x] = f x := rfl
@[simp] theorem q_on2 {f : PD → PD → Option PD} {x y : PD} : on2 f [x, y] = f x y := rfl
@[simp] theorem q_xiE {a : XE} : xiE a v = (a v).bind seqP := rfl
@[simp] theorem q_xiA {f : List PD → Option (List PD)} {as : XA} : xiA f as v = (as v).bind f := rfl
@[simp] theorem q_lc {src : XI} {g : XGV} {t : XT} {e : XE} {vs : List Nat} : xLc src g t e vs v = (src v).bind fun xs => if xs.length ≤ 40000 then (lcGo g t e (clear v vs) xs).bind fun ds => some (.list ds) else none := rfl
@[simp] theorem q_clear_nil : clear v [] = v := rfl
@[simp] theorem q_clear_cons {i : Nat} {vs : List Nat} : clear v (i :: vs) = (clear v vs).set i none := rfl
@[simp] theorem q_gvName {i : Nat} {x : PD} : gvName i x v = some (v.set i (some x)) := rfl
@[simp] theorem q_gvNil : gvNil [] v = some v := rfl
@[simp] theorem q_gvCons {g : XGV} {gs : XGVs} {x : PD} {xs : List PD} : gvCons g gs (x :: xs) v = (g x v).bind fun v1 => gs xs v1 := rfl
@[simp] theorem q_gvTup {n : Nat} {gs : XGVs} {x : PD} : gvTup n gs x v = (seqP x).bind fun ds => if ds.length = n then gs ds v else none := rfl
/-! operations -/
@[simp] theorem q_add_i {i j : Int} : addP (.int i) (.int j) = some (.int (i + j)) := rfl
@[simp] theorem q_add_l {xs ys : List PD} : addP (.list xs) (.list ys) = if xs.length + ys.length ≤ 100000 then some (.list (xs ++ ys)) else none := rfl
@[simp] theorem q_add_t {xs ys : List PD} : addP (.tuple xs) (.tuple ys) = if xs.length + ys.length ≤ 100000 then some (.tuple (xs ++ ys)) else none := rfl
@[simp] theorem q_sub {i j : Int} : subP (.int i) (.int j) = some (.int (i - j)) := rfl
@[simp] theorem q_div {i j : Int} : divP (.int i) (.int j) = if 0 < j ∧ j < 2 ^ 64 then some (.int (i / j)) else none := rfl
@[simp] theorem q_mod {i j : Int} : modP (.int i) (.int j) = if 0 < j then some (.int (i % j)) else none := rfl
@[simp] theorem q_pow {i j : Int} : powP (.int i) (.int j) = if 0 ≤ j ∧ j ≤ 1000 ∧ -(2 ^ 63) < i ∧ i < 2 ^ 63 then some (.int (i ^ j.toNat)) else none := rfl
@[simp] theorem q_mul {i j : Int} : mulP (.int i) (.int j) = if (-(2 ^ 64) < i ∧ i < 2 ^ 64) ∨ (-(2 ^ 64) < j ∧ j < 2 ^ 64) then some (.int (i * j)) else none := rfl
@[simp] theorem q_lt {i j : Int} : ltP (.int i) (.int j) = some (.bool (decide (i < j))) := rfl
@[simp] theorem q_le {i j : Int} : leP (.int i) (.int j) = some (.bool (decide (i ≤ j))) := rfl
@[simp] theorem q_gt {i j : Int} : gtP (.int i) (.int j) = some (.bool (decide (j < i))) := rfl
@[simp] theorem q_ge {i j : Int} : geP (.int i) (.int j) = some (.bool (decide (j ≤ i))) := rfl
@[simp] theorem q_neg {i : Int} : negP (.int i) = some (.int (-i)) := rfl
theorem sh_int {i : Int} : SeqAt.shaped (.int i) = true := rfl
@[simp] theorem q_eq_i {i j : Int} : eqP (.int i) (.int j) = some (.bool (i == j)) := rfl
@[simp] theorem q_ne_i {i j : Int} : neP (.int i) (.int j) = some (.bool (!(i == j))) := rfl
@[simp] theorem q_is {x : PD} : isP x .none = some (.bool (isNone x)) := by cases x <;> rfl
@[simp] theorem q_isnt {x : PD} : isntP x .none = some (.bool (!isNone x)) := by cases x <;> rfl
@[simp] theorem q_isNone_n : isNone .none = true := rfl
@[simp] theorem q_isNone_i {i : Int} : isNone (.int i) = false := rfl
@[simp] theorem q_isNone_t {ds : List PD} : isNone (.tuple ds) = false := rfl
@[simp] theorem q_ix_t {ds : List PD} {i : Int} : ixP (.tuple ds) (.int i) = atI ds i := rfl
@[simp] theorem q_ix_l {ds : List PD} {i : Int} : ixP (.list ds) (.int i) = atI ds i := rfl
@[simp] theorem q_ix_s {ds : List PD} {i : Int} : ixP (scrD ds) (.int i) = atI ds i := rfl
@[simp] theorem q_sl_t {ds : List PD} {lo hi : Option Int} : slP (.tuple ds) lo hi = some (.tuple (cutD ds lo hi)) := rfl
@[simp] theorem q_sl_l {ds : List PD} {lo hi : Option Int} : slP (.list ds) lo hi = some (.list (cutD ds lo hi)) := rfl
@[simp] theorem q_sl_s {ds : List PD} {lo hi : Option Int} : slP (scrD ds) lo hi = some (.list (cutD ds lo hi)) := rfl
@[simp] theorem q_seq_t {ds : List PD} : seqP (.tuple ds) = some ds := rfl
@[simp] theorem q_seq_l {ds : List PD} : seqP (.list ds) = some ds := rfl
@[simp] theorem q_seq_s {ds : List PD} : seqP (scrD ds) = some ds := rfl
@[simp] theorem q_len_t {ds : List PD} : lenP (.tuple ds) = some (natD ds.length) := rfl
@[simp] theorem q_len_l {ds : List PD} : lenP (.list ds) = some (natD ds.length) := rfl
@[simp] theorem q_len_s {ds : List PD} : lenP (scrD ds) = some (natD ds.length) := rfl
@[simp] theorem q_tupP_l {ds : List PD} : tupP (.list ds) = some (.tuple ds) := rfl
@[simp] theorem q_tupP_t {ds : List PD} : tupP (.tuple ds) = some (.tuple ds) := rfl
@[simp] theorem q_listP_l {ds : List PD} : listP (.list ds) = some (.list ds) := rfl
@[simp] theorem q_listP_t {ds : List PD} : listP (.tuple ds) = some (.list ds) := rfl
@[simp] theorem q_absP {i : Int} : absP (.int i) = some (.int (if i < 0 then -i else i)) := rfl
@[simp] theorem q_enum_t {ds : List PD} : enumP [.tuple ds] = some (pairsD ds) := rfl
@[simp] theorem q_enum_l {ds : List PD} : enumP [.list ds] = some (pairsD ds) := rfl
@[simp] theorem q_zip_t {ds es : List PD} : zipP [.tuple ds, .tuple es] = some (zipD ds es) := rfl
@[simp] theorem q_zip_l {ds es : List PD} : zipP [.list ds, .list es] = some (zipD ds es) := rfl
theorem q_rng {n : Nat} (h : n ≤ 1000000) : rngP [natD n] = some ((List.range n).map natD) := by
  have e : (List.range ((n : Nat) : Int).toNat).map (fun k => PyData.int (0 + (k : Nat))) = (List.range n).map natD := by
    rw [show ((n : Nat) : Int).toNat = n from Int.toNat_natCast n]
    apply List.map_congr_left
    intro k _
    rw [Int.zero_add]
  have c : -(2 ^ 62) ≤ ((n : Nat) : Int) ∧ ((n : Nat) : Int) < 2 ^ 62 := ⟨by omega, by omega⟩
  unfold rngP
  dsimp only
  rw [if_pos c, e]
@[simp] theorem q_full_n : full .none = false := rfl
@[simp] theorem q_full_b {b : Bool} : full (.bool b) = false := rfl
@[simp] theorem q_full_i {i : Int} : full (.int i) = false := rfl
@[simp] theorem q_full_s {x : Str} : full (.str x) = false := rfl
@[simp] theorem q_full_l {ds : List PD} : full (.list ds) = false := rfl
@[simp] theorem q_full_t {ds : List PD} : full (.tuple ds) = false := rfl
@[simp] theorem q_full_d : full (.dict []) = false := rfl
@[simp] theorem q_flat_n : flat .none = true := by simp [flat]
@[simp] theorem q_flat_b {b : Bool} : flat (.bool b) = true := by simp [flat]
@[simp] theorem q_flat_i {i : Int} : flat (.int i) = true := by simp [flat]
@[simp] theorem q_flat_s {x : Str} : flat (.str x) = true := by simp [flat]
@[simp] theorem q_flat_t {ds : List PD} : flat (.tuple ds) = flats ds := by simp [flat]
@[simp] theorem q_flats_nil : flats [] = true := by simp [flats]
@[simp] theorem q_flats_cons {d : PD} {ds : List PD} : flats (d :: ds) = (flat d && flats ds) := by simp [flats]
/-! over the state -/
@[simp] theorem q_wM {x : XE} : wM x ρ = (x (mk ρ)).bind fun d => some (d, ρ) := rfl
@[simp] theorem q_wV {x : XE} : wV x ρ = (x (vw ρ)).bind fun d => if flat d = true then some (d, ρ) else none := rfl
@[simp] theorem q_wMT {x : XT} : wMT x ρ = (x (mk ρ)).bind fun d => some (d, ρ) := rfl
@[simp] theorem q_wVT {x : XT} : wVT x ρ = (x (vw ρ)).bind fun d => some (d, ρ) := rfl
@[simp] theorem q_wNil : wNil ρ = some ([], ρ) := rfl
@[simp] theorem q_wCons {a : XW} {as : XWA} : wCons a as ρ = (a ρ).bind fun x => (as x.2).bind fun xs => some (x.1 :: xs.1, xs.2) := rfl
@[simp] theorem q_wOp {f : PD → PD → Option PD} {a b : XW} : wOp f a b ρ = (a ρ).bind fun x => (b x.2).bind fun y => (f x.1 y.1).bind fun z => some (z, y.2) := rfl
@[simp] theorem q_wTup {as : XWA} : wTup as ρ = (as ρ).bind fun x => if x.1.length ≤ 100000 then some (.tuple x.1, x.2) else none := rfl
@[simp] theorem q_wLst {as : XWA} : wLst as ρ = (as ρ).bind fun x => if x.1.length ≤ 100000 then some (.list x.1, x.2) else none := rfl
@[simp] theorem q_wCB {f : List PD → Option PD} {as : XWA} : wCB f as ρ = (as ρ).bind fun x => (f x.1).bind fun z => some (z, x.2) := rfl
@[simp] theorem q_wB {a : XW} : wB a ρ = (a ρ).bind fun x => (isB x.1).bind fun b => some (b, x.2) := rfl
@[simp] theorem q_wIf {c : XWT} {a b : XW} : wIf c a b ρ = (c ρ).bind fun k => if k.1 = true then a k.2 else b k.2 := rfl
@[simp] theorem q_wCallK {i : Nat} {g : List Cel → List PD → Option (PD × List Cel)} {as : XWA} : wCallK i g as ρ = (ownAt ρ i).bind fun _ => (as ρ).bind fun x => (ownAt x.2 i).bind fun cs => (g cs x.1).bind fun y => some (y.1, x.2.set i (.own y.2)) := rfl
@[simp] theorem q_ownAt0 {cs : List Cel} {r : Env} : ownAt (.own cs :: r) 0 = some cs := rfl
@[simp] theorem q_ownAtS {s : Sl} {r : Env} {i : Nat} : ownAt (s :: r) (i + 1) = ownAt r i := rfl
@[simp] theorem q_wFz {o : XWO} : wFz o ρ = (o ρ).bind fun x => some (.list (x.1.map Cel.pd), x.2) := rfl
@[simp] theorem q_wOM {x : XE} : wOM x ρ = ((x (mk ρ)).bind asList).bind fun ds => some (ds.map Cel.dat, ρ) := rfl
@[simp] theorem q_wOV {x : XE} : wOV x ρ = ((x (vw ρ)).bind asList).bind fun ds => if flats ds = true then some (ds.map Cel.dat, ρ) else none := rfl
@[simp] theorem q_asList {ds : List PD} : asList (.list ds) = some ds := rfl
@[simp] theorem q_wOL {as : XWC} : wOL as ρ = (as ρ).bind fun x => if x.1.length ≤ 100000 then some x else none := rfl
@[simp] theorem q_wcNil : wcNil ρ = some ([], ρ) := rfl
@[simp] theorem q_wcDat {a : XW} {as : XWC} : wcDat a as ρ = (a ρ).bind fun x => (as x.2).bind fun xs => some (.dat x.1 :: xs.1, xs.2) := rfl
@[simp] theorem q_wcSub {a : XWO} {as : XWC} : wcSub a as ρ = (a ρ).bind fun x => (allDat x.1).bind fun ds => (as x.2).bind fun xs => some (.sub ds :: xs.1, xs.2) := rfl
@[simp] theorem q_allDat {ds : List PD} : allDat (ds.map Cel.dat) = some ds := @allDat_map kk0 ds
@[simp] theorem q_allDat_nil : allDat [] = some [] := rfl
@[simp] theorem q_wCallD {f : List PD → Option (List Cel)} {as : XWA} : wCallD f as ρ = (as ρ).bind fun x => (f x.1).bind fun cs => some (cs, x.2) := rfl
@[simp] theorem q_wPop {i : Nat} {a : XW} : wPop i a ρ = (ownAt ρ i).bind fun _ => (a ρ).bind fun x => (isI x.1).bind fun k => (ownAt x.2 i).bind fun cs => if -(2 ^ 63) ≤ k ∧ k < 2 ^ 63 then (ixN cs.length k).bind fun n => (datAt cs n).bind fun d => some (d, x.2.set i (.own (cs.eraseIdx n))) else none := rfl
@[simp] theorem q_isI {i : Int} : isI (.int i) = some i := rfl
@[simp] theorem q_wiE {a : XW} : wiE a ρ = (a ρ).bind fun x => (seqP x.1).bind fun xs => some (xs, x.2) := rfl
@[simp] theorem q_wiA {f : List PD → Option (List PD)} {as : XWA} : wiA f as ρ = (as ρ).bind fun x => (f x.1).bind fun xs => some (xs, x.2) := rfl
@[simp] theorem q_gName {i : Nat} {x : PD} : gName' i x ρ = some (ρ.set i (.dat x)) := rfl
@[simp] theorem q_gNil : gNil' [] ρ = some ρ := rfl
@[simp] theorem q_gCons {g : XG} {gs : XGs} {x : PD} {xs : List PD} : gCons' g gs (x :: xs) ρ = (g x ρ).bind fun v1 => gs xs v1 := rfl
@[simp] theorem q_gTup {n : Nat} {gs : XGs} {x : PD} : gTup' n gs x ρ = (seqP x).bind fun ds => if ds.length = n then gs ds ρ else none := rfl
/-! statements -/
@[simp] theorem q_sNext : sNext ρ = some (.nxt ρ) := rfl
@[simp] theorem q_sRet {w : XW} : sRet w ρ = (w ρ).bind fun x => some (.ret x.1 x.2) := rfl
@[simp] theorem q_sRetO {w : XWO} : sRetO w ρ = (w ρ).bind fun x => some (.retO x.1 x.2) := rfl
@[simp] theorem q_sIf {c : XWT} {x y : XS} : sIf c x y ρ = (c ρ).bind fun k => if k.1 = true then x k.2 else y k.2 := rfl
@[simp] theorem q_sAsg {g : XG} {w : XW} : sAsg g w ρ = (w ρ).bind fun x => (g x.1 x.2).bind fun ρ1 => some (.nxt ρ1) := rfl
@[simp] theorem q_sOwn {i : Nat} {w : XWO} : sOwn i w ρ = (w ρ).bind fun x => if i < x.2.length then some (.nxt (x.2.set i (.own x.1))) else none := rfl
@[simp] theorem q_sDrop {w : XW} : sDrop w ρ = (w ρ).bind fun x => some (.nxt x.2) := rfl
@[simp] theorem q_toSl_d {d : PD} : toSl (.dat d) = .dat d := rfl
@[simp] theorem q_toSl_s {ds : List PD} : toSl (.sub ds) = .own (ds.map Cel.dat) := rfl
@[simp] theorem q_two {c e : Cel} : two [c, e] = some (c, e) := rfl
@[simp] theorem q_sPar {i j : Nat} {as : XWC} : sPar i j as ρ = (as ρ).bind fun x => (two x.1).bind fun c => if i < x.2.length ∧ j < x.2.length then some (.nxt ((x.2.set i (toSl c.1)).set j (toSl c.2))) else none := rfl
@[simp] theorem q_sApp {i : Nat} {a : XW} : sApp i a ρ = (ownAt ρ i).bind fun _ => (a ρ).bind fun x => (ownAt x.2 i).bind fun cs => if cs.length < 100000 then some (.nxt (x.2.set i (.own (cs ++ [.dat x.1])))) else none := rfl
@[simp] theorem q_sSet {i : Nat} {k : XE} {a : XW} : sSet i k a ρ = (a ρ).bind fun x => (ownAt x.2 i).bind fun cs => ((k (vw x.2)).bind isI).bind fun k => (ixN cs.length k).bind fun n => (datAt cs n).bind fun _ => some (.nxt (x.2.set i (.own (cs.set n (.dat x.1))))) := rfl
@[simp] theorem q_sSetS {i : Nat} {k j : XE} {a : XW} : sSetS i k j a ρ = (a ρ).bind fun x => (ownAt x.2 i).bind fun cs => ((k (vw x.2)).bind isI).bind fun k => (ixN cs.length k).bind fun n => (subAt cs n).bind fun ds => ((j (vw x.2)).bind isI).bind fun j => (ixN ds.length j).bind fun m => some (.nxt (x.2.set i (.own (cs.set n (.sub (ds.set m x.1)))))) := rfl
@[simp] theorem q_sFz {i : Nat} {y : XS} : sFz i y ρ = y (fzE ρ i) := rfl
@[simp] theorem q_fz0 {cs : List Cel} {r : Env} : fzE (.own cs :: r) 0 = .dat (.list (cs.map Cel.pd)) :: r := rfl
theorem q_fzS {s : Sl} {r : Env} {i : Nat} : fzE (s :: r) (i + 1) = s :: fzE r i := by
  unfold fzE
  rw [List.getElem?_cons_succ]
  cases h : r[i]? with
  | none => rfl
  | some q => cases q <;> rfl
theorem q_sFor {src : XWI} {g : XG} {b : XS} : sFor src g b ρ = (src ρ).bind fun x => forGo g b x.1 x.2 := rfl
theorem sFor_at {src : XWI} {g : XG} {b : XS} {ρ1 : Env} {xs : List PD} (h : src ρ = some (xs, ρ1)) : sFor src g b ρ = forGo g b xs ρ1 := by
  unfold sFor
  rw [h, Option.bind_some]
theorem forGo_nil {g : XG} {b : XS} : forGo g b [] ρ = some (.nxt ρ) := rfl
theorem forGo_nxt {g : XG} {b : XS} {ρ1 ρ2 : Env} {x : PD} {xs : List PD} (h1 : g x ρ = some ρ1) (h2 : b ρ1 = some (.nxt ρ2)) : forGo g b (x :: xs) ρ = forGo g b xs ρ2 := by
  show ((g x ρ).bind fun ρ1 => (b ρ1).bind fun o => _) = _
  rw [h1, Option.bind_some, h2, Option.bind_some]
theorem runP_ret {n k : Nat} {X : XS} {ds : List PD} {d : PD} {ρ1 : Env} (hn : ds.length = n) (h : X (ds.map Sl.dat ++ List.replicate k Sl.un) = some (.ret d ρ1)) : runP n k X ds = some d := by
  unfold runP
  rw [if_pos hn, h, Option.bind_some]
theorem runW_ret {n k : Nat} {X : XS} {cs cs' : List Cel} {ds : List PD} {d : PD} {r : Env} (hn : ds.length = n) (h : X (.own cs :: (ds.map Sl.dat ++ List.replicate k Sl.un)) = some (.ret d (.own cs' :: r))) : runW n k X cs ds = some (d, cs') := by
  unfold runW
  rw [if_pos hn, h, Option.bind_some]
  rfl
theorem wLc_at {src : XWI} {g : XG} {t : XWT} {e : XW} {vs : List Nat} {xs ds : List PD} {ρ1 ρ2 : Env} (h : src ρ = some (xs, ρ1)) (hl : xs.length ≤ 40000) (h2 : wlGo g t e vs xs ρ1 = some (ds, ρ2)) : wLc src g t e vs ρ = some (ds.map Cel.dat, backE ρ1 ρ2 vs) := by
  unfold wLc
  rw [h, Option.bind_some, if_pos hl, h2, Option.bind_some]
theorem callK_at {i : Nat} {f : List Cel → List PD → Option (PD × List Cel)} {as : XWA} {cs0 cs cs' : List Cel} {ds : List PD} {d : PD} {ρ1 : Env} (h0 : ownAt ρ i = some cs0) (ha : as ρ = some (ds, ρ1)) (h1 : ownAt ρ1 i = some cs) (hf : f cs ds = some (d, cs')) : wCallK i f as ρ = some (d, ρ1.set i (.own cs')) := by
  unfold wCallK
  rw [h0, Option.bind_some, ha, Option.bind_some, h1, Option.bind_some, hf, Option.bind_some]
theorem sAsg_at {i : Nat} {w : XW} {d : PD} {ρ1 : Env} (h : w ρ = some (d, ρ1)) : sAsg (gName' i) w ρ = some (.nxt (ρ1.set i (.dat d))) := by
  unfold sAsg
  rw [h, Option.bind_some]
  rfl
theorem wM_at {x : XE} {d : PD} (h : x (mk ρ) = some d) : wM x ρ = some (d, ρ) := by
  unfold wM
  rw [h, Option.bind_some]
theorem call_at {f : List PD → Option PD} {as : XA} {v : VE} {ds : List PD} {d : PD} (ha : as v = some ds) (hf : f ds = some d) : xCB f as v = some d := by
  unfold xCB
  rw [ha, Option.bind_some, hf]
theorem sSeq_nxt {x y : XS} {ρ1 : Env} (h : x ρ = some (.nxt ρ1)) : sSeq x y ρ = y ρ1 := by unfold sSeq; rw [h]; rfl
theorem sSeq_ret {x y : XS} {ρ1 : Env} {d : PD} (h : x ρ = some (.ret d ρ1)) : sSeq x y ρ = some (.ret d ρ1) := by unfold sSeq; rw [h]; rfl
theorem map_dat_pd (ds : List PD) : (ds.map Cel.dat).map Cel.pd = ds := by rw [List.map_map, show Cel.pd ∘ Cel.dat = id from rfl, List.map_id]
end
end Uv

namespace Uv
open PySem PySem.Spec PyProof.Rows L2
/-! ### loops of the functions, by words -/
theorem lcGo_map {g : XGV} {t : XT} {e : XE} {v : VE} (p : PD → Bool) (f : PD → PD) : ∀ {xs : List PD}, (∀ x ∈ xs, ∃ v1, g x v = some v1 ∧ t v1 = some (p x) ∧ (p x = true → e v1 = some (f x))) → lcGo g t e v xs = some ((xs.filter p).map f)
  | [], _ => rfl
  | x :: xs, h => by
    obtain ⟨v1, h1, h2, h3⟩ := h x (List.mem_cons_self ..)
    have ih := lcGo_map p f (xs := xs) fun y hy => h y (List.mem_cons_of_mem _ hy)
    show ((g x v).bind fun ρ1 => (t ρ1).bind fun b => if b = true then (e ρ1).bind fun d => (lcGo g t e v xs).bind fun ds => some (d :: ds) else lcGo g t e v xs) = _
    rw [h1, Option.bind_some, h2, Option.bind_some, ih]
    cases hp : p x with
    | true => rw [if_pos rfl, h3 hp, List.filter_cons, if_pos hp]; rfl
    | false => rw [if_neg Bool.false_ne_true, List.filter_cons, if_neg (by rw [hp]; exact Bool.false_ne_true)]
/-- over a typed list -/
theorem lcGo_typ {α : Type} {g : XGV} {t : XT} {e : XE} {v : VE} (enc : α → PD) (p : α → Bool) (f : α → PD) : ∀ {xs : List α}, (∀ x ∈ xs, ∃ v1, g (enc x) v = some v1 ∧ t v1 = some (p x) ∧ (p x = true → e v1 = some (f x))) → lcGo g t e v (xs.map enc) = some ((xs.filter p).map f)
  | [], _ => rfl
  | x :: xs, h => by
    obtain ⟨v1, h1, h2, h3⟩ := h x (List.mem_cons_self ..)
    have ih := lcGo_typ enc p f (xs := xs) fun y hy => h y (List.mem_cons_of_mem _ hy)
    show ((g (enc x) v).bind fun ρ1 => (t ρ1).bind fun b => if b = true then (e ρ1).bind fun d => (lcGo g t e v (xs.map enc)).bind fun ds => some (d :: ds) else lcGo g t e v (xs.map enc)) = _
    rw [h1, Option.bind_some, h2, Option.bind_some, ih]
    cases hp : p x with
    | true => rw [if_pos rfl, h3 hp, List.filter_cons, if_pos hp]; rfl
    | false => rw [if_neg Bool.false_ne_true, List.filter_cons, if_neg (by rw [hp]; exact Bool.false_ne_true)]
/-- a for that goes on to its end -/
theorem forGo_inv {g : XG} {b : XS} {xs : List PD} (I : Nat → Env → Prop) {ρ : Env} (h0 : I 0 ρ) (hs : ∀ i x ρ, xs[i]? = some x → I i ρ → ∃ ρ1 ρ2, g x ρ = some ρ1 ∧ b ρ1 = some (.nxt ρ2) ∧ I (i + 1) ρ2) : ∃ ρ', forGo g b xs ρ = some (.nxt ρ') ∧ I xs.length ρ' := by
  induction xs generalizing ρ I with
  | nil => exact ⟨ρ, rfl, h0⟩
  | cons x xs ih =>
    obtain ⟨ρ1, ρ2, h1, h2, h3⟩ := hs 0 x ρ rfl h0
    obtain ⟨ρ', h4, h5⟩ := ih (fun i => I (i + 1)) h3 fun i y ρ hy hI => hs (i + 1) y ρ (by simpa using hy) hI
    refine ⟨ρ', ?_, h5⟩
    show ((g x ρ).bind fun ρ1 => (b ρ1).bind fun o => _) = _
    rw [h1, Option.bind_some, h2, Option.bind_some]
    exact h4
/-- a while by what is left -/
theorem whGo_inv {c : XWT} {b : XS} (I : Nat → Env → Prop) (hz : ∀ ρ, I 0 ρ → ∃ ρ', c ρ = some (false, ρ') ∧ I 0 ρ') (hs : ∀ k ρ, I (k + 1) ρ → ∃ ρ1 ρ2, c ρ = some (true, ρ1) ∧ b ρ1 = some (.nxt ρ2) ∧ I k ρ2) : ∀ {k n : Nat} {ρ : Env}, I k ρ → k < n → ∃ ρ', whGo c b n ρ = some (.nxt ρ') ∧ I 0 ρ'
  | _, 0, _, _, hl => absurd hl (Nat.not_lt_zero _)
  | 0, n + 1, ρ, h, _ => by
    obtain ⟨ρ', h1, h2⟩ := hz ρ h
    refine ⟨ρ', ?_, h2⟩
    show ((c ρ).bind fun k => _) = _
    rw [h1, Option.bind_some]
    rfl
  | k + 1, n + 1, ρ, h, hl => by
    obtain ⟨ρ1, ρ2, h1, h2, h3⟩ := hs k ρ h
    obtain ⟨ρ', h4, h5⟩ := whGo_inv I hz hs (k := k) (n := n) h3 (by omega)
    refine ⟨ρ', ?_, h5⟩
    show ((c ρ).bind fun k => _) = _
    rw [h1, Option.bind_some]
    show ((b ρ1).bind fun o => _) = _
    rw [h2, Option.bind_some]
    exact h4
/-- a comprehension that draws, each item kept -/
theorem wlGo_inv {g : XG} {t : XWT} {e : XW} {vs : List Nat} {xs : List PD} (I : Nat → Env → Prop) (Pd : Nat → PD → Prop) {ρ : Env} (h0 : I 0 ρ) (hs : ∀ i x ρ, xs[i]? = some x → I i ρ → ∃ ρ1 ρ2 d ρ3, g x (clearE ρ vs) = some ρ1 ∧ t ρ1 = some (true, ρ2) ∧ e ρ2 = some (d, ρ3) ∧ Pd i d ∧ I (i + 1) ρ3) :
    ∃ ds ρ', wlGo g t e vs xs ρ = some (ds, ρ') ∧ ds.length = xs.length ∧ (∀ i d, ds[i]? = some d → Pd i d) ∧ I xs.length ρ' := by
  induction xs generalizing ρ I Pd with
  | nil => exact ⟨[], ρ, rfl, rfl, fun i d h => by simp at h, h0⟩
  | cons x xs ih =>
    obtain ⟨ρ1, ρ2, d, ρ3, h1, h2, h3, hp, h4⟩ := hs 0 x ρ rfl h0
    obtain ⟨ds, ρ', h5, h6, h7, h8⟩ := ih (fun i => I (i + 1)) (fun i => Pd (i + 1)) h4 fun i y ρ hy hI => hs (i + 1) y ρ (by simpa using hy) hI
    refine ⟨d :: ds, ρ', ?_, by rw [List.length_cons, List.length_cons, h6], fun i e he => ?_, h8⟩
    · show ((g x (clearE ρ vs)).bind fun ρ1 => (t ρ1).bind fun b => if b.1 = true then (e b.2).bind fun d => (wlGo g t e vs xs d.2).bind fun r => some (d.1 :: r.1, r.2) else wlGo g t e vs xs b.2) = _
      rw [h1, Option.bind_some, h2, Option.bind_some, if_pos rfl, h3, Option.bind_some, h5]
      rfl
    · cases i with
      | zero => cases he; exact hp
      | succ i => exact h7 i e (by simpa using he)
theorem atI_nat' {α : Type} {xs : List α} {k : Nat} : atI xs (k : Int) = xs[k]? := by
  unfold atI ixN
  by_cases h : k < xs.length
  · rw [if_pos (by omega), if_pos (by omega)]
    simp
  · rw [if_pos (by omega), if_neg (by omega)]
    simp
    omega
@[simp] theorem atI_0 {α : Type} {x : α} {xs : List α} : atI (x :: xs) 0 = some x := by
  have := atI_nat' (xs := x :: xs) (k := 0)
  simpa using this
@[simp] theorem atI_1 {α : Type} {x y : α} {xs : List α} : atI (x :: y :: xs) 1 = some y := by
  have := atI_nat' (xs := x :: y :: xs) (k := 1)
  simpa using this
@[simp] theorem atI_2 {α : Type} {x y z : α} {xs : List α} : atI (x :: y :: z :: xs) 2 = some z := by
  have := atI_nat' (xs := x :: y :: z :: xs) (k := 2)
  simpa using this
theorem pairsD_map {α : Type} (enc : α → PD) (xs : List α) : pairsD (xs.map enc) = (xs.zipIdx).map fun p => .tuple [natD p.2, enc p.1] := by
  unfold pairsD
  rw [List.zipIdx_map, List.map_map]
  rfl
theorem unI_nats (ns : List Nat) : unI (ns.map natD) = some (ns.map fun (n : Nat) => (n : Int)) := by
  have e : ns.map natD = (ns.map fun (n : Nat) => (n : Int)).map PyData.int := by rw [List.map_map]; rfl
  rw [e]
  exact @unI_map kk0 _
end Uv
namespace Uv
theorem erase_perm {α : Type} : ∀ {l : List α} {j : Nat} (h : j < l.length), (l[j] :: l.eraseIdx j).Perm l
  | x :: xs, 0, _ => .refl _
  | x :: xs, j + 1, h => by
    have ih := erase_perm (l := xs) (j := j) (by simpa using h)
    simpa using (List.Perm.swap x (xs[j]'(by simpa using h)) (xs.eraseIdx j)).symm.symm.trans (ih.cons x)
theorem erase_map {α β : Type} (f : α → β) : ∀ (l : List α) (j : Nat), (l.map f).eraseIdx j = (l.eraseIdx j).map f
  | [], _ => rfl
  | x :: xs, 0 => rfl
  | x :: xs, j + 1 => by simp [erase_map f xs j]
end Uv

namespace Uv
open PySem PySem.Spec PyProof.Rows L2
/-- a deck of k39 to k48: cells, and how many numbers were drawn -/
def DkD (b : Nat) (cs : List Cel) : Prop := ∃ (cells : List Int) (n : Int), cs = [.sub (cells.map PyData.int), .dat (.int n)] ∧ cells.length ≤ 63 ∧ 0 ≤ n ∧ n ≤ b
theorem DkD.mono {b c : Nat} {cs : List Cel} (h : DkD b cs) (hb : b ≤ c) : DkD c cs := by
  obtain ⟨cells, n, e, h1, h2, h3⟩ := h
  exact ⟨cells, n, e, h1, h2, by omega⟩
theorem ixN_nat' {n k : Nat} (h : k < n) : ixN n (k : Int) = some k := by
  unfold ixN
  rw [if_pos (by omega), if_pos (by omega)]
  simp
@[simp] theorem ixN_20 : ixN 2 0 = some 0 := rfl
@[simp] theorem ixN_21 : ixN 2 1 = some 1 := rfl
@[simp] theorem datAt_0 {d : PD} {r : List Cel} : datAt (.dat d :: r) 0 = some d := rfl
@[simp] theorem datAt_S {c : Cel} {r : List Cel} {i : Nat} : datAt (c :: r) (i + 1) = datAt r i := rfl
@[simp] theorem subAt_0 {d : List PD} {r : List Cel} : subAt (.sub d :: r) 0 = some d := rfl
@[simp] theorem subAt_S {c : Cel} {r : List Cel} {i : Nat} : subAt (c :: r) (i + 1) = subAt r i := rfl
theorem datAt_dats {ds : List PD} {i : Nat} : datAt (ds.map Cel.dat) i = ds[i]? := by
  unfold datAt
  rw [List.getElem?_map]
  cases ds[i]? <;> rfl
end Uv

namespace Uv
open PySem PySem.Spec PyProof.Rows L2
/-! ### webs -/
structure Road where
  b : Option Nat
  e : Option Nat
  r : Int
structure Web where
  roads : List Road
  gives : List (List Nat)
  takes : List (List Nat)
def endD : Option Nat → PD
  | none => .none
  | some n => natD n
def roadD (x : Road) : PD := .tuple [endD x.b, endD x.e, .int x.r]
def natsD (l : List Nat) : PD := .tuple (l.map natD)
def webD (W : Web) : PD := .tuple [.tuple (W.roads.map roadD), .tuple (W.gives.map natsD), .tuple (W.takes.map natsD)]
def side (s : Nat) (x : Road) : Option Nat := if s = 0 then x.b else x.e
/-- the roads whose end of this side is the house -/
def atR (rs : List Road) (s h : Nat) : List Nat := (rs.zipIdx.filter fun p => side s p.1 == some h).map (·.2)
def OkRoad (n : Nat) (x : Road) : Prop := x.b ≠ x.e ∧ (∀ h, x.b = some h → h < n) ∧ (∀ h, x.e = some h → h < n) ∧ 0 ≤ x.r ∧ x.r ≤ 1000000000000
structure IsWeb (W : Web) : Prop where
  houses : 1 ≤ W.gives.length ∧ W.gives.length ≤ 8
  same : W.takes.length = W.gives.length
  count : 1 ≤ W.roads.length ∧ W.roads.length ≤ 20
  road : ∀ x ∈ W.roads, OkRoad W.gives.length x
  give : ∀ (h : Nat) (l : List Nat), W.gives[h]? = some l → l.Perm (atR W.roads 0 h)
  take : ∀ (h : Nat) (l : List Nat), W.takes[h]? = some l → l.Perm (atR W.roads 1 h)
theorem atR_lt {rs : List Road} {s h k : Nat} (hk : k ∈ atR rs s h) : k < rs.length := by
  unfold atR at hk
  obtain ⟨⟨x, j⟩, h1, rfl⟩ := List.mem_map.mp hk
  have h2 := (List.mem_filter.mp h1).1
  have h3 := List.mem_zipIdx h2
  simp at h3
  omega
theorem zip_sorted {α : Type} : ∀ (xs : List α) (n : Nat) (p : α × Nat → Bool), (((xs.zipIdx n).filter p).map (·.2)).Pairwise (· < ·) ∧ ∀ k ∈ ((xs.zipIdx n).filter p).map (·.2), n ≤ k
  | [], n, p => by simp
  | x :: xs, n, p => by
    obtain ⟨h1, h2⟩ := zip_sorted xs (n + 1) p
    rw [List.zipIdx_cons, List.filter_cons]
    by_cases c : p (x, n) = true
    · rw [if_pos c, List.map_cons]
      refine ⟨List.pairwise_cons.mpr ⟨fun k hk => by have := h2 k hk; show n < k; omega, h1⟩, fun k hk => ?_⟩
      rcases List.mem_cons.mp hk with e | e
      · rw [e]; exact Nat.le_refl _
      · have := h2 k e; omega
    · rw [if_neg c]
      exact ⟨h1, fun k hk => by have := h2 k hk; omega⟩
theorem atR_sorted (rs : List Road) (s h : Nat) : (atR rs s h).Pairwise (· < ·) := (zip_sorted rs 0 _).1
/-- the rising list of a house's roads is what any order of them is when sorted -/
theorem sort_perm {l m : List Nat} (p : l.Perm m) (hm : m.Pairwise (· < ·)) : sortI (l.map fun (n : Nat) => (n : Int)) = m.map fun (n : Nat) => (n : Int) := by
  refine @sorted_eq kk0 _ _ ((@sortI_perm kk0 _).trans (p.map _)) (@sortI_sorted kk0 _) ?_
  rw [List.pairwise_map]
  exact hm.imp fun h => by omega
end Uv

namespace Uv
open PySem PySem.Spec PyProof.Rows L2
/-! ### what repr tells of webs -/
theorem ok_app {a b : Str} (ha : PyData.strOk a = true) (hb : PyData.strOk b = true) : PyData.strOk (a ++ b) = true := by
  show ((a.cps ++ b.cps).all _) = true
  rw [Array.all_append]
  exact Bool.and_eq_true_iff.mpr ⟨ha, hb⟩
theorem ok_ofS (x : String) : PyData.strOk (Str.ofString x) = true := by
  rw [Str.ofString_eq_toList]
  unfold PyData.strOk
  simp only [List.all_toArray, List.all_map, List.all_eq_true]
  intro c _
  have := c.valid
  simp only [Function.comp_apply, decide_eq_true_eq]
  have h : c.toNat = c.val.toNat := rfl
  rcases this with h1 | h1
  · omega
  · omega
theorem ok_join {sep : Str} (hs : PyData.strOk sep = true) : ∀ {ts : List Str}, (∀ t ∈ ts, PyData.strOk t = true) → PyData.strOk (Str.join sep ts) = true
  | [], _ => by simp [Str.join, Str.empty, PyData.strOk]
  | [t], h => h t (List.mem_cons_self ..)
  | t :: u :: r, h => by
    show PyData.strOk (t ++ sep ++ Str.join sep (u :: r)) = true
    exact ok_app (ok_app (h t (List.mem_cons_self ..)) hs) (ok_join hs fun x hx => h x (List.mem_cons_of_mem _ hx))
/-- tuples of numbers and None, however deep -/
inductive Pl : Nat → PD → Prop where
  | non {n : Nat} : Pl n .none
  | num {n : Nat} {i : Int} (h : 0 ≤ i ∧ i ≤ 1000000000000) : Pl n (.int i)
  | tup {n : Nat} {ds : List PD} (hl : ds.length ≤ 20) (h : ∀ d ∈ ds, Pl n d) : Pl (n + 1) (.tuple ds)
theorem all_show {ds : List PD} (h : ∀ d ∈ ds, PyData.showable d = true) : PyData.showableAll ds = true := by
  induction ds with
  | nil => rfl
  | cons d ds ih => rw [PyData.showableAll, h d (List.mem_cons_self ..), ih fun x hx => h x (List.mem_cons_of_mem _ hx)]; rfl
theorem all_noD {ds : List PD} (h : ∀ d ∈ ds, PyData.hasDict d = false) : PyData.hasDictAll ds = false := by
  induction ds with
  | nil => rfl
  | cons d ds ih => rw [PyData.hasDictAll, h d (List.mem_cons_self ..), ih fun x hx => h x (List.mem_cons_of_mem _ hx)]; rfl
theorem all_depth {ds : List PD} {n : Nat} (h : ∀ d ∈ ds, PyData.depth d ≤ n) : PyData.depthAll ds ≤ n := by
  induction ds with
  | nil => exact Nat.zero_le _
  | cons d ds ih =>
    have h1 := h d (List.mem_cons_self ..)
    have h2 := ih fun x hx => h x (List.mem_cons_of_mem _ hx)
    rw [PyData.depthAll]
    omega
theorem all_weight {ds : List PD} {n : Nat} (h : ∀ d ∈ ds, PyData.weight d ≤ n) : PyData.weightAll ds ≤ ds.length * (n + 1) := by
  induction ds with
  | nil => exact Nat.zero_le _
  | cons d ds ih =>
    have h1 := h d (List.mem_cons_self ..)
    have h2 := ih fun x hx => h x (List.mem_cons_of_mem _ hx)
    rw [PyData.weightAll, List.length_cons, Nat.succ_mul]
    omega
theorem all_lay {ds : List PD} (h : ∀ d ∈ ds, PyData.canLay0 d = true) : PyData.canLayAll0 ds = true := by
  induction ds with
  | nil => rfl
  | cons d ds ih => rw [PyData.canLayAll0, h d (List.mem_cons_self ..), ih fun x hx => h x (List.mem_cons_of_mem _ hx)]; rfl
theorem all_short {ds : List PD} (h : ∀ d ∈ ds, PyData.leavesShort 13 d = true) : PyData.leavesShortAll 13 ds = true := by
  induction ds with
  | nil => rfl
  | cons d ds ih => rw [PyData.leavesShortAll, h d (List.mem_cons_self ..), ih fun x hx => h x (List.mem_cons_of_mem _ hx)]; rfl
theorem all_shown {ds : List PD} (h : ∀ d ∈ ds, PyData.strOk d.shown = true) : ∀ t ∈ PyData.shownAll ds, PyData.strOk t = true := by
  induction ds with
  | nil => intro t ht; exact nomatch ht
  | cons d ds ih =>
    intro t ht
    rw [PyData.shownAll] at ht
    rcases List.mem_cons.mp ht with e | e
    · rw [e]; exact h d (List.mem_cons_self ..)
    · exact ih (fun x hx => h x (List.mem_cons_of_mem _ hx)) t e
theorem log_le {i : Int} (h : 0 ≤ i ∧ i ≤ 1000000000000) : i.natAbs.log2 < 40 := by
  by_cases c : i.natAbs = 0
  · rw [c]; decide
  · refine (Nat.log2_lt c).mpr ?_
    have : (2 : Nat) ^ 40 = 1099511627776 := by decide
    omega
theorem Pl.noD {n : Nat} {d : PD} (h : Pl n d) : d.hasDict = false := by
  induction h with
  | non => rfl
  | num => rfl
  | tup _ _ ih => exact all_noD ih
theorem Pl.show {n : Nat} {d : PD} (h : Pl n d) : d.showable = true := by
  induction h with
  | non => rfl
  | num h =>
    have := log_le h
    rw [PyData.showable, decide_eq_true_eq]
    omega
  | tup _ _ ih => exact all_show ih
theorem Pl.depth {n : Nat} {d : PD} (h : Pl n d) : d.depth ≤ n := by
  induction h with
  | non => exact Nat.zero_le _
  | num => exact Nat.zero_le _
  | tup _ _ ih => exact Nat.succ_le_succ (all_depth ih)
theorem Pl.lay {n : Nat} {d : PD} (h : Pl n d) : d.canLay0 = true := by
  induction h with
  | non => rfl
  | num => rfl
  | tup _ _ ih => exact all_lay ih
theorem Pl.short {n : Nat} {d : PD} (h : Pl n d) : d.leavesShort 13 = true := by
  induction h with
  | non => rfl
  | @num n i h =>
    rw [PyData.leavesShort, decide_eq_true_eq]
    by_cases c : i.natAbs < 10 ^ 12
    · exact PyData.shown_int_le c
    · have e : i = 1000000000000 := by omega
      rw [e]
      decide
  | tup _ _ ih => exact all_short ih
theorem Pl.ok {n : Nat} {d : PD} (h : Pl n d) : PyData.strOk d.shown = true := by
  induction h with
  | non => exact ok_ofS _
  | num => exact ok_ofS _
  | tup _ _ ih => exact ok_app (ok_app (ok_ofS _) (ok_join (ok_ofS _) (all_shown ih))) (ok_ofS _)
def wt : Nat → Nat
  | 0 => 40
  | n + 1 => 20 * (wt n + 1)
theorem wt_40 : ∀ n, 40 ≤ wt n
  | 0 => Nat.le_refl _
  | n + 1 => by have := wt_40 n; rw [wt]; omega
theorem Pl.weight {n : Nat} {d : PD} (h : Pl n d) : d.weight ≤ wt n := by
  induction h with
  | non => exact Nat.zero_le _
  | @num n i h =>
    have := log_le h
    have := wt_40 n
    rw [PyData.weight]
    split <;> omega
  | @tup n ds hl _ ih =>
    have := all_weight ih
    rw [wt]
    exact Nat.le_trans this (Nat.mul_le_mul_right _ hl)
theorem Pl.can {d : PD} (h : Pl 3 d) : CanShow d := by
  refine ⟨h.show, h.noD, Nat.le_trans h.depth (by decide), PyData.shown_fits (B := 13) (by decide) (by decide) h.short (Nat.le_trans h.weight (by decide))⟩
theorem rp_of {d : PD} (h : Pl 3 d) : reprP d = some (.str d.shown) := by
  unfold reprP
  rw [if_pos h.can]
theorem ne_shown {d : PD} (h : Pl 3 d) : neP (.str d.shown) (.str d.shown) = some (.bool false) := by
  have e : SeqAt.shaped (.str d.shown) = true := by
    unfold SeqAt.shaped
    rw [show PyData.canLay0 (.str d.shown) = PyData.strOk d.shown by simp [PyData.canLay0], h.ok]
    rfl
  unfold neP
  rw [if_pos ⟨e, e⟩]
  simp [PyData.eqv]
theorem atR_len {rs : List Road} {s h : Nat} : (atR rs s h).length ≤ rs.length := by
  unfold atR
  rw [List.length_map]
  exact Nat.le_trans (List.length_filter_le _ _) (by simp)
theorem pl_nat {n k : Nat} (h : k ≤ 1000000000000) : Pl n (natD k) := .num ⟨by omega, by omega⟩
theorem pl_web {W : Web} (h : IsWeb W) : Pl 3 (webD W) := by
  have c := h.count
  have hh := h.houses
  have orders : ∀ {os : List (List Nat)} {s : Nat}, os.length ≤ 8 → (∀ (k : Nat) (l : List Nat), os[k]? = some l → l.Perm (atR W.roads s k)) → Pl 2 (.tuple (os.map natsD)) := fun {os s} ho hp => by
    refine .tup (by rw [List.length_map]; omega) fun d hd => ?_
    obtain ⟨l, hl, rfl⟩ := List.mem_map.mp hd
    obtain ⟨k, hk⟩ := List.getElem?_of_mem hl
    have p := hp k l hk
    have := atR_len (rs := W.roads) (s := s) (h := k)
    refine .tup (by rw [List.length_map, p.length_eq]; omega) fun d hd => ?_
    obtain ⟨j, hj, rfl⟩ := List.mem_map.mp hd
    have := atR_lt (p.mem_iff.mp hj)
    exact pl_nat (by omega)
  refine .tup (by simp) fun d hd => ?_
  simp only [List.mem_cons, List.not_mem_nil, or_false] at hd
  rcases hd with e | e | e
  · rw [e]
    refine .tup (by rw [List.length_map]; omega) fun d hd => ?_
    obtain ⟨x, hx, rfl⟩ := List.mem_map.mp hd
    obtain ⟨_, h1, h2, h3, h4⟩ := h.road x hx
    have en : ∀ {o : Option Nat}, (∀ k, o = some k → k < W.gives.length) → Pl 1 (endD o) := fun {o} ho => by
      cases o with
      | none => exact .non
      | some k => have := ho k rfl; exact pl_nat (by omega)
    refine .tup (by simp) fun d hd => ?_
    simp only [List.mem_cons, List.not_mem_nil, or_false] at hd
    rcases hd with e | e | e
    · rw [e]; revert h1; cases x.b with
      | none => intro _; exact .non
      | some k => intro h1; have := h1 k rfl; exact pl_nat (by omega)
    · rw [e]; revert h2; cases x.e with
      | none => intro _; exact .non
      | some k => intro h2; have := h2 k rfl; exact pl_nat (by omega)
    · rw [e]; exact .num ⟨h3, h4⟩
  · rw [e]; exact orders hh.2 h.give
  · rw [e]; exact orders (by rw [h.same]; exact hh.2) h.take
end Uv

namespace K45
open PySem PySem.Spec PyProof.Rows L2 Uv
-- _law_deck: 0 _law_script, 1 _law_cell
def X__law_deck : XS :=
    sRetO (wOL (wcSub (wOM (xLc (xiE (xSl (xVar 0) xNoPart (xPart (xC (.int 63))))) (gvName 1) xYes (xCB (on1 absP) (xCons (xVar 1) xNil)) [1])) (wcDat (wM (xC (.int 0))) wcNil)))
def F__law_deck : List PD → Option (List Cel) := runD 1 1 X__law_deck
-- _law_draw: 0 _law_deck_here, 1 _law_many, 2 _law_cell, 3 _law_place, 4 _law_mixed
def X__law_draw : XS :=
    sSeq (sSet 0 (xC (.int 1)) (wV (xOp addP (xOp ixP (xVar 0) (xC (.int 1))) (xC (.int 1)))))
    (sSeq (sAsg (gName' 2) (wM (xC (.int 0))))
    (sSeq (sIf (wVT (xB (xOp gtP (xCB (on1 lenP) (xCons (xOp ixP (xVar 0) (xC (.int 0))) xNil)) (xC (.int 0))))) (sSeq (sAsg (gName' 3) (wV (xOp modP (xOp ixP (xVar 0) (xC (.int 1))) (xCB (on1 lenP) (xCons (xOp ixP (xVar 0) (xC (.int 0))) xNil)))))
    (sSeq (sAsg (gName' 2) (wV (xOp ixP (xOp ixP (xVar 0) (xC (.int 0))) (xVar 3))))
    (sIf (wMT (xB (xOp geP (xVar 2) (xOp powP (xC (.int 10)) (xC (.int 18)))))) (sSeq (sSetS 0 (xC (.int 0)) (xVar 3) (wM (xOp divP (xVar 2) (xVar 1))))
    (sRet (wM (xOp modP (xVar 2) (xVar 1))))) sNext))) sNext)
    (sSeq (sAsg (gName' 4) (wV (xOp modP (xOp powP (xOp addP (xOp addP (xOp modP (xVar 2) (xC (.int 2147483587))) (xOp mulP (xC (.int 7919)) (xOp ixP (xVar 0) (xC (.int 1))))) (xC (.int 1))) (xC (.int 5))) (xC (.int 2147483647)))))
    (sRet (wM (xOp modP (xOp divP (xVar 4) (xC (.int 8))) (xVar 1)))))))
def F__law_draw : List Cel → List PD → Option (PD × List Cel) := runW 1 3 X__law_draw
-- _law_ends: 0 _law_deck_here, 1 _law_many, 2 _law_way, 3 _law_here
def X__law_ends : XS :=
    sSeq (sPar 2 3 (wcDat (wCallK 0 F__law_draw (wCons (wM (xC (.int 5))) wNil)) (wcDat (wCallK 0 F__law_draw (wCons (wM (xVar 1)) wNil)) wcNil)))
    (sSeq (sIf (wMT (xTOr (xB (xOp eqP (xVar 2) (xC (.int 0)))) (xTAnd (xB (xOp eqP (xVar 1) (xC (.int 1)))) (xB (xOp ltP (xVar 2) (xC (.int 3))))))) (sRet (wM (xTup (xCons (xC .none) (xCons (xVar 3) xNil))))) sNext)
    (sSeq (sIf (wMT (xTOr (xB (xOp eqP (xVar 2) (xC (.int 1)))) (xB (xOp eqP (xVar 1) (xC (.int 1)))))) (sRet (wM (xTup (xCons (xVar 3) (xCons (xC .none) xNil))))) sNext)
    (sRet (wTup (wCons (wM (xVar 3)) (wCons (wOp modP (wOp addP (wM (xOp addP (xVar 3) (xC (.int 1)))) (wCallK 0 F__law_draw (wCons (wM (xOp subP (xVar 1) (xC (.int 1)))) wNil))) (wM (xVar 1))) wNil))))))
def F__law_ends : List Cel → List PD → Option (PD × List Cel) := runW 1 2 X__law_ends
-- _law_shuffled: 0 _law_deck_here, 1 _law_some, 2 _law_left, 3 _law_found
def X__law_shuffled : XS :=
    sSeq (sOwn 2 (wOM (xUn listP (xVar 1))))
    (sSeq (sOwn 3 (wOL wcNil))
    (sSeq (sWhile fuel (wVT (xB (xOp neP (xVar 2) (xLst xNil)))) (sApp 3 (wPop 2 (wCallK 0 F__law_draw (wCons (wV (xCB (on1 lenP) (xCons (xVar 2) xNil))) wNil)))))
    (sFz 2 (sFz 3 (sRet (wM (xCB (on1 tupP) (xCons (xVar 3) xNil))))))))
def F__law_shuffled : List Cel → List PD → Option (PD × List Cel) := runW 1 2 X__law_shuffled
-- _law_ordered: 0 _law_deck_here, 1 _law_many, 2 _law_roads, 3 _law_orders, 4 _law_side*, 5 _law_house*, 6 _law_own, 7 _law_number, 8 _law_road
def X__law_ordered : XS :=
    sSeq (sOwn 3 (wOL (wcSub (wOL wcNil) (wcSub (wOL wcNil) wcNil))))
    (sSeq (sFor (wiA rngP (wCons (wM (xC (.int 2))) wNil)) (gName' 4) (sFor (wiA rngP (wCons (wM (xVar 1)) wNil)) (gName' 5) (sSeq (sAsg (gName' 6) (wM (xLc (xiA enumP (xCons (xVar 2) xNil)) (gvTup 2 (gvCons (gvName 7) (gvCons (gvName 8) gvNil))) (xB (xOp eqP (xOp ixP (xVar 8) (xVar 4)) (xVar 5))) (xVar 7) [7, 8])))
    (sAppS 3 (xVar 4) (wCallK 0 F__law_shuffled (wCons (wM (xVar 6)) wNil))))))
    (sFz 3 (sRet (wM (xTup (xCons (xCB (on1 tupP) (xCons (xVar 2) xNil)) (xCons (xCB (on1 tupP) (xCons (xOp ixP (xVar 3) (xC (.int 0))) xNil)) (xCons (xCB (on1 tupP) (xCons (xOp ixP (xVar 3) (xC (.int 1))) xNil)) xNil))))))))
def F__law_ordered : List Cel → List PD → Option (PD × List Cel) := runW 2 6 X__law_ordered
-- _law_room: 0 _law_deck_here, 1 _law_far_here, 2 _law_some
def X__law_room : XS :=
    sSeq (sAsg (gName' 1) (wM (xOp powP (xC (.int 10)) (xC (.int 12)))))
    (sSeq (sOwn 2 (wOL (wcDat (wM (xC (.int 0))) (wcDat (wM (xC (.int 1))) (wcDat (wOp addP (wM (xC (.int 1))) (wCallK 0 F__law_draw (wCons (wM (xC (.int 9))) wNil))) (wcDat (wOp addP (wM (xC (.int 1))) (wCallK 0 F__law_draw (wCons (wM (xC (.int 1000))) wNil))) (wcDat (wOp addP (wM (xC (.int 1))) (wCallK 0 F__law_draw (wCons (wM (xVar 1)) wNil))) wcNil)))))))
    (sSeq (sApp 2 (wOp subP (wM (xVar 1)) (wCallK 0 F__law_draw (wCons (wM (xC (.int 9))) wNil))))
    (sFz 2 (sRet (wOp ixP (wM (xVar 2)) (wCallK 0 F__law_draw (wCons (wM (xC (.int 6))) wNil)))))))
def F__law_room : List Cel → List PD → Option (PD × List Cel) := runW 0 2 X__law_room
-- _law_rounded: 0 _law_deck_here*, 1 _law_rooms, 2 _law_roads, 3 _law_gives, 4 _law_takes, 5 _law_k
def X__law_rounded : XS :=
    sSeq (sAsg (gName' 1) (wFz (wLc (wiA rngP (wCons (wM (xC (.int 8))) wNil)) (gName' 5) (wMT xYes) (wCallK 0 F__law_room wNil) [5])))
    (sSeq (sAsg (gName' 2) (wM (xLst (xCons (xTup (xCons (xC (.int 0)) (xCons (xC (.int 1)) (xCons (xOp ixP (xVar 1) (xC (.int 0))) xNil)))) (xCons (xTup (xCons (xC (.int 0)) (xCons (xC (.int 1)) (xCons (xOp ixP (xVar 1) (xC (.int 1))) xNil)))) (xCons (xTup (xCons (xC (.int 1)) (xCons (xC (.int 0)) (xCons (xOp ixP (xVar 1) (xC (.int 2))) xNil)))) (xCons (xTup (xCons (xC (.int 1)) (xCons (xC (.int 0)) (xCons (xOp ixP (xVar 1) (xC (.int 3))) xNil)))) (xCons (xTup (xCons (xC .none) (xCons (xC (.int 0)) (xCons (xOp ixP (xVar 1) (xC (.int 4))) xNil)))) xNil))))))))
    (sSeq (sAsg (gName' 2) (wM (xOp addP (xVar 2) (xLst (xCons (xTup (xCons (xC (.int 1)) (xCons (xC .none) (xCons (xOp ixP (xVar 1) (xC (.int 5))) xNil)))) (xCons (xTup (xCons (xC .none) (xCons (xC (.int 1)) (xCons (xOp ixP (xVar 1) (xC (.int 6))) xNil)))) (xCons (xTup (xCons (xC (.int 0)) (xCons (xC .none) (xCons (xOp ixP (xVar 1) (xC (.int 7))) xNil)))) xNil)))))))
    (sSeq (sAsg (gName' 3) (wTup (wCons (wCallK 0 F__law_shuffled (wCons (wM (xLst (xCons (xC (.int 0)) (xCons (xC (.int 1)) (xCons (xC (.int 7)) xNil))))) wNil)) (wCons (wCallK 0 F__law_shuffled (wCons (wM (xLst (xCons (xC (.int 2)) (xCons (xC (.int 3)) (xCons (xC (.int 5)) xNil))))) wNil)) wNil))))
    (sSeq (sAsg (gName' 4) (wTup (wCons (wCallK 0 F__law_shuffled (wCons (wM (xLst (xCons (xC (.int 2)) (xCons (xC (.int 3)) (xCons (xC (.int 4)) xNil))))) wNil)) (wCons (wCallK 0 F__law_shuffled (wCons (wM (xLst (xCons (xC (.int 0)) (xCons (xC (.int 1)) (xCons (xC (.int 6)) xNil))))) wNil)) wNil))))
    (sRet (wM (xTup (xCons (xCB (on1 tupP) (xCons (xVar 2) xNil)) (xCons (xVar 3) (xCons (xVar 4) xNil))))))))))
def F__law_rounded : List Cel → List PD → Option (PD × List Cel) := runW 0 5 X__law_rounded
-- _law_far: 0 _law_deck_here*, 1 _law_many*, 2 _law_roads, 3 _law_web, 4 _law_k
def X__law_far : XS :=
    sSeq (sAsg (gName' 1) (wOp addP (wM (xC (.int 1))) (wCallK 0 F__law_draw (wCons (wM (xC (.int 8))) wNil))))
    (sSeq (sAsg (gName' 2) (wFz (wLc (wiA rngP (wCons (wOp addP (wM (xC (.int 1))) (wCallK 0 F__law_draw (wCons (wM (xC (.int 20))) wNil))) wNil)) (gName' 4) (wMT xYes) (wOp addP (wCallK 0 F__law_ends (wCons (wM (xVar 1)) wNil)) (wTup (wCons (wCallK 0 F__law_room wNil) wNil))) [4])))
    (sSeq (sAsg (gName' 3) (wCallK 0 F__law_ordered (wCons (wM (xVar 1)) (wCons (wM (xVar 2)) wNil))))
    (sRet (wIf (wB (wOp eqP (wCallK 0 F__law_draw (wCons (wM (xC (.int 4))) wNil)) (wM (xC (.int 0))))) (wCallK 0 F__law_rounded wNil) (wM (xVar 3))))))
def F__law_far : List Cel → List PD → Option (PD × List Cel) := runW 0 4 X__law_far
-- _law_wide: 0 _law_web, 1 _law_road, 2 _law_room_here, 3 _law_roads
def X__law_wide : XS :=
    sSeq (sOwn 3 (wOM (xUn listP (xOp ixP (xVar 0) (xC (.int 0))))))
    (sSeq (sSet 3 (xVar 1) (wV (xOp addP (xSl (xOp ixP (xVar 3) (xVar 1)) xNoPart (xPart (xC (.int 2)))) (xTup (xCons (xVar 2) xNil)))))
    (sFz 3 (sRet (wM (xTup (xCons (xCB (on1 tupP) (xCons (xVar 3) xNil)) (xCons (xOp ixP (xVar 0) (xC (.int 1))) (xCons (xOp ixP (xVar 0) (xC (.int 2))) xNil))))))))
def F__law_wide : List PD → Option PD := runP 3 1 X__law_wide
-- is_tuple_of: 0 thing, 1 least, 2 most
def X_is_tuple_of : XS :=
    sRet (wM (xAnd (xIsi .tuple (xVar 0)) (xChain leP leP (xVar 1) (xCB (on1 lenP) (xCons (xVar 0) xNil)) (xVar 2))))
def F_is_tuple_of : List PD → Option PD := runP 3 0 X_is_tuple_of
-- is_number: 0 thing
def X_is_number : XS :=
    sRet (wM (xAnd (xIsi .int (xVar 0)) (xNot (xIsi .bool (xVar 0)))))
def F_is_number : List PD → Option PD := runP 1 0 X_is_number
-- is_order: 0 thing, 1 numbers, 2 number
def X_is_order : XS :=
    sRet (wM (xAnd (xIsi .tuple (xVar 0)) (xAnd (xCB (on1 allP) (xCons (xLc (xiE (xVar 0)) (gvName 2) xYes (xCB F_is_number (xCons (xVar 2) xNil)) [2]) xNil)) (xOp eqP (xCB (on1 sortP) (xCons (xVar 0) xNil)) (xVar 1)))))
def F_is_order : List PD → Option PD := runP 2 1 X_is_order
-- order_fault: 0 place, 1 orders, 2 ends, 3 house*, 4 order, 5 road, 6 end
def X_order_fault : XS :=
    sSeq (sFor (wiA enumP (wCons (wM (xVar 1)) wNil)) (gTup' 2 (gCons' (gName' 3) (gCons' (gName' 4) gNil'))) (sIf (wMT (xTNot (xB (xCB F_is_order (xCons (xVar 4) (xCons (xLc (xiA enumP (xCons (xVar 2) xNil)) (gvTup 2 (gvCons (gvName 5) (gvCons (gvName 6) gvNil))) (xB (xOp eqP (xVar 6) (xVar 3))) (xVar 5) [5, 6]) xNil)))))) (sRet (wM (xTup (xCons (xTup (xCons (xVar 0) (xCons (xVar 3) xNil))) (xCons (xC (.str "order")) xNil))))) sNext))
    (sRet (wM (xC .none)))
def F_order_fault : List PD → Option PD := runP 3 4 X_order_fault
-- is_number_to: 0 thing, 1 most
def X_is_number_to : XS :=
    sRet (wM (xAnd (xCB F_is_number (xCons (xVar 0) xNil)) (xChain leP leP (xC (.int 0)) (xVar 0) (xVar 1))))
def F_is_number_to : List PD → Option PD := runP 2 0 X_is_number_to
-- is_end: 0 thing, 1 houses
def X_is_end : XS :=
    sRet (wM (xOr (xOp isP (xVar 0) (xC .none)) (xCB F_is_number_to (xCons (xVar 0) (xCons (xOp subP (xVar 1) (xC (.int 1))) xNil)))))
def F_is_end : List PD → Option PD := runP 2 0 X_is_end
-- road_fault: 0 number, 1 road, 2 houses, 3 begin, 4 end, 5 room
def X_road_fault : XS :=
    sSeq (sIf (wMT (xTNot (xB (xCB F_is_tuple_of (xCons (xVar 1) (xCons (xC (.int 3)) (xCons (xC (.int 3)) xNil))))))) (sRet (wM (xTup (xCons (xTup (xCons (xC (.int 0)) (xCons (xVar 0) xNil))) (xCons (xC (.str "road")) xNil))))) sNext)
    (sSeq (sAsg (gTup' 3 (gCons' (gName' 3) (gCons' (gName' 4) (gCons' (gName' 5) gNil')))) (wM (xVar 1)))
    (sSeq (sIf (wMT (xTNot (xB (xCB F_is_end (xCons (xVar 3) (xCons (xVar 2) xNil)))))) (sRet (wM (xTup (xCons (xTup (xCons (xC (.int 0)) (xCons (xVar 0) (xCons (xC (.int 0)) xNil)))) (xCons (xC (.str "begin")) xNil))))) sNext)
    (sSeq (sIf (wMT (xTNot (xB (xCB F_is_end (xCons (xVar 4) (xCons (xVar 2) xNil)))))) (sRet (wM (xTup (xCons (xTup (xCons (xC (.int 0)) (xCons (xVar 0) (xCons (xC (.int 1)) xNil)))) (xCons (xC (.str "end")) xNil))))) sNext)
    (sSeq (sIf (wMT (xB (xOp eqP (xVar 3) (xVar 4)))) (sRet (wM (xTup (xCons (xTup (xCons (xC (.int 0)) (xCons (xVar 0) xNil))) (xCons (xC (.str "alike")) xNil))))) sNext)
    (sSeq (sIf (wMT (xTNot (xB (xCB F_is_number_to (xCons (xVar 5) (xCons (xC (.int 1000000000000)) xNil)))))) (sRet (wM (xTup (xCons (xTup (xCons (xC (.int 0)) (xCons (xVar 0) (xCons (xC (.int 2)) xNil)))) (xCons (xC (.str "room")) xNil))))) sNext)
    (sRet (wM (xC .none))))))))
def F_road_fault : List PD → Option PD := runP 3 3 X_road_fault
-- webfault: 0 thing, 1 roads, 2 gives, 3 takes, 4 number, 5 road, 6 fault, 7 begin, 8 end, 9 room
def X_webfault : XS :=
    sSeq (sIf (wMT (xTNot (xB (xCB F_is_tuple_of (xCons (xVar 0) (xCons (xC (.int 3)) (xCons (xC (.int 3)) xNil))))))) (sRet (wM (xTup (xCons (xTup xNil) (xCons (xC (.str "web")) xNil))))) sNext)
    (sSeq (sAsg (gTup' 3 (gCons' (gName' 1) (gCons' (gName' 2) (gCons' (gName' 3) gNil')))) (wM (xVar 0)))
    (sSeq (sIf (wMT (xTNot (xB (xCB F_is_tuple_of (xCons (xVar 2) (xCons (xC (.int 1)) (xCons (xC (.int 8)) xNil))))))) (sRet (wM (xTup (xCons (xTup (xCons (xC (.int 1)) xNil)) (xCons (xC (.str "gives")) xNil))))) sNext)
    (sSeq (sIf (wMT (xTNot (xB (xCB F_is_tuple_of (xCons (xVar 3) (xCons (xCB (on1 lenP) (xCons (xVar 2) xNil)) (xCons (xCB (on1 lenP) (xCons (xVar 2) xNil)) xNil))))))) (sRet (wM (xTup (xCons (xTup (xCons (xC (.int 2)) xNil)) (xCons (xC (.str "takes")) xNil))))) sNext)
    (sSeq (sIf (wMT (xTNot (xB (xCB F_is_tuple_of (xCons (xVar 1) (xCons (xC (.int 1)) (xCons (xC (.int 20)) xNil))))))) (sRet (wM (xTup (xCons (xTup (xCons (xC (.int 0)) xNil)) (xCons (xC (.str "roads")) xNil))))) sNext)
    (sSeq (sFor (wiA enumP (wCons (wM (xVar 1)) wNil)) (gTup' 2 (gCons' (gName' 4) (gCons' (gName' 5) gNil'))) (sSeq (sAsg (gName' 6) (wM (xCB F_road_fault (xCons (xVar 4) (xCons (xVar 5) (xCons (xCB (on1 lenP) (xCons (xVar 2) xNil)) xNil))))))
    (sIf (wMT (xB (xOp isntP (xVar 6) (xC .none)))) (sRet (wM (xVar 6))) sNext)))
    (sSeq (sAsg (gName' 6) (wM (xCB F_order_fault (xCons (xC (.int 1)) (xCons (xVar 2) (xCons (xLc (xiE (xVar 1)) (gvTup 3 (gvCons (gvName 7) (gvCons (gvName 8) (gvCons (gvName 9) gvNil)))) xYes (xVar 7) [7, 8, 9]) xNil))))))
    (sSeq (sIf (wMT (xB (xOp isntP (xVar 6) (xC .none)))) (sRet (wM (xVar 6))) sNext)
    (sRet (wM (xCB F_order_fault (xCons (xC (.int 2)) (xCons (xVar 3) (xCons (xLc (xiE (xVar 1)) (gvTup 3 (gvCons (gvName 7) (gvCons (gvName 8) (gvCons (gvName 9) gvNil)))) xYes (xVar 8) [7, 8, 9]) xNil)))))))))))))
def F_webfault : List PD → Option PD := runP 1 9 X_webfault
-- exchanged: 0 things, 1 at, 2 thing
def X_exchanged : XS :=
    sRet (wM (xOp addP (xOp addP (xSl (xVar 0) xNoPart (xPart (xVar 1))) (xTup (xCons (xVar 2) xNil))) (xSl (xVar 0) (xPart (xOp addP (xVar 1) (xC (.int 1)))) xNoPart)))
def F_exchanged : List PD → Option PD := runP 3 0 X_exchanged
-- with_room: 0 web, 1 road, 2 room, 3 begin, 4 end
def X_with_room : XS :=
    sSeq (sAsg (gTup' 2 (gCons' (gName' 3) (gCons' (gName' 4) gNil'))) (wM (xSl (xOp ixP (xOp ixP (xVar 0) (xC (.int 0))) (xVar 1)) xNoPart (xPart (xC (.int 2))))))
    (sRet (wM (xCB F_exchanged (xCons (xVar 0) (xCons (xC (.int 0)) (xCons (xCB F_exchanged (xCons (xOp ixP (xVar 0) (xC (.int 0))) (xCons (xVar 1) (xCons (xTup (xCons (xVar 3) (xCons (xVar 4) (xCons (xVar 2) xNil)))) xNil)))) xNil))))))
def F_with_room : List PD → Option PD := runP 3 2 X_with_room
-- law: 0 _law_script, 1 _law_deck_here, 2 _law_turn, 3 _law_web, 4 _law_kept, 5 _law_number, 6 _law_road, 7 _law_room_here, 8 _law_found
def X_law : XS :=
    sSeq (sOwn 1 (wCallD F__law_deck (wCons (wM (xVar 0)) wNil)))
    (sSeq (sFor (wiA rngP (wCons (wM (xC (.int 3))) wNil)) (gName' 2) (sSeq (sAsg (gName' 3) (wCallK 1 F__law_far wNil))
    (sSeq (sAsg (gName' 4) (wM (xCB (on1 reprP) (xCons (xVar 3) xNil))))
    (sFor (wiA enumP (wCons (wM (xOp ixP (xVar 3) (xC (.int 0)))) wNil)) (gTup' 2 (gCons' (gName' 5) (gCons' (gName' 6) gNil'))) (sFor (wiE (wLst (wCons (wM (xC (.int 0))) (wCons (wM (xC (.int 1))) (wCons (wM (xOp ixP (xVar 6) (xC (.int 2)))) (wCons (wM (xOp powP (xC (.int 10)) (xC (.int 12)))) (wCons (wCallK 1 F__law_room wNil) wNil))))))) (gName' 7) (sSeq (sAsg (gName' 8) (wM (xCB F_with_room (xCons (xVar 3) (xCons (xVar 5) (xCons (xVar 7) xNil))))))
    (sSeq (sIf (wMT (xB (xOp neP (xCB (on1 reprP) (xCons (xVar 8) xNil)) (xCB (on1 reprP) (xCons (xCB F__law_wide (xCons (xVar 3) (xCons (xVar 5) (xCons (xVar 7) xNil)))) xNil))))) (sRet (wM (xC (.bool false)))) sNext)
    (sIf (wMT (xTOr (xB (xOp isntP (xCB F_webfault (xCons (xVar 8) xNil)) (xC .none))) (xB (xOp neP (xCB (on1 reprP) (xCons (xVar 3) xNil)) (xVar 4))))) (sRet (wM (xC (.bool false)))) sNext))))))))
    (sFz 1 (sRet (wM (xC (.bool true))))))
def F_law : List PD → Option PD := runP 1 8 X_law
section
variable [kk : KK]
def T__law_deck : TS :=
    tRet (tLst (tCons (tLc (iSeq K (tSl (rSlU K) (tVar 0) tNoPart (tPart (tC (.int 63))))) (gName 1) tYes (tCB rAbsQ (tCons (tVar 1) tNil)) [1]) (tCons (tC (.int 0)) tNil)))
theorem ss__law_deck : SS T__law_deck X__law_deck :=
    ss_retO (swo_lst (swc_sub (swo_M (sef_lc (si_seq (se_sl se_var sp_none (sp_some se_int))) sgv_name (by decide) st_yes (se_cb sc_abs (sa_cons se_var sa_nil)))) (swc_dat (sw_M se_int) swc_nil)))
def T__law_draw : TS :=
    tSeq (tAsg (tOp (rAddU K) (tOp (rIx K) (tVar 0) (tC (.int 1))) (tC (.int 1))) (gSub (tVar 0) (tC (.int 1)) rSetL))
    (tSeq (tAsg (tC (.int 0)) (gName 2))
    (tSeq (tIfS (tTest (tOp oGt (tCB (rLenQ K) (tCons (tOp (rIx K) (tVar 0) (tC (.int 0))) tNil)) (tC (.int 0)))) (tSeq (tAsg (tOp oMod (tOp (rIx K) (tVar 0) (tC (.int 1))) (tCB (rLenQ K) (tCons (tOp (rIx K) (tVar 0) (tC (.int 0))) tNil))) (gName 3))
    (tSeq (tAsg (tOp (rIx K) (tOp (rIx K) (tVar 0) (tC (.int 0))) (tVar 3)) (gName 2))
    (tIfS (tTest (tOp oGe (tVar 2) (tOp oPow (tC (.int 10)) (tC (.int 18))))) (tSeq (tAsg (tOp oDivW (tVar 2) (tVar 1)) (gSub (tOp (rIx K) (tVar 0) (tC (.int 0))) (tVar 3) rSetL))
    (tRet (tOp oMod (tVar 2) (tVar 1)))) tNext))) tNext)
    (tSeq (tAsg (tOp oMod (tOp oPow (tOp (rAddU K) (tOp (rAddU K) (tOp oMod (tVar 2) (tC (.int 2147483587))) (tOp rMulU (tC (.int 7919)) (tOp (rIx K) (tVar 0) (tC (.int 1))))) (tC (.int 1))) (tC (.int 5))) (tC (.int 2147483647))) (gName 4))
    (tRet (tOp oMod (tOp oDivW (tVar 4) (tC (.int 8))) (tVar 1))))))
theorem ss__law_draw : SS T__law_draw X__law_draw :=
    ss_seq (ss_set se_int (sw_V (se_op so_add (se_op so_ix se_var se_int) se_int)))
    (ss_seq (ss_asg (sg_name (by decide)) (sw_M se_int))
    (ss_seq (ss_if (swt_V (st_test (se_op so_gt (se_cb sc_len (sa_cons (se_op so_ix se_var se_int) sa_nil)) se_int))) (ss_seq (ss_asg (sg_name (by decide)) (sw_V (se_op so_mod (se_op so_ix se_var se_int) (se_cb sc_len (sa_cons (se_op so_ix se_var se_int) sa_nil)))))
    (ss_seq (ss_asg (sg_name (by decide)) (sw_V (se_op so_ix (se_op so_ix se_var se_int) se_var)))
    (ss_if (swt_M (st_test (se_op so_ge se_var (se_op so_pow se_int se_int)))) (ss_seq (ss_setS se_int se_var (sw_M (se_op so_div se_var se_var)))
    (ss_ret (sw_M (se_op so_mod se_var se_var)))) ss_next))) ss_next)
    (ss_seq (ss_asg (sg_name (by decide)) (sw_V (se_op so_mod (se_op so_pow (se_op so_add (se_op so_add (se_op so_mod se_var se_int) (se_op so_mul se_int (se_op so_ix se_var se_int))) se_int) se_int) se_int)))
    (ss_ret (sw_M (se_op so_mod (se_op so_div se_var se_int) se_var))))))
def T__law_ends : TS :=
    tSeq (tPar 2 3 (tCons (tCall (spW F__law_draw) [] E0 (tCons (tVar 0) (tCons (tC (.int 5)) tNil))) (tCons (tCall (spW F__law_draw) [] E0 (tCons (tVar 0) (tCons (tVar 1) tNil))) tNil)))
    (tSeq (tIfS (tOr (tTest (tOp (rEqD K) (tVar 2) (tC (.int 0)))) (tAnd (tTest (tOp (rEqD K) (tVar 1) (tC (.int 1)))) (tTest (tOp oLt (tVar 2) (tC (.int 3)))))) (tRet (tTupF (tCons (tC .non) (tCons (tVar 3) tNil)))) tNext)
    (tSeq (tIfS (tOr (tTest (tOp (rEqD K) (tVar 2) (tC (.int 1)))) (tTest (tOp (rEqD K) (tVar 1) (tC (.int 1))))) (tRet (tTupF (tCons (tVar 3) (tCons (tC .non) tNil)))) tNext)
    (tRet (tTupF (tCons (tVar 3) (tCons (tOp oMod (tOp (rAddU K) (tOp (rAddU K) (tVar 3) (tC (.int 1))) (tCall (spW F__law_draw) [] E0 (tCons (tVar 0) (tCons (tOp oSub (tVar 1) (tC (.int 1))) tNil)))) (tVar 1)) tNil))))))
theorem ss__law_ends : SS T__law_ends X__law_ends :=
    ss_seq (ss_par (by decide) (by decide) (swc_dat (sw_callK (swa_cons (sw_M se_int) swa_nil)) (swc_dat (sw_callK (swa_cons (sw_M se_var) swa_nil)) swc_nil)))
    (ss_seq (ss_if (swt_M (st_or (st_test (se_op so_eq se_var se_int)) (st_and (st_test (se_op so_eq se_var se_int)) (st_test (se_op so_lt se_var se_int))))) (ss_ret (sw_M (se_tup (sa_cons se_non (sa_cons se_var sa_nil))))) ss_next)
    (ss_seq (ss_if (swt_M (st_or (st_test (se_op so_eq se_var se_int)) (st_test (se_op so_eq se_var se_int)))) (ss_ret (sw_M (se_tup (sa_cons se_var (sa_cons se_non sa_nil))))) ss_next)
    (ss_ret (sw_tup (swa_cons (sw_M se_var) (swa_cons (sw_op so_mod (sw_op so_add (sw_M (se_op so_add se_var se_int)) (sw_callK (swa_cons (sw_M (se_op so_sub se_var se_int)) swa_nil))) (sw_M se_var)) swa_nil))))))
def T__law_shuffled : TS :=
    tSeq (tAsg (tCB (rListQ K) (tCons (tVar 1) tNil)) (gName 2))
    (tSeq (tAsg (tLst tNil) (gName 3))
    (tSeq (tWhile (tTest (tOp (rNeD K) (tVar 2) (tLst tNil))) (tDrop (tBM K "list" rAppend (tVar 3) (tCons (tBM K "list" rPopAt (tVar 2) (tCons (tCall (spW F__law_draw) [] E0 (tCons (tVar 0) (tCons (tCB (rLenQ K) (tCons (tVar 2) tNil)) tNil))) tNil)) tNil))))
    (tRet (tCB (rTupF K) (tCons (tVar 3) tNil)))))
theorem ss__law_shuffled : SS T__law_shuffled X__law_shuffled :=
    ss_seq (ss_own (by decide) (swo_M (sef_list se_var)))
    (ss_seq (ss_own (by decide) (swo_lst swc_nil))
    (ss_seq (ss_while (swt_V (st_test (se_op so_ne se_var (SEF.se (sef_lst sa_nil))))) (ss_app (sw_pop (sw_callK (swa_cons (sw_V (se_cb sc_len (sa_cons se_var sa_nil))) swa_nil)))))
    (ss_fz (ss_fz (ss_ret (sw_M (se_cb sc_tup (sa_cons se_var sa_nil))))))))
def T__law_ordered : TS :=
    tSeq (tAsg (tLst (tCons (tLst tNil) (tCons (tLst tNil) tNil))) (gName 3))
    (tSeq (tFor (iRng1 (tCons (tC (.int 2)) tNil)) (gName 4) (tFor (iRng1 (tCons (tVar 1) tNil)) (gName 5) (tSeq (tAsg (tLc (iEnumU K (tCons (tVar 2) tNil)) (gTU K 2 (gCons (gName 7) (gCons (gName 8) gNil))) (tTest (tOp (rEqD K) (tOp (rIx K) (tVar 8) (tVar 4)) (tVar 5))) (tVar 7) [7, 8]) (gName 6))
    (tDrop (tBM K "list" rAppend (tOp (rIx K) (tVar 3) (tVar 4)) (tCons (tCall (spW F__law_shuffled) [] E0 (tCons (tVar 0) (tCons (tVar 6) tNil))) tNil))))))
    (tRet (tTupF (tCons (tCB (rTupF K) (tCons (tVar 2) tNil)) (tCons (tCB (rTupF K) (tCons (tOp (rIx K) (tVar 3) (tC (.int 0))) tNil)) (tCons (tCB (rTupF K) (tCons (tOp (rIx K) (tVar 3) (tC (.int 1))) tNil)) tNil))))))
theorem ss__law_ordered : SS T__law_ordered X__law_ordered :=
    ss_seq (ss_own (by decide) (swo_lst (swc_sub (swo_lst swc_nil) (swc_sub (swo_lst swc_nil) swc_nil))))
    (ss_seq (ss_for (swi_rng (swa_cons (sw_M se_int) swa_nil)) (sg_name (by decide)) (ss_for (swi_rng (swa_cons (sw_M se_var) swa_nil)) (sg_name (by decide)) (ss_seq (ss_asg (sg_name (by decide)) (sw_M (SEF.se (sef_lc (si_enum (sa_cons se_var sa_nil)) (sgv_tup (sgv_cons sgv_name (sgv_cons sgv_name sgv_nil))) (by decide) (st_test (se_op so_eq (se_op so_ix se_var se_var) se_var)) se_var))))
    (ss_appS (by decide) se_var (sw_callK (swa_cons (sw_M se_var) swa_nil))))))
    (ss_fz (ss_ret (sw_M (se_tup (sa_cons (se_cb sc_tup (sa_cons se_var sa_nil)) (sa_cons (se_cb sc_tup (sa_cons (se_op so_ix se_var se_int) sa_nil)) (sa_cons (se_cb sc_tup (sa_cons (se_op so_ix se_var se_int) sa_nil)) sa_nil))))))))
def T__law_room : TS :=
    tSeq (tAsg (tOp oPow (tC (.int 10)) (tC (.int 12))) (gName 1))
    (tSeq (tAsg (tLst (tCons (tC (.int 0)) (tCons (tC (.int 1)) (tCons (tOp (rAddU K) (tC (.int 1)) (tCall (spW F__law_draw) [] E0 (tCons (tVar 0) (tCons (tC (.int 9)) tNil)))) (tCons (tOp (rAddU K) (tC (.int 1)) (tCall (spW F__law_draw) [] E0 (tCons (tVar 0) (tCons (tC (.int 1000)) tNil)))) (tCons (tOp (rAddU K) (tC (.int 1)) (tCall (spW F__law_draw) [] E0 (tCons (tVar 0) (tCons (tVar 1) tNil)))) tNil)))))) (gName 2))
    (tSeq (tDrop (tBM K "list" rAppend (tVar 2) (tCons (tOp oSub (tVar 1) (tCall (spW F__law_draw) [] E0 (tCons (tVar 0) (tCons (tC (.int 9)) tNil)))) tNil)))
    (tRet (tOp (rIx K) (tVar 2) (tCall (spW F__law_draw) [] E0 (tCons (tVar 0) (tCons (tC (.int 6)) tNil)))))))
theorem ss__law_room : SS T__law_room X__law_room :=
    ss_seq (ss_asg (sg_name (by decide)) (sw_M (se_op so_pow se_int se_int)))
    (ss_seq (ss_own (by decide) (swo_lst (swc_dat (sw_M se_int) (swc_dat (sw_M se_int) (swc_dat (sw_op so_add (sw_M se_int) (sw_callK (swa_cons (sw_M se_int) swa_nil))) (swc_dat (sw_op so_add (sw_M se_int) (sw_callK (swa_cons (sw_M se_int) swa_nil))) (swc_dat (sw_op so_add (sw_M se_int) (sw_callK (swa_cons (sw_M se_var) swa_nil))) swc_nil)))))))
    (ss_seq (ss_app (sw_op so_sub (sw_M se_var) (sw_callK (swa_cons (sw_M se_int) swa_nil))))
    (ss_fz (ss_ret (sw_op so_ix (sw_M se_var) (sw_callK (swa_cons (sw_M se_int) swa_nil)))))))
def T__law_rounded : TS :=
    tSeq (tAsg (tLc (iRng1 (tCons (tC (.int 8)) tNil)) (gName 5) tYes (tCall (spW F__law_room) [] E0 (tCons (tVar 0) tNil)) [5]) (gName 1))
    (tSeq (tAsg (tLst (tCons (tTupF (tCons (tC (.int 0)) (tCons (tC (.int 1)) (tCons (tOp (rIx K) (tVar 1) (tC (.int 0))) tNil)))) (tCons (tTupF (tCons (tC (.int 0)) (tCons (tC (.int 1)) (tCons (tOp (rIx K) (tVar 1) (tC (.int 1))) tNil)))) (tCons (tTupF (tCons (tC (.int 1)) (tCons (tC (.int 0)) (tCons (tOp (rIx K) (tVar 1) (tC (.int 2))) tNil)))) (tCons (tTupF (tCons (tC (.int 1)) (tCons (tC (.int 0)) (tCons (tOp (rIx K) (tVar 1) (tC (.int 3))) tNil)))) (tCons (tTupF (tCons (tC .non) (tCons (tC (.int 0)) (tCons (tOp (rIx K) (tVar 1) (tC (.int 4))) tNil)))) tNil)))))) (gName 2))
    (tSeq (tAsg (tOp (rAddU K) (tVar 2) (tLst (tCons (tTupF (tCons (tC (.int 1)) (tCons (tC .non) (tCons (tOp (rIx K) (tVar 1) (tC (.int 5))) tNil)))) (tCons (tTupF (tCons (tC .non) (tCons (tC (.int 1)) (tCons (tOp (rIx K) (tVar 1) (tC (.int 6))) tNil)))) (tCons (tTupF (tCons (tC (.int 0)) (tCons (tC .non) (tCons (tOp (rIx K) (tVar 1) (tC (.int 7))) tNil)))) tNil))))) (gName 2))
    (tSeq (tAsg (tTupF (tCons (tCall (spW F__law_shuffled) [] E0 (tCons (tVar 0) (tCons (tLst (tCons (tC (.int 0)) (tCons (tC (.int 1)) (tCons (tC (.int 7)) tNil)))) tNil))) (tCons (tCall (spW F__law_shuffled) [] E0 (tCons (tVar 0) (tCons (tLst (tCons (tC (.int 2)) (tCons (tC (.int 3)) (tCons (tC (.int 5)) tNil)))) tNil))) tNil))) (gName 3))
    (tSeq (tAsg (tTupF (tCons (tCall (spW F__law_shuffled) [] E0 (tCons (tVar 0) (tCons (tLst (tCons (tC (.int 2)) (tCons (tC (.int 3)) (tCons (tC (.int 4)) tNil)))) tNil))) (tCons (tCall (spW F__law_shuffled) [] E0 (tCons (tVar 0) (tCons (tLst (tCons (tC (.int 0)) (tCons (tC (.int 1)) (tCons (tC (.int 6)) tNil)))) tNil))) tNil))) (gName 4))
    (tRet (tTupF (tCons (tCB (rTupF K) (tCons (tVar 2) tNil)) (tCons (tVar 3) (tCons (tVar 4) tNil)))))))))
theorem ss__law_rounded : SS T__law_rounded X__law_rounded :=
    ss_seq (ss_asg (sg_name (by decide)) (sw_fz (swo_lc (swi_rng (swa_cons (sw_M se_int) swa_nil)) (sg_name (by decide)) (by decide) (by decide) (swt_M st_yes) (sw_callK swa_nil))))
    (ss_seq (ss_asg (sg_name (by decide)) (sw_M (SEF.se (sef_lst (sa_cons (se_tup (sa_cons se_int (sa_cons se_int (sa_cons (se_op so_ix se_var se_int) sa_nil)))) (sa_cons (se_tup (sa_cons se_int (sa_cons se_int (sa_cons (se_op so_ix se_var se_int) sa_nil)))) (sa_cons (se_tup (sa_cons se_int (sa_cons se_int (sa_cons (se_op so_ix se_var se_int) sa_nil)))) (sa_cons (se_tup (sa_cons se_int (sa_cons se_int (sa_cons (se_op so_ix se_var se_int) sa_nil)))) (sa_cons (se_tup (sa_cons se_non (sa_cons se_int (sa_cons (se_op so_ix se_var se_int) sa_nil)))) sa_nil)))))))))
    (ss_seq (ss_asg (sg_name (by decide)) (sw_M (se_op so_add se_var (SEF.se (sef_lst (sa_cons (se_tup (sa_cons se_int (sa_cons se_non (sa_cons (se_op so_ix se_var se_int) sa_nil)))) (sa_cons (se_tup (sa_cons se_non (sa_cons se_int (sa_cons (se_op so_ix se_var se_int) sa_nil)))) (sa_cons (se_tup (sa_cons se_int (sa_cons se_non (sa_cons (se_op so_ix se_var se_int) sa_nil)))) sa_nil))))))))
    (ss_seq (ss_asg (sg_name (by decide)) (sw_tup (swa_cons (sw_callK (swa_cons (sw_M (SEF.se (sef_lst (sa_cons se_int (sa_cons se_int (sa_cons se_int sa_nil)))))) swa_nil)) (swa_cons (sw_callK (swa_cons (sw_M (SEF.se (sef_lst (sa_cons se_int (sa_cons se_int (sa_cons se_int sa_nil)))))) swa_nil)) swa_nil))))
    (ss_seq (ss_asg (sg_name (by decide)) (sw_tup (swa_cons (sw_callK (swa_cons (sw_M (SEF.se (sef_lst (sa_cons se_int (sa_cons se_int (sa_cons se_int sa_nil)))))) swa_nil)) (swa_cons (sw_callK (swa_cons (sw_M (SEF.se (sef_lst (sa_cons se_int (sa_cons se_int (sa_cons se_int sa_nil)))))) swa_nil)) swa_nil))))
    (ss_ret (sw_M (se_tup (sa_cons (se_cb sc_tup (sa_cons se_var sa_nil)) (sa_cons se_var (sa_cons se_var sa_nil))))))))))
def T__law_far : TS :=
    tSeq (tAsg (tOp (rAddU K) (tC (.int 1)) (tCall (spW F__law_draw) [] E0 (tCons (tVar 0) (tCons (tC (.int 8)) tNil)))) (gName 1))
    (tSeq (tAsg (tLc (iRng1 (tCons (tOp (rAddU K) (tC (.int 1)) (tCall (spW F__law_draw) [] E0 (tCons (tVar 0) (tCons (tC (.int 20)) tNil)))) tNil)) (gName 4) tYes (tOp (rAddU K) (tCall (spW F__law_ends) [] E0 (tCons (tVar 0) (tCons (tVar 1) tNil))) (tTupF (tCons (tCall (spW F__law_room) [] E0 (tCons (tVar 0) tNil)) tNil))) [4]) (gName 2))
    (tSeq (tAsg (tCall (spW F__law_ordered) [] E0 (tCons (tVar 0) (tCons (tVar 1) (tCons (tVar 2) tNil)))) (gName 3))
    (tRet (tIf (tTest (tOp (rEqD K) (tCall (spW F__law_draw) [] E0 (tCons (tVar 0) (tCons (tC (.int 4)) tNil))) (tC (.int 0)))) (tCall (spW F__law_rounded) [] E0 (tCons (tVar 0) tNil)) (tVar 3)))))
theorem ss__law_far : SS T__law_far X__law_far :=
    ss_seq (ss_asg (sg_name (by decide)) (sw_op so_add (sw_M se_int) (sw_callK (swa_cons (sw_M se_int) swa_nil))))
    (ss_seq (ss_asg (sg_name (by decide)) (sw_fz (swo_lc (swi_rng (swa_cons (sw_op so_add (sw_M se_int) (sw_callK (swa_cons (sw_M se_int) swa_nil))) swa_nil)) (sg_name (by decide)) (by decide) (by decide) (swt_M st_yes) (sw_op so_add (sw_callK (swa_cons (sw_M se_var) swa_nil)) (sw_tup (swa_cons (sw_callK swa_nil) swa_nil))))))
    (ss_seq (ss_asg (sg_name (by decide)) (sw_callK (swa_cons (sw_M se_var) (swa_cons (sw_M se_var) swa_nil))))
    (ss_ret (sw_if (swt_test (sw_op so_eq (sw_callK (swa_cons (sw_M se_int) swa_nil)) (sw_M se_int))) (sw_callK swa_nil) (sw_M se_var)))))
def T__law_wide : TS :=
    tSeq (tAsg (tCB (rListQ K) (tCons (tOp (rIx K) (tVar 0) (tC (.int 0))) tNil)) (gName 3))
    (tSeq (tAsg (tOp (rAddU K) (tSl (rSlU K) (tOp (rIx K) (tVar 3) (tVar 1)) tNoPart (tPart (tC (.int 2)))) (tTupF (tCons (tVar 2) tNil))) (gSub (tVar 3) (tVar 1) rSetL))
    (tRet (tTupF (tCons (tCB (rTupF K) (tCons (tVar 3) tNil)) (tCons (tOp (rIx K) (tVar 0) (tC (.int 1))) (tCons (tOp (rIx K) (tVar 0) (tC (.int 2))) tNil))))))
theorem ss__law_wide : SS T__law_wide X__law_wide :=
    ss_seq (ss_own (by decide) (swo_M (sef_list (se_op so_ix se_var se_int))))
    (ss_seq (ss_set se_var (sw_V (se_op so_add (se_sl (se_op so_ix se_var se_var) sp_none (sp_some se_int)) (se_tup (sa_cons se_var sa_nil)))))
    (ss_fz (ss_ret (sw_M (se_tup (sa_cons (se_cb sc_tup (sa_cons se_var sa_nil)) (sa_cons (se_op so_ix se_var se_int) (sa_cons (se_op so_ix se_var se_int) sa_nil))))))))
def T_is_tuple_of : TS :=
    tRet (tAndV (tCB (rIsi K) (tCons (tVar 0) (tCons (tC (.ty "tuple")) tNil))) (tChain oLe oLe (tVar 1) (tCB (rLenQ K) (tCons (tVar 0) tNil)) (tVar 2)))
theorem ss_is_tuple_of : SS T_is_tuple_of X_is_tuple_of :=
    ss_ret (sw_M (se_and (se_isi .tuple rfl se_var) (se_chain so_le so_le se_var (se_cb sc_len (sa_cons se_var sa_nil)) se_var)))
def T_is_number : TS :=
    tRet (tAndV (tCB (rIsi K) (tCons (tVar 0) (tCons (tC (.ty "int")) tNil))) (tNotV (tCB (rIsi K) (tCons (tVar 0) (tCons (tC (.ty "bool")) tNil)))))
theorem ss_is_number : SS T_is_number X_is_number :=
    ss_ret (sw_M (se_and (se_isi .int rfl se_var) (se_not (se_isi .bool rfl se_var))))
def T_is_order : TS :=
    tRet (tAndV (tCB (rIsi K) (tCons (tVar 0) (tCons (tC (.ty "tuple")) tNil))) (tAndV (tCB (rAll K) (tCons (tLc (iSeq K (tVar 0)) (gName 2) tYes (tCall (spF F_is_number) [] E0 (tCons (tVar 2) tNil)) [2]) tNil)) (tOp (rEqD K) (tCB (rSortedU K) (tCons (tVar 0) tNil)) (tVar 1))))
theorem ss_is_order : SS T_is_order X_is_order :=
    ss_ret (sw_M (se_and (se_isi .tuple rfl se_var) (se_and (se_cb sc_all (sa_cons (SEF.se (sef_lc (si_seq se_var) sgv_name (by decide) st_yes (se_call (sa_cons se_var sa_nil)))) sa_nil)) (se_op so_eq (se_cb sc_sort (sa_cons se_var sa_nil)) se_var))))
def T_order_fault : TS :=
    tSeq (tFor (iEnumU K (tCons (tVar 1) tNil)) (gTU K 2 (gCons (gName 3) (gCons (gName 4) gNil))) (tIfS (tNot (tB (tCall (spF F_is_order) [] E0 (tCons (tVar 4) (tCons (tLc (iEnumU K (tCons (tVar 2) tNil)) (gTU K 2 (gCons (gName 5) (gCons (gName 6) gNil))) (tTest (tOp (rEqD K) (tVar 6) (tVar 3))) (tVar 5) [5, 6]) tNil))))) (tRet (tTupF (tCons (tTupF (tCons (tVar 0) (tCons (tVar 3) tNil))) (tCons (tC (.str "order")) tNil)))) tNext))
    (tRet (tC .non))
theorem ss_order_fault : SS T_order_fault X_order_fault :=
    ss_seq (ss_for (swi_enum (swa_cons (sw_M se_var) swa_nil)) (sg_tup (sg_cons (sg_name (by decide)) (sg_cons (sg_name (by decide)) sg_nil))) (ss_if (swt_M (st_not (st_B (se_call (sa_cons se_var (sa_cons (SEF.se (sef_lc (si_enum (sa_cons se_var sa_nil)) (sgv_tup (sgv_cons sgv_name (sgv_cons sgv_name sgv_nil))) (by decide) (st_test (se_op so_eq se_var se_var)) se_var)) sa_nil)))))) (ss_ret (sw_M (se_tup (sa_cons (se_tup (sa_cons se_var (sa_cons se_var sa_nil))) (sa_cons se_str sa_nil))))) ss_next))
    (ss_ret (sw_M se_non))
def T_is_number_to : TS :=
    tRet (tAndV (tCall (spF F_is_number) [] E0 (tCons (tVar 0) tNil)) (tChain oLe oLe (tC (.int 0)) (tVar 0) (tVar 1)))
theorem ss_is_number_to : SS T_is_number_to X_is_number_to :=
    ss_ret (sw_M (se_and (se_call (sa_cons se_var sa_nil)) (se_chain so_le so_le se_int se_var se_var)))
def T_is_end : TS :=
    tRet (tOrV (tOp oIsN (tVar 0) (tC .non)) (tCall (spF F_is_number_to) [] E0 (tCons (tVar 0) (tCons (tOp oSub (tVar 1) (tC (.int 1))) tNil))))
theorem ss_is_end : SS T_is_end X_is_end :=
    ss_ret (sw_M (se_or (se_op so_is se_var se_non) (se_call (sa_cons se_var (sa_cons (se_op so_sub se_var se_int) sa_nil)))))
def T_road_fault : TS :=
    tSeq (tIfS (tNot (tB (tCall (spF F_is_tuple_of) [] E0 (tCons (tVar 1) (tCons (tC (.int 3)) (tCons (tC (.int 3)) tNil)))))) (tRet (tTupF (tCons (tTupF (tCons (tC (.int 0)) (tCons (tVar 0) tNil))) (tCons (tC (.str "road")) tNil)))) tNext)
    (tSeq (tAsg (tVar 1) (gTU K 3 (gCons (gName 3) (gCons (gName 4) (gCons (gName 5) gNil)))))
    (tSeq (tIfS (tNot (tB (tCall (spF F_is_end) [] E0 (tCons (tVar 3) (tCons (tVar 2) tNil))))) (tRet (tTupF (tCons (tTupF (tCons (tC (.int 0)) (tCons (tVar 0) (tCons (tC (.int 0)) tNil)))) (tCons (tC (.str "begin")) tNil)))) tNext)
    (tSeq (tIfS (tNot (tB (tCall (spF F_is_end) [] E0 (tCons (tVar 4) (tCons (tVar 2) tNil))))) (tRet (tTupF (tCons (tTupF (tCons (tC (.int 0)) (tCons (tVar 0) (tCons (tC (.int 1)) tNil)))) (tCons (tC (.str "end")) tNil)))) tNext)
    (tSeq (tIfS (tTest (tOp (rEqD K) (tVar 3) (tVar 4))) (tRet (tTupF (tCons (tTupF (tCons (tC (.int 0)) (tCons (tVar 0) tNil))) (tCons (tC (.str "alike")) tNil)))) tNext)
    (tSeq (tIfS (tNot (tB (tCall (spF F_is_number_to) [] E0 (tCons (tVar 5) (tCons (tC (.int 1000000000000)) tNil))))) (tRet (tTupF (tCons (tTupF (tCons (tC (.int 0)) (tCons (tVar 0) (tCons (tC (.int 2)) tNil)))) (tCons (tC (.str "room")) tNil)))) tNext)
    (tRet (tC .non)))))))
theorem ss_road_fault : SS T_road_fault X_road_fault :=
    ss_seq (ss_if (swt_M (st_not (st_B (se_call (sa_cons se_var (sa_cons se_int (sa_cons se_int sa_nil))))))) (ss_ret (sw_M (se_tup (sa_cons (se_tup (sa_cons se_int (sa_cons se_var sa_nil))) (sa_cons se_str sa_nil))))) ss_next)
    (ss_seq (ss_asg (sg_tup (sg_cons (sg_name (by decide)) (sg_cons (sg_name (by decide)) (sg_cons (sg_name (by decide)) sg_nil)))) (sw_M se_var))
    (ss_seq (ss_if (swt_M (st_not (st_B (se_call (sa_cons se_var (sa_cons se_var sa_nil)))))) (ss_ret (sw_M (se_tup (sa_cons (se_tup (sa_cons se_int (sa_cons se_var (sa_cons se_int sa_nil)))) (sa_cons se_str sa_nil))))) ss_next)
    (ss_seq (ss_if (swt_M (st_not (st_B (se_call (sa_cons se_var (sa_cons se_var sa_nil)))))) (ss_ret (sw_M (se_tup (sa_cons (se_tup (sa_cons se_int (sa_cons se_var (sa_cons se_int sa_nil)))) (sa_cons se_str sa_nil))))) ss_next)
    (ss_seq (ss_if (swt_M (st_test (se_op so_eq se_var se_var))) (ss_ret (sw_M (se_tup (sa_cons (se_tup (sa_cons se_int (sa_cons se_var sa_nil))) (sa_cons se_str sa_nil))))) ss_next)
    (ss_seq (ss_if (swt_M (st_not (st_B (se_call (sa_cons se_var (sa_cons se_int sa_nil)))))) (ss_ret (sw_M (se_tup (sa_cons (se_tup (sa_cons se_int (sa_cons se_var (sa_cons se_int sa_nil)))) (sa_cons se_str sa_nil))))) ss_next)
    (ss_ret (sw_M se_non)))))))
def T_webfault : TS :=
    tSeq (tIfS (tNot (tB (tCall (spF F_is_tuple_of) [] E0 (tCons (tVar 0) (tCons (tC (.int 3)) (tCons (tC (.int 3)) tNil)))))) (tRet (tTupF (tCons (tTupF tNil) (tCons (tC (.str "web")) tNil)))) tNext)
    (tSeq (tAsg (tVar 0) (gTU K 3 (gCons (gName 1) (gCons (gName 2) (gCons (gName 3) gNil)))))
    (tSeq (tIfS (tNot (tB (tCall (spF F_is_tuple_of) [] E0 (tCons (tVar 2) (tCons (tC (.int 1)) (tCons (tC (.int 8)) tNil)))))) (tRet (tTupF (tCons (tTupF (tCons (tC (.int 1)) tNil)) (tCons (tC (.str "gives")) tNil)))) tNext)
    (tSeq (tIfS (tNot (tB (tCall (spF F_is_tuple_of) [] E0 (tCons (tVar 3) (tCons (tCB (rLenQ K) (tCons (tVar 2) tNil)) (tCons (tCB (rLenQ K) (tCons (tVar 2) tNil)) tNil)))))) (tRet (tTupF (tCons (tTupF (tCons (tC (.int 2)) tNil)) (tCons (tC (.str "takes")) tNil)))) tNext)
    (tSeq (tIfS (tNot (tB (tCall (spF F_is_tuple_of) [] E0 (tCons (tVar 1) (tCons (tC (.int 1)) (tCons (tC (.int 20)) tNil)))))) (tRet (tTupF (tCons (tTupF (tCons (tC (.int 0)) tNil)) (tCons (tC (.str "roads")) tNil)))) tNext)
    (tSeq (tFor (iEnumU K (tCons (tVar 1) tNil)) (gTU K 2 (gCons (gName 4) (gCons (gName 5) gNil))) (tSeq (tAsg (tCall (spF F_road_fault) [] E0 (tCons (tVar 4) (tCons (tVar 5) (tCons (tCB (rLenQ K) (tCons (tVar 2) tNil)) tNil)))) (gName 6))
    (tIfS (tTest (tOp oNotN (tVar 6) (tC .non))) (tRet (tVar 6)) tNext)))
    (tSeq (tAsg (tCall (spF F_order_fault) [] E0 (tCons (tC (.int 1)) (tCons (tVar 2) (tCons (tLc (iSeq K (tVar 1)) (gTU K 3 (gCons (gName 7) (gCons (gName 8) (gCons (gName 9) gNil)))) tYes (tVar 7) [7, 8, 9]) tNil)))) (gName 6))
    (tSeq (tIfS (tTest (tOp oNotN (tVar 6) (tC .non))) (tRet (tVar 6)) tNext)
    (tRet (tCall (spF F_order_fault) [] E0 (tCons (tC (.int 2)) (tCons (tVar 3) (tCons (tLc (iSeq K (tVar 1)) (gTU K 3 (gCons (gName 7) (gCons (gName 8) (gCons (gName 9) gNil)))) tYes (tVar 8) [7, 8, 9]) tNil))))))))))))
theorem ss_webfault : SS T_webfault X_webfault :=
    ss_seq (ss_if (swt_M (st_not (st_B (se_call (sa_cons se_var (sa_cons se_int (sa_cons se_int sa_nil))))))) (ss_ret (sw_M (se_tup (sa_cons (se_tup sa_nil) (sa_cons se_str sa_nil))))) ss_next)
    (ss_seq (ss_asg (sg_tup (sg_cons (sg_name (by decide)) (sg_cons (sg_name (by decide)) (sg_cons (sg_name (by decide)) sg_nil)))) (sw_M se_var))
    (ss_seq (ss_if (swt_M (st_not (st_B (se_call (sa_cons se_var (sa_cons se_int (sa_cons se_int sa_nil))))))) (ss_ret (sw_M (se_tup (sa_cons (se_tup (sa_cons se_int sa_nil)) (sa_cons se_str sa_nil))))) ss_next)
    (ss_seq (ss_if (swt_M (st_not (st_B (se_call (sa_cons se_var (sa_cons (se_cb sc_len (sa_cons se_var sa_nil)) (sa_cons (se_cb sc_len (sa_cons se_var sa_nil)) sa_nil))))))) (ss_ret (sw_M (se_tup (sa_cons (se_tup (sa_cons se_int sa_nil)) (sa_cons se_str sa_nil))))) ss_next)
    (ss_seq (ss_if (swt_M (st_not (st_B (se_call (sa_cons se_var (sa_cons se_int (sa_cons se_int sa_nil))))))) (ss_ret (sw_M (se_tup (sa_cons (se_tup (sa_cons se_int sa_nil)) (sa_cons se_str sa_nil))))) ss_next)
    (ss_seq (ss_for (swi_enum (swa_cons (sw_M se_var) swa_nil)) (sg_tup (sg_cons (sg_name (by decide)) (sg_cons (sg_name (by decide)) sg_nil))) (ss_seq (ss_asg (sg_name (by decide)) (sw_M (se_call (sa_cons se_var (sa_cons se_var (sa_cons (se_cb sc_len (sa_cons se_var sa_nil)) sa_nil))))))
    (ss_if (swt_M (st_test (se_op so_isnt se_var se_non))) (ss_ret (sw_M se_var)) ss_next)))
    (ss_seq (ss_asg (sg_name (by decide)) (sw_M (se_call (sa_cons se_int (sa_cons se_var (sa_cons (SEF.se (sef_lc (si_seq se_var) (sgv_tup (sgv_cons sgv_name (sgv_cons sgv_name (sgv_cons sgv_name sgv_nil)))) (by decide) st_yes se_var)) sa_nil))))))
    (ss_seq (ss_if (swt_M (st_test (se_op so_isnt se_var se_non))) (ss_ret (sw_M se_var)) ss_next)
    (ss_ret (sw_M (se_call (sa_cons se_int (sa_cons se_var (sa_cons (SEF.se (sef_lc (si_seq se_var) (sgv_tup (sgv_cons sgv_name (sgv_cons sgv_name (sgv_cons sgv_name sgv_nil)))) (by decide) st_yes se_var)) sa_nil)))))))))))))
def T_exchanged : TS :=
    tRet (tOp (rAddU K) (tOp (rAddU K) (tSl (rSlU K) (tVar 0) tNoPart (tPart (tVar 1))) (tTupF (tCons (tVar 2) tNil))) (tSl (rSlU K) (tVar 0) (tPart (tOp (rAddU K) (tVar 1) (tC (.int 1)))) tNoPart))
theorem ss_exchanged : SS T_exchanged X_exchanged :=
    ss_ret (sw_M (se_op so_add (se_op so_add (se_sl se_var sp_none (sp_some se_var)) (se_tup (sa_cons se_var sa_nil))) (se_sl se_var (sp_some (se_op so_add se_var se_int)) sp_none)))
def T_with_room : TS :=
    tSeq (tAsg (tSl (rSlU K) (tOp (rIx K) (tOp (rIx K) (tVar 0) (tC (.int 0))) (tVar 1)) tNoPart (tPart (tC (.int 2)))) (gTU K 2 (gCons (gName 3) (gCons (gName 4) gNil))))
    (tRet (tCall (spF F_exchanged) [] E0 (tCons (tVar 0) (tCons (tC (.int 0)) (tCons (tCall (spF F_exchanged) [] E0 (tCons (tOp (rIx K) (tVar 0) (tC (.int 0))) (tCons (tVar 1) (tCons (tTupF (tCons (tVar 3) (tCons (tVar 4) (tCons (tVar 2) tNil)))) tNil)))) tNil)))))
theorem ss_with_room : SS T_with_room X_with_room :=
    ss_seq (ss_asg (sg_tup (sg_cons (sg_name (by decide)) (sg_cons (sg_name (by decide)) sg_nil))) (sw_M (se_sl (se_op so_ix (se_op so_ix se_var se_int) se_var) sp_none (sp_some se_int))))
    (ss_ret (sw_M (se_call (sa_cons se_var (sa_cons se_int (sa_cons (se_call (sa_cons (se_op so_ix se_var se_int) (sa_cons se_var (sa_cons (se_tup (sa_cons se_var (sa_cons se_var (sa_cons se_var sa_nil)))) sa_nil)))) sa_nil))))))
def T_law : TS :=
    tSeq (tAsg (tCall (spD F__law_deck) [] E0 (tCons (tVar 0) tNil)) (gName 1))
    (tSeq (tFor (iRng1 (tCons (tC (.int 3)) tNil)) (gName 2) (tSeq (tAsg (tCall (spW F__law_far) [] E0 (tCons (tVar 1) tNil)) (gName 3))
    (tSeq (tAsg (tCB (rRepr K) (tCons (tVar 3) tNil)) (gName 4))
    (tFor (iEnumU K (tCons (tOp (rIx K) (tVar 3) (tC (.int 0))) tNil)) (gTU K 2 (gCons (gName 5) (gCons (gName 6) gNil))) (tFor (iSeq K (tLst (tCons (tC (.int 0)) (tCons (tC (.int 1)) (tCons (tOp (rIx K) (tVar 6) (tC (.int 2))) (tCons (tOp oPow (tC (.int 10)) (tC (.int 12))) (tCons (tCall (spW F__law_room) [] E0 (tCons (tVar 1) tNil)) tNil))))))) (gName 7) (tSeq (tAsg (tCall (spF F_with_room) [] E0 (tCons (tVar 3) (tCons (tVar 5) (tCons (tVar 7) tNil)))) (gName 8))
    (tSeq (tIfS (tTest (tOp (rNeD K) (tCB (rRepr K) (tCons (tVar 8) tNil)) (tCB (rRepr K) (tCons (tCall (spF F__law_wide) [] E0 (tCons (tVar 3) (tCons (tVar 5) (tCons (tVar 7) tNil)))) tNil)))) (tRet (tC (.bl false))) tNext)
    (tIfS (tOr (tTest (tOp oNotN (tCall (spF F_webfault) [] E0 (tCons (tVar 8) tNil)) (tC .non))) (tTest (tOp (rNeD K) (tCB (rRepr K) (tCons (tVar 3) tNil)) (tVar 4)))) (tRet (tC (.bl false))) tNext))))))))
    (tRet (tC (.bl true))))
theorem ss_law : SS T_law X_law :=
    ss_seq (ss_own (by decide) (sw_callD (swa_cons (sw_M se_var) swa_nil)))
    (ss_seq (ss_for (swi_rng (swa_cons (sw_M se_int) swa_nil)) (sg_name (by decide)) (ss_seq (ss_asg (sg_name (by decide)) (sw_callK swa_nil))
    (ss_seq (ss_asg (sg_name (by decide)) (sw_M (se_cb sc_repr (sa_cons se_var sa_nil))))
    (ss_for (swi_enum (swa_cons (sw_M (se_op so_ix se_var se_int)) swa_nil)) (sg_tup (sg_cons (sg_name (by decide)) (sg_cons (sg_name (by decide)) sg_nil))) (ss_for (swi_seq (sw_lst (swa_cons (sw_M se_int) (swa_cons (sw_M se_int) (swa_cons (sw_M (se_op so_ix se_var se_int)) (swa_cons (sw_M (se_op so_pow se_int se_int)) (swa_cons (sw_callK swa_nil) swa_nil))))))) (sg_name (by decide)) (ss_seq (ss_asg (sg_name (by decide)) (sw_M (se_call (sa_cons se_var (sa_cons se_var (sa_cons se_var sa_nil))))))
    (ss_seq (ss_if (swt_M (st_test (se_op so_ne (se_cb sc_repr (sa_cons se_var sa_nil)) (se_cb sc_repr (sa_cons (se_call (sa_cons se_var (sa_cons se_var (sa_cons se_var sa_nil)))) sa_nil))))) (ss_ret (sw_M se_bl)) ss_next)
    (ss_if (swt_M (st_or (st_test (se_op so_isnt (se_call (sa_cons se_var sa_nil)) se_non)) (st_test (se_op so_ne (se_cb sc_repr (sa_cons se_var sa_nil)) se_var)))) (ss_ret (sw_M se_bl)) ss_next))))))))
    (ss_fz (ss_ret (sw_M se_bl))))
end
end K45
namespace K45
open PySem PySem.Spec PyProof.Rows L2 Uv
theorem f_draw {b : Nat} {cs : List Cel} {m : Int} (h : DkD b cs) (hb : b ≤ 2 ^ 40) (hm : 0 < m) (hm2 : m < 2 ^ 64) : ∃ r cs', F__law_draw cs [.int m] = some (.int r, cs') ∧ 0 ≤ r ∧ r < m ∧ DkD (b + 1) cs' := by
  obtain ⟨cells, n, rfl, hl, h0, hn⟩ := h
  have base : ∀ c : Int, -9223372036854775808 < c % 2147483587 + 7919 * (n + 1) + 1 ∧ c % 2147483587 + 7919 * (n + 1) + 1 < 9223372036854775808 := fun c => by
    have a1 := Int.emod_nonneg c (show (2147483587 : Int) ≠ 0 by decide)
    have a2 := Int.emod_lt_of_pos c (show (0 : Int) < 2147483587 by decide)
    constructor <;> omega
  by_cases hc : cells = []
  · subst hc
    have b0 := base 0
    simp at b0
    simp [F__law_draw, runW, X__law_draw, sSeq, hm, b0]
    exact ⟨_, _, ⟨rfl, rfl⟩, Int.emod_nonneg _ (by omega), Int.emod_lt_of_pos _ hm, [], n + 1, rfl, by simp, by omega, by omega⟩
  · have hpos : 0 < cells.length := List.length_pos_iff.mpr hc
    obtain ⟨j, hj, ej⟩ : ∃ j : Nat, j < cells.length ∧ (n + 1) % (cells.length : Int) = (j : Int) := by
      refine ⟨((n + 1) % (cells.length : Int)).toNat, ?_, ?_⟩
      · have x1 := Int.emod_lt_of_pos (n + 1) (show (0 : Int) < cells.length by omega)
        have x2 := Int.emod_nonneg (n + 1) (show (cells.length : Int) ≠ 0 by omega)
        omega
      · have x2 := Int.emod_nonneg (n + 1) (show (cells.length : Int) ≠ 0 by omega)
        omega
    have at1 : atI (cells.map PyData.int) (j : Int) = some (.int cells[j]) := by rw [atI_nat', List.getElem?_map, List.getElem?_eq_getElem hj]; rfl
    have ix1 : ixN cells.length (j : Int) = some j := ixN_nat' hj
    have b0 := base cells[j]
    by_cases hg : 1000000000000000000 ≤ cells[j]
    · have hm3 : m < 18446744073709551616 := hm2
      simp [F__law_draw, runW, X__law_draw, sSeq, hm, hm3, hpos, ej, at1, ix1, hg]
      refine ⟨_, _, ⟨rfl, rfl⟩, Int.emod_nonneg _ (by omega), Int.emod_lt_of_pos _ hm, cells.set j (cells[j] / m), n + 1, ?_, by rw [List.length_set]; exact hl, by omega, by omega⟩
      rw [List.map_set]
    · simp [F__law_draw, runW, X__law_draw, sSeq, hm, hpos, ej, at1, hg, b0]
      exact ⟨_, _, ⟨rfl, rfl⟩, Int.emod_nonneg _ (by omega), Int.emod_lt_of_pos _ hm, cells, n + 1, rfl, hl, by omega, by omega⟩
theorem f_shuffled {b : Nat} {cs : List Cel} {ns : List Int} (h : DkD b cs) (hb : b + ns.length ≤ 2 ^ 40) (hl : ns.length ≤ 1000) : ∃ (es : List Int) (cs' : List Cel), F__law_shuffled cs [.list (ns.map PyData.int)] = some (.tuple (es.map PyData.int), cs') ∧ es.Perm ns ∧ DkD (b + ns.length) cs' := by
  have lp := whGo_inv (k := ns.length) (n := fuel) (ρ := [.own cs, .dat (.list (ns.map PyData.int)), .own ((ns.map PyData.int).map Cel.dat), .own []]) (c := wVT (xB (xOp neP (xVar 2) (xLst xNil)))) (b := sApp 3 (wPop 2 (wCallK 0 F__law_draw (wCons (wV (xCB (on1 lenP) (xCons (xVar 2) xNil))) wNil)))) (fun k ρ => ∃ (cs : List Cel) (left found : List Int), ρ = [.own cs, .dat (.list (ns.map PyData.int)), .own ((left.map PyData.int).map Cel.dat), .own ((found.map PyData.int).map Cel.dat)] ∧ left.length = k ∧ (found ++ left).Perm ns ∧ DkD (b + (ns.length - k)) cs)
    (fun ρ ⟨cs, left, found, e, e2, p, d⟩ => ⟨ρ, by
      subst e
      have z : left = [] := List.length_eq_zero_iff.mp e2
      subst z
      rfl, cs, left, found, e, e2, p, d⟩)
    (fun k ρ ⟨cs, left, found, e, e2, p, d⟩ => by
      subst e
      have ll := p.length_eq
      rw [List.length_append] at ll
      obtain ⟨r, cs', hr, r0, r1, d'⟩ := f_draw (m := (left.length : Int)) d (by omega) (by omega) (by omega)
      obtain ⟨j, ej⟩ : ∃ j : Nat, r = (j : Int) := ⟨r.toNat, by omega⟩
      have hj : j < left.length := by omega
      have ne : neP (.list (left.map PyData.int)) (.list []) = some (.bool true) := by
        unfold neP
        rw [if_pos ⟨PySem.W.shaped_ints left, rfl⟩]
        cases left with
        | nil => simp at e2
        | cons x xs => rfl
      have ix : ixN left.length r = some j := by rw [ej]; exact ixN_nat' hj
      have dt : datAt ((left.map PyData.int).map Cel.dat) j = some (.int left[j]) := by rw [datAt_dats, List.getElem?_map, List.getElem?_eq_getElem hj]; rfl
      refine ⟨_, [.own cs', .dat (.list (ns.map PyData.int)), .own (((left.eraseIdx j).map PyData.int).map Cel.dat), .own (((found ++ [left[j]]).map PyData.int).map Cel.dat)], by simp [map_dat_pd, ne, -List.map_map]; rfl, ?_, cs', left.eraseIdx j, found ++ [left[j]], rfl, ?_, ?_, ?_⟩
      · have bd : -9223372036854775808 ≤ r ∧ r < 9223372036854775808 := ⟨by omega, by omega⟩
        clear ej
        have fl : found.length < 100000 := by omega
        simp [map_dat_pd, hr, ix, bd, fl, dt, erase_map, -List.map_map]
      · rw [List.length_eraseIdx, if_pos hj]; omega
      · refine List.Perm.trans ?_ p
        rw [List.append_assoc]
        refine List.Perm.append_left found ?_
        exact erase_perm hj
      · have e : b + (ns.length - (k + 1)) + 1 = b + (ns.length - k) := by omega
        rw [← e]
        exact d')
  obtain ⟨ρ', w1, cs', left, found, rfl, w2, w3, w4⟩ := lp ⟨cs, ns, [], rfl, rfl, .refl _, by simpa using h⟩ (@fuel_lt kk0 _ (by omega))
  have z : left = [] := List.length_eq_zero_iff.mp w2
  subst z
  rw [List.append_nil] at w3
  refine ⟨found, cs', ?_, w3, w4⟩
  simp [F__law_shuffled, runW, X__law_shuffled, sSeq, sWhile, w1, q_fzS, map_dat_pd, -List.map_map]
end K45

namespace K45
open PySem PySem.Spec PyProof.Rows L2 Uv
theorem f_ends {b m : Nat} {cs : List Cel} (h : DkD b cs) (hb : b + 3 ≤ 2 ^ 40) (h1 : 1 ≤ m) (h2 : m ≤ 8) : ∃ (x y : Option Nat) (cs' : List Cel), F__law_ends cs [natD m] = some (.tuple [endD x, endD y], cs') ∧ x ≠ y ∧ (∀ k, x = some k → k < m) ∧ (∀ k, y = some k → k < m) ∧ DkD (b + 3) cs' := by
  obtain ⟨r1, cs1, e1, a1, a2, d1⟩ := f_draw (m := 5) h (by omega) (by decide) (by decide)
  obtain ⟨r2, cs2, e2, a3, a4, d2⟩ := f_draw (m := (m : Int)) d1 (by omega) (by omega) (by omega)
  obtain ⟨j, ej⟩ : ∃ j : Nat, r2 = (j : Int) := ⟨r2.toNat, by omega⟩
  have hj : j < m := by omega
  subst ej
  by_cases c1 : r1 = 0
  · refine ⟨none, some j, cs2, ?_, by simp, by simp, by simpa using hj, d2.mono (by omega)⟩
    simp [F__law_ends, runW, X__law_ends, sSeq, e1, e2, c1, endD]
  by_cases c2 : m = 1
  · have c2' : (m : Int) = 1 := by omega
    by_cases c3 : r1 < 3
    · refine ⟨none, some j, cs2, ?_, by simp, by simp, by simpa using hj, d2.mono (by omega)⟩
      simp [F__law_ends, runW, X__law_ends, sSeq, e1, e2, c1, c3, endD]
      simp [c2', c1, c3]
    · refine ⟨some j, none, cs2, ?_, by simp, by simpa using hj, by simp, d2.mono (by omega)⟩
      simp [F__law_ends, runW, X__law_ends, sSeq, e1, e2, c1, c3, endD]
      by_cases c4 : r1 = 1 <;> simp [c2', c1, c3, c4]
  · have c2' : ¬ (m : Int) = 1 := by omega
    by_cases c4 : r1 = 1
    · refine ⟨some j, none, cs2, ?_, by simp, by simpa using hj, by simp, d2.mono (by omega)⟩
      simp [F__law_ends, runW, X__law_ends, sSeq, e1, e2, c2', c4, endD]
    · obtain ⟨r3, cs3, e3, a5, a6, d3⟩ := f_draw (m := (m : Int) - 1) d2 (by omega) (by omega) (by omega)
      have mp : 0 < m := by omega
      refine ⟨some j, some ((j + 1 + r3.toNat) % m), cs3, ?_, ?_, by simpa using hj, ?_, d3.mono (by omega)⟩
      · have em : ((j : Int) + 1 + r3) % (m : Int) = (((j + 1 + r3.toNat) % m : Nat) : Int) := by
          rw [Int.natCast_emod]
          congr 1
          omega
        simp [F__law_ends, runW, X__law_ends, sSeq, e1, e2, e3, c1, c2', c4, endD, mp, em]
      · intro z
        have z := Option.some.inj z
        have z2 : (j + 1 + r3.toNat) % m = j := z.symm
        have h3 : r3.toNat < m - 1 := by omega
        by_cases c5 : j + 1 + r3.toNat < m
        · rw [Nat.mod_eq_of_lt c5] at z2; omega
        · rw [Nat.mod_eq_sub_mod (by omega), Nat.mod_eq_of_lt (by omega)] at z2; omega
      · intro k hk
        cases hk
        exact Nat.mod_lt _ mp
theorem f_room {b : Nat} {cs : List Cel} (h : DkD b cs) (hb : b + 5 ≤ 2 ^ 40) : ∃ (r : Int) (cs' : List Cel), F__law_room cs [] = some (.int r, cs') ∧ 0 ≤ r ∧ r ≤ 1000000000000 ∧ DkD (b + 5) cs' := by
  obtain ⟨r1, cs1, e1, a1, b1, d1⟩ := f_draw (m := 9) h (by omega) (by decide) (by decide)
  obtain ⟨r2, cs2, e2, a2, b2, d2⟩ := f_draw (m := 1000) d1 (by omega) (by decide) (by decide)
  obtain ⟨r3, cs3, e3, a3, b3, d3⟩ := f_draw (m := 1000000000000) d2 (by omega) (by decide) (by decide)
  obtain ⟨r4, cs4, e4, a4, b4, d4⟩ := f_draw (m := 9) d3 (by omega) (by decide) (by decide)
  obtain ⟨r5, cs5, e5, a5, b5, d5⟩ := f_draw (m := 6) d4 (by omega) (by decide) (by decide)
  obtain ⟨l, hl⟩ : ∃ l : List Int, l = [0, 1, 1 + r1, 1 + r2, 1 + r3, 1000000000000 - r4] := ⟨_, rfl⟩
  have hr : ∀ x ∈ l, 0 ≤ x ∧ x ≤ 1000000000000 := by rw [hl]; simp; omega
  have lt : r5.toNat < l.length := by rw [hl]; simp; omega
  have at1 : atI [PyData.int 0, .int 1, .int (1 + r1), .int (1 + r2), .int (1 + r3), .int (1000000000000 - r4)] r5 = some (.int l[r5.toNat]) := by
    have e : r5 = (r5.toNat : Int) := by omega
    rw [show [PyData.int 0, .int 1, .int (1 + r1), .int (1 + r2), .int (1 + r3), .int (1000000000000 - r4)] = l.map PyData.int by rw [hl]; rfl]
    generalize r5.toNat = j at e lt
    subst e
    rw [atI_nat', List.getElem?_map, List.getElem?_eq_getElem lt]
    rfl
  refine ⟨l[r5.toNat], cs5, ?_, (hr _ (List.getElem_mem lt)).1, (hr _ (List.getElem_mem lt)).2, d5⟩
  simp [F__law_room, runW, X__law_room, sSeq, e1, e2, e3, e4, e5, q_fzS, at1]
end K45

namespace K45
open PySem PySem.Spec PyProof.Rows L2 Uv
theorem eq_end {x : Option Nat} {h : Nat} : eqP (endD x) (natD h) = some (.bool (x == some h)) := by
  cases x with
  | none => rfl
  | some k =>
    show some (PyData.bool ((k : Int) == (h : Int))) = _
    congr 2
    rw [Bool.eq_iff_iff]
    simp
    omega
theorem ix_side {x : Road} {s : Nat} (hs : s < 2) : ixP (roadD x) (natD s) = some (endD (side s x)) := by
  rcases (show s = 0 ∨ s = 1 by omega) with e | e <;> (subst e; rfl)
/-- the roads of a house, one side, as the comprehension finds them -/
theorem lc_own {rs : List Road} {s h : Nat} (hs : s < 2) {v : VE} (hl : 8 < v.length) (h4 : v[4]? = some (some (natD s))) (h5 : v[5]? = some (some (natD h))) :
    lcGo (gvTup 2 (gvCons (gvName 7) (gvCons (gvName 8) gvNil))) (xB (xOp eqP (xOp ixP (xVar 8) (xVar 4)) (xVar 5))) (xVar 7) v (pairsD (rs.map roadD)) = some ((atR rs s h).map natD) := by
  rw [pairsD_map]
  rw [lcGo_typ (fun p : Road × Nat => PyData.tuple [natD p.2, roadD p.1]) (fun p => side s p.1 == some h) (fun p => natD p.2) fun p _ => ⟨(v.set 7 (some (natD p.2))).set 8 (some (roadD p.1)), by simp, ?_, fun _ => ?_⟩]
  · unfold atR
    rw [List.map_map]
    rfl
  · have g4 : ((v.set 7 (some (natD p.2))).set 8 (some (roadD p.1)))[4]? = some (some (natD s)) := by simp [h4]
    have g5 : ((v.set 7 (some (natD p.2))).set 8 (some (roadD p.1)))[5]? = some (some (natD h)) := by simp [h5]
    have g8 : ((v.set 7 (some (natD p.2))).set 8 (some (roadD p.1)))[8]? = some (some (roadD p.1)) := by simp [hl]
    simp only [q_B, q_op, q_var, g4, g5, g8, Option.bind_some, id, ix_side hs, eq_end, q_isB]
  · have g7 : ((v.set 7 (some (natD p.2))).set 8 (some (roadD p.1)))[7]? = some (some (natD p.2)) := by
      rw [List.getElem?_set_ne (by decide), List.getElem?_set_self (by omega)]
    simp only [q_var, g7, Option.bind_some, id]
@[simp] theorem q_sAppS {i : Nat} {k : XE} {a : XW} {ρ : Uv.Env} : sAppS i k a ρ = (ownAt ρ i).bind fun cs => ((k (vw ρ)).bind isI).bind fun kk => (ixN cs.length kk).bind fun n => (subAt cs n).bind fun ds => (a (ρ.set i .un)).bind fun x =>
  match x.2[i]? with
  | some .un => if ds.length < 100000 then some (.nxt (x.2.set i (.own (cs.set n (.sub (ds ++ [x.1])))))) else none
  | _ => none := rfl
def two2 (s : Nat) (A L : List PD) : List Cel := if s = 0 then [.sub L, .sub A] else [.sub A, .sub L]
abbrev bodyO : XS := sSeq (sAsg (gName' 6) (wM (xLc (xiA enumP (xCons (xVar 2) xNil)) (gvTup 2 (gvCons (gvName 7) (gvCons (gvName 8) gvNil))) (xB (xOp eqP (xOp ixP (xVar 8) (xVar 4)) (xVar 5))) (xVar 7) [7, 8])))
    (sAppS 3 (xVar 4) (wCallK 0 F__law_shuffled (wCons (wM (xVar 6)) wNil)))
theorem one_side {b m s : Nat} {rs : List Road} {A : List PD} {cs : List Cel} {x5 x6 : Sl} (h : DkD b cs) (hb : b + 20 * m ≤ 2 ^ 39) (hm : m ≤ 8) (hs : s < 2) (hr : rs.length ≤ 20) :
    ∃ (ls : List (List Nat)) (cs' : List Cel) (y5 y6 : Sl), forGo (gName' 5) bodyO ((List.range m).map natD) [.own cs, .dat (natD m), .dat (.list (rs.map roadD)), .own (two2 s A []), .dat (natD s), x5, x6, .un, .un] =
      some (.nxt [.own cs', .dat (natD m), .dat (.list (rs.map roadD)), .own (two2 s A (ls.map natsD)), .dat (natD s), y5, y6, .un, .un]) ∧ ls.length = m ∧ (∀ (i : Nat) (l : List Nat), ls[i]? = some l → l.Perm (atR rs s i)) ∧ DkD (b + 20 * m) cs' := by
  have lp := forGo_inv (g := gName' 5) (b := bodyO) (xs := (List.range m).map natD) (ρ := [.own cs, .dat (natD m), .dat (.list (rs.map roadD)), .own (two2 s A []), .dat (natD s), x5, x6, .un, .un])
    (fun k ρ => ∃ (ls : List (List Nat)) (cs' : List Cel) (y5 y6 : Sl), ρ = [.own cs', .dat (natD m), .dat (.list (rs.map roadD)), .own (two2 s A (ls.map natsD)), .dat (natD s), y5, y6, .un, .un] ∧ ls.length = k ∧ (∀ (i : Nat) (l : List Nat), ls[i]? = some l → l.Perm (atR rs s i)) ∧ DkD (b + 20 * k) cs')
    ⟨[], cs, x5, x6, rfl, rfl, fun i l hl => by simp at hl, h⟩ fun i x ρ hx ⟨ls, cs', y5, y6, e, hl, hp, hd⟩ => by
      subst e
      have hi : i < m := by
        have := (List.getElem?_eq_some_iff.mp hx).1
        simpa using this
      have ex : x = natD i := by
        rw [List.getElem?_map, List.getElem?_range hi] at hx
        cases hx
        rfl
      subst ex
      have al : (atR rs s i).length ≤ 20 := by
        unfold atR
        rw [List.length_map]
        refine Nat.le_trans (List.length_filter_le _ _) ?_
        rw [List.length_zipIdx]
        exact hr
      obtain ⟨es, cs2, e2, p2, d2⟩ := f_shuffled (ns := (atR rs s i).map fun (n : Nat) => (n : Int)) hd (by rw [List.length_map]; omega) (by rw [List.length_map]; omega)
      have en : ((atR rs s i).map fun (n : Nat) => (n : Int)).map PyData.int = (atR rs s i).map natD := by rw [List.map_map]; rfl
      rw [en] at e2
      obtain ⟨l, el, pl⟩ : ∃ l : List Nat, es = l.map (fun (n : Nat) => (n : Int)) ∧ l.Perm (atR rs s i) := by
        refine ⟨es.map Int.toNat, ?_, ?_⟩
        · rw [List.map_map]
          refine (List.map_id es).symm.trans (List.map_congr_left fun z hz => ?_)
          obtain ⟨n, _, rfl⟩ := List.mem_map.mp (p2.mem_iff.mp hz)
          simp
        · have := p2.map Int.toNat
          rw [List.map_map] at this
          have e3 : (atR rs s i).map (Int.toNat ∘ fun (n : Nat) => (n : Int)) = atR rs s i := by
            refine (List.map_congr_left fun z _ => ?_).trans (List.map_id _)
            simp
          rw [e3] at this
          exact this
      have et : PyData.tuple (es.map PyData.int) = natsD l := by rw [el, List.map_map]; rfl
      rw [et] at e2
      refine ⟨_, [.own cs2, .dat (natD m), .dat (.list (rs.map roadD)), .own (two2 s A ((ls ++ [l]).map natsD)), .dat (natD s), .dat (natD i), .dat (.list ((atR rs s i).map natD)), .un, .un], rfl, ?_, ls ++ [l], cs2, _, _, rfl, by simp [hl], fun j q hq => ?_, d2.mono (by rw [List.length_map]; omega)⟩
      · have lc := lc_own (rs := rs) (s := s) (h := i) hs (v := [none, some (natD m), some (.list (rs.map roadD)), none, some (natD s), some (natD i), y6.mk, none, none]) (by simp) rfl rfl
        have pl20 : (pairsD (rs.map roadD)).length ≤ 40000 := by unfold pairsD; simp; omega
        have lsl : ls.length < 100000 := by omega
        rcases (show s = 0 ∨ s = 1 by omega) with e | e
        · subst e
          simp [bodyO, sSeq, two2, pl20, lc, e2, lsl, -List.map_map]
        · subst e
          simp [bodyO, sSeq, two2, pl20, lc, e2, lsl, -List.map_map]
      · by_cases c : j < ls.length
        · rw [List.getElem?_append_left c] at hq
          exact hp j q hq
        · rw [List.getElem?_append_right (by omega)] at hq
          have ej : j = i := by
            have := (List.getElem?_eq_some_iff.mp hq).1
            simp at this
            omega
          subst ej
          rw [hl, Nat.sub_self] at hq
          cases hq
          exact pl
  obtain ⟨ρ', w1, ls, cs', y5, y6, rfl, w2, w3, w4⟩ := lp
  simp at w2 w4
  exact ⟨ls, cs', y5, y6, w1, w2, w3, w4⟩
end K45

namespace K45
open PySem PySem.Spec PyProof.Rows L2 Uv
theorem e_rng {n : Nat} {ρ : Uv.Env} (h : n ≤ 1000000) : wiA rngP (wCons (wM (xC (natD n))) wNil) ρ = some ((List.range n).map natD, ρ) := by
  have e : (wCons (wM (xC (natD n))) wNil) ρ = some ([natD n], ρ) := rfl
  unfold wiA
  rw [e, Option.bind_some, q_rng h, Option.bind_some]
theorem e_rngV {n i : Nat} {ρ : Uv.Env} (h : n ≤ 1000000) (hi : (mk ρ)[i]? = some (some (natD n))) : wiA rngP (wCons (wM (xVar i)) wNil) ρ = some ((List.range n).map natD, ρ) := by
  have e : (wCons (wM (xVar i)) wNil) ρ = some ([natD n], ρ) := by simp [hi]
  unfold wiA
  rw [e, Option.bind_some, q_rng h, Option.bind_some]
theorem f_ordered {b m : Nat} {rs : List Road} {cs : List Cel} (h : DkD b cs) (hb : b + 320 ≤ 2 ^ 38) (hm : m ≤ 8) (hr : rs.length ≤ 20) :
    ∃ (gs ts : List (List Nat)) (cs' : List Cel), F__law_ordered cs [natD m, .list (rs.map roadD)] = some (webD ⟨rs, gs, ts⟩, cs') ∧ gs.length = m ∧ ts.length = m ∧ (∀ (i : Nat) (l : List Nat), gs[i]? = some l → l.Perm (atR rs 0 i)) ∧ (∀ (i : Nat) (l : List Nat), ts[i]? = some l → l.Perm (atR rs 1 i)) ∧ DkD (b + 320) cs' := by
  obtain ⟨gs, cs1, y5, y6, w1, w2, w3, w4⟩ := one_side (s := 0) (A := []) (rs := rs) (m := m) (x5 := .un) (x6 := .un) h (by omega) hm (by decide) hr
  obtain ⟨ts, cs2, z5, z6, v1, v2, v3, v4⟩ := one_side (s := 1) (A := gs.map natsD) (rs := rs) (m := m) (x5 := y5) (x6 := y6) w4 (by omega) hm (by decide) hr
  refine ⟨gs, ts, cs2, ?_, w2, v2, w3, v3, v4.mono (by omega)⟩
  simp only [two2] at w1 v1
  refine runW_ret (r := [.dat (natD m), .dat (.list (rs.map roadD)), .dat (.list [.list (gs.map natsD), .list (ts.map natsD)]), .dat (natD 1), z5, z6, .un, .un]) rfl ?_
  unfold X__law_ordered
  refine (sSeq_nxt (ρ1 := [.own cs, .dat (natD m), .dat (.list (rs.map roadD)), .own [.sub [], .sub []], .un, .un, .un, .un, .un]) (by simp)).trans ?_
  refine (sSeq_nxt (ρ1 := [.own cs2, .dat (natD m), .dat (.list (rs.map roadD)), .own [.sub (gs.map natsD), .sub (ts.map natsD)], .dat (natD 1), z5, z6, .un, .un]) ?_).trans (by simp [q_fzS, webD])
  refine (sFor_at (e_rng (n := 2) (by decide))).trans ?_
  refine (forGo_nxt (ρ1 := [.own cs, .dat (natD m), .dat (.list (rs.map roadD)), .own [.sub [], .sub []], .dat (natD 0), .un, .un, .un, .un]) (ρ2 := [.own cs1, .dat (natD m), .dat (.list (rs.map roadD)), .own [.sub (gs.map natsD), .sub []], .dat (natD 0), y5, y6, .un, .un]) rfl ?_).trans ?_
  · exact (sFor_at (e_rngV (n := m) (by omega) rfl)).trans w1
  · refine (forGo_nxt (ρ1 := [.own cs1, .dat (natD m), .dat (.list (rs.map roadD)), .own [.sub (gs.map natsD), .sub []], .dat (natD 1), y5, y6, .un, .un]) (ρ2 := [.own cs2, .dat (natD m), .dat (.list (rs.map roadD)), .own [.sub (gs.map natsD), .sub (ts.map natsD)], .dat (natD 1), z5, z6, .un, .un]) rfl ?_).trans forGo_nil
    exact (sFor_at (e_rngV (n := m) (by omega) rfl)).trans v1
theorem perm_of_ints {es : List Int} {l : List Nat} (p : es.Perm (l.map fun (n : Nat) => (n : Int))) : ∃ l' : List Nat, PyData.tuple (es.map PyData.int) = natsD l' ∧ l'.Perm l := by
  refine ⟨es.map Int.toNat, ?_, ?_⟩
  · unfold natsD
    rw [List.map_map]
    refine congrArg PyData.tuple (List.map_congr_left fun z hz => ?_)
    obtain ⟨n, _, rfl⟩ := List.mem_map.mp (p.mem_iff.mp hz)
    simp
  · have := p.map Int.toNat
    rw [List.map_map] at this
    have e3 : l.map (Int.toNat ∘ fun (n : Nat) => (n : Int)) = l := by
      refine (List.map_congr_left fun z _ => ?_).trans (List.map_id _)
      simp
    rw [e3] at this
    exact this
theorem f_shuf {b : Nat} {cs : List Cel} (l : List Nat) (h : DkD b cs) (hb : b + l.length ≤ 2 ^ 40) (hl : l.length ≤ 1000) : ∃ (l' : List Nat) (cs' : List Cel), F__law_shuffled cs [.list (l.map natD)] = some (natsD l', cs') ∧ l'.Perm l ∧ DkD (b + l.length) cs' := by
  obtain ⟨es, cs', e, p, d⟩ := f_shuffled (ns := l.map fun (n : Nat) => (n : Int)) h (by rw [List.length_map]; exact hb) (by rw [List.length_map]; exact hl)
  obtain ⟨l', e2, p2⟩ := perm_of_ints p
  rw [e2, List.map_map] at e
  rw [List.length_map] at d
  exact ⟨l', cs', e, p2, d⟩
end K45

namespace K45
open PySem PySem.Spec PyProof.Rows L2 Uv
def okRoom (d : PD) : Prop := ∃ r : Int, d = .int r ∧ 0 ≤ r ∧ r ≤ 1000000000000
theorem eight {ds : List PD} (h : ds.length = 8) (hd : ∀ (i : Nat) (d : PD), ds[i]? = some d → okRoom d) : ∃ r0 r1 r2 r3 r4 r5 r6 r7 : Int, ds = [.int r0, .int r1, .int r2, .int r3, .int r4, .int r5, .int r6, .int r7] ∧ ∀ r ∈ [r0, r1, r2, r3, r4, r5, r6, r7], 0 ≤ r ∧ r ≤ 1000000000000 := by
  match ds, h with
  | [a, b, c, d, e, f, g, k], _ =>
    obtain ⟨r0, rfl, h0⟩ := hd 0 _ rfl
    obtain ⟨r1, rfl, h1⟩ := hd 1 _ rfl
    obtain ⟨r2, rfl, h2⟩ := hd 2 _ rfl
    obtain ⟨r3, rfl, h3⟩ := hd 3 _ rfl
    obtain ⟨r4, rfl, h4⟩ := hd 4 _ rfl
    obtain ⟨r5, rfl, h5⟩ := hd 5 _ rfl
    obtain ⟨r6, rfl, h6⟩ := hd 6 _ rfl
    obtain ⟨r7, rfl, h7⟩ := hd 7 _ rfl
    refine ⟨r0, r1, r2, r3, r4, r5, r6, r7, rfl, fun r hr => ?_⟩
    simp at hr
    rcases hr with e | e | e | e | e | e | e | e <;> (subst e; assumption)
theorem f_rounded {b : Nat} {cs : List Cel} (h : DkD b cs) (hb : b + 52 ≤ 2 ^ 38) : ∃ (W : Web) (cs' : List Cel), F__law_rounded cs [] = some (webD W, cs') ∧ IsWeb W ∧ DkD (b + 52) cs' := by
  obtain ⟨ds, ρe, w1, w2, w3, cs1, y5, rfl, d1⟩ := wlGo_inv (g := gName' 5) (t := wMT xYes) (e := wCallK 0 F__law_room wNil) (vs := [5]) (xs := (List.range 8).map natD) (ρ := [.own cs, .un, .un, .un, .un, .un])
    (fun k ρ => ∃ (cs' : List Cel) (y5 : Sl), ρ = [.own cs', .un, .un, .un, .un, y5] ∧ DkD (b + 5 * k) cs') (fun _ d => okRoom d) ⟨cs, .un, rfl, h⟩ fun i x ρ hx ⟨cs', y5, e, d⟩ => by
      subst e
      have hi : i < 8 := by
        have := (List.getElem?_eq_some_iff.mp hx).1
        simpa using this
      obtain ⟨r, cs2, e2, a1, a2, d2⟩ := f_room d (by omega)
      exact ⟨[.own cs', .un, .un, .un, .un, .dat x], _, .int r, [.own cs2, .un, .un, .un, .un, .dat x], rfl, rfl, by simp [e2], ⟨r, rfl, a1, a2⟩, cs2, _, rfl, d2⟩
  rw [List.length_map, List.length_range] at w2 d1
  obtain ⟨r0, r1, r2, r3, r4, r5, r6, r7, rfl, hr⟩ := eight w2 w3
  obtain ⟨g0, cs2, e2, p2, d2⟩ := f_shuf [0, 1, 7] d1 (by simp; omega) (by decide)
  obtain ⟨g1, cs3, e3, p3, d3⟩ := f_shuf [2, 3, 5] d2 (by simp; omega) (by decide)
  obtain ⟨t0, cs4, e4, p4, d4⟩ := f_shuf [2, 3, 4] d3 (by simp; omega) (by decide)
  obtain ⟨t1, cs5, e5, p5, d5⟩ := f_shuf [0, 1, 6] d4 (by simp; omega) (by decide)
  obtain ⟨rs, hrs⟩ : ∃ rs : List Road, rs = [⟨some 0, some 1, r0⟩, ⟨some 0, some 1, r1⟩, ⟨some 1, some 0, r2⟩, ⟨some 1, some 0, r3⟩, ⟨none, some 0, r4⟩, ⟨some 1, none, r5⟩, ⟨none, some 1, r6⟩, ⟨some 0, none, r7⟩] := ⟨_, rfl⟩
  refine ⟨⟨rs, [g0, g1], [t0, t1]⟩, cs5, ?_, ⟨⟨by simp, by simp⟩, rfl, by rw [hrs]; exact ⟨by simp, by simp⟩, fun x hx => ?_, fun k l hl => ?_, fun k l hl => ?_⟩, d5.mono (by simp)⟩
  · have lc : wLc (wiA rngP (wCons (wM (xC (.int 8))) wNil)) (gName' 5) (wMT xYes) (wCallK 0 F__law_room wNil) [5] [.own cs, .un, .un, .un, .un, .un] = some ([.int r0, .int r1, .int r2, .int r3, .int r4, .int r5, .int r6, .int r7].map Cel.dat, [.own cs1, .un, .un, .un, .un, .un]) :=
      wLc_at (e_rng (n := 8) (by decide)) (by simp) w1
    refine runW_ret (r := [.dat (.list [.int r0, .int r1, .int r2, .int r3, .int r4, .int r5, .int r6, .int r7]), .dat (.list (rs.map roadD)), .dat (.tuple [natsD g0, natsD g1]), .dat (.tuple [natsD t0, natsD t1]), .un]) rfl ?_
    unfold X__law_rounded
    have e2' : F__law_shuffled cs1 [.list [.int 0, .int 1, .int 7]] = some (natsD g0, cs2) := e2
    have e3' : F__law_shuffled cs2 [.list [.int 2, .int 3, .int 5]] = some (natsD g1, cs3) := e3
    have e4' : F__law_shuffled cs3 [.list [.int 2, .int 3, .int 4]] = some (natsD t0, cs4) := e4
    have e5' : F__law_shuffled cs4 [.list [.int 0, .int 1, .int 6]] = some (natsD t1, cs5) := e5
    have a3 : atI [PyData.int r0, .int r1, .int r2, .int r3, .int r4, .int r5, .int r6, .int r7] 3 = some (.int r3) := rfl
    have a4 : atI [PyData.int r0, .int r1, .int r2, .int r3, .int r4, .int r5, .int r6, .int r7] 4 = some (.int r4) := rfl
    have a5 : atI [PyData.int r0, .int r1, .int r2, .int r3, .int r4, .int r5, .int r6, .int r7] 5 = some (.int r5) := rfl
    have a6 : atI [PyData.int r0, .int r1, .int r2, .int r3, .int r4, .int r5, .int r6, .int r7] 6 = some (.int r6) := rfl
    have a7 : atI [PyData.int r0, .int r1, .int r2, .int r3, .int r4, .int r5, .int r6, .int r7] 7 = some (.int r7) := rfl
    simp [sSeq, lc, e2', e3', e4', e5', a3, a4, a5, a6, a7, webD, hrs, roadD, endD]
  · rw [hrs] at hx
    simp at hx
    have hr' : ∀ r ∈ [r0, r1, r2, r3, r4, r5, r6, r7], 0 ≤ r ∧ r ≤ 1000000000000 := hr
    simp at hr'
    rcases hx with e | e | e | e | e | e | e | e <;> (subst e; unfold OkRoad; simp; omega)
  · rw [hrs]
    match k, hl with
    | 0, hl => cases hl; exact p2
    | 1, hl => cases hl; exact p3
    | k + 2, hl => simp at hl
  · rw [hrs]
    match k, hl with
    | 0, hl => cases hl; exact p4
    | 1, hl => cases hl; exact p5
    | k + 2, hl => simp at hl
end K45

namespace K45
open PySem PySem.Spec PyProof.Rows L2 Uv
def okRoadD (m : Nat) (d : PD) : Prop := ∃ x : Road, d = roadD x ∧ OkRoad m x
theorem all_enc {α : Type} {enc : α → PD} {G : α → Prop} : ∀ {ds : List PD}, (∀ (i : Nat) (d : PD), ds[i]? = some d → ∃ r, d = enc r ∧ G r) → ∃ rs : List α, ds = rs.map enc ∧ ∀ r ∈ rs, G r
  | [], _ => ⟨[], rfl, fun _ h => nomatch h⟩
  | d :: ds, h => by
    obtain ⟨r, e, g⟩ := h 0 d rfl
    obtain ⟨rs, e2, g2⟩ := all_enc (ds := ds) fun i x hx => h (i + 1) x (by simpa using hx)
    refine ⟨r :: rs, by rw [e, e2]; rfl, fun x hx => ?_⟩
    rcases List.mem_cons.mp hx with z | z
    · rw [z]; exact g
    · exact g2 x z
theorem f_far {b : Nat} {cs : List Cel} (h : DkD b cs) (hb : b + 600 ≤ 2 ^ 38) : ∃ (W : Web) (cs' : List Cel), F__law_far cs [] = some (webD W, cs') ∧ IsWeb W ∧ DkD (b + 600) cs' := by
  obtain ⟨q1, cs1, e1, a1, a2, d1⟩ := f_draw (m := 8) h (by omega) (by decide) (by decide)
  obtain ⟨m, em⟩ : ∃ m : Nat, 1 + q1 = (m : Int) := ⟨(1 + q1).toNat, by omega⟩
  have m1 : 1 ≤ m := by omega
  have m8 : m ≤ 8 := by omega
  obtain ⟨q2, cs2, e2, a3, a4, d2⟩ := f_draw (m := 20) d1 (by omega) (by decide) (by decide)
  obtain ⟨n, en⟩ : ∃ n : Nat, 1 + q2 = (n : Int) := ⟨(1 + q2).toNat, by omega⟩
  have n1 : 1 ≤ n := by omega
  have n20 : n ≤ 20 := by omega
  obtain ⟨ds, ρe, w1, w2, w3, cs3, y4, rfl, d3⟩ := wlGo_inv (g := gName' 4) (t := wMT xYes) (e := wOp addP (wCallK 0 F__law_ends (wCons (wM (xVar 1)) wNil)) (wTup (wCons (wCallK 0 F__law_room wNil) wNil))) (vs := [4]) (xs := (List.range n).map natD) (ρ := [.own cs2, .dat (natD m), .un, .un, .un])
    (fun k ρ => ∃ (cs' : List Cel) (y4 : Sl), ρ = [.own cs', .dat (natD m), .un, .un, y4] ∧ DkD (b + 2 + 8 * k) cs') (fun _ d => okRoadD m d) ⟨cs2, .un, rfl, d2.mono (by omega)⟩ fun i x ρ hx ⟨cs', y4, e, d⟩ => by
      subst e
      have hi : i < n := by
        have := (List.getElem?_eq_some_iff.mp hx).1
        simpa using this
      obtain ⟨bx, by', cs4, e4, ne, h4, h5, d4⟩ := f_ends (m := m) d (by omega) m1 m8
      obtain ⟨r, cs5, e5, r1, r2, d5⟩ := f_room d4 (by omega)
      exact ⟨[.own cs', .dat (natD m), .un, .un, .dat x], _, roadD ⟨bx, by', r⟩, [.own cs5, .dat (natD m), .un, .un, .dat x], rfl, rfl, by simp [e4, e5, roadD], ⟨⟨bx, by', r⟩, rfl, ne, h4, h5, r1, r2⟩, cs5, _, rfl, d5.mono (by omega)⟩
  rw [List.length_map, List.length_range] at w2 d3
  obtain ⟨rs, rfl, hrs⟩ := all_enc w3
  rw [List.length_map] at w2
  obtain ⟨gs, ts, cs4, e4, g1, t1, pg, pt, d4⟩ := f_ordered (m := m) (rs := rs) d3 (by omega) m8 (by omega)
  obtain ⟨q5, cs5, e5, a5, a6, d5⟩ := f_draw (m := 4) d4 (by omega) (by decide) (by decide)
  have lc : wLc (wiA rngP (wCons (wOp addP (wM (xC (.int 1))) (wCallK 0 F__law_draw (wCons (wM (xC (.int 20))) wNil))) wNil)) (gName' 4) (wMT xYes) (wOp addP (wCallK 0 F__law_ends (wCons (wM (xVar 1)) wNil)) (wTup (wCons (wCallK 0 F__law_room wNil) wNil))) [4] [.own cs1, .dat (natD m), .un, .un, .un] = some ((rs.map roadD).map Cel.dat, [.own cs3, .dat (natD m), .un, .un, .un]) := by
    refine wLc_at (xs := (List.range n).map natD) (ρ1 := [.own cs2, .dat (natD m), .un, .un, .un]) ?_ (by simp; omega) w1
    have e : (wCons (wOp addP (wM (xC (.int 1))) (wCallK 0 F__law_draw (wCons (wM (xC (.int 20))) wNil))) wNil) [.own cs1, .dat (natD m), .un, .un, .un] = some ([natD n], [.own cs2, .dat (natD m), .un, .un, .un]) := by simp [e2, en]
    unfold wiA
    rw [e, Option.bind_some, q_rng (by omega), Option.bind_some]
  have web : IsWeb ⟨rs, gs, ts⟩ := ⟨⟨by show 1 ≤ gs.length; omega, by show gs.length ≤ 8; omega⟩, by show ts.length = gs.length; omega, ⟨by show 1 ≤ rs.length; omega, by show rs.length ≤ 20; omega⟩, fun x hx => by show OkRoad gs.length x; rw [g1]; exact hrs x hx, pg, pt⟩
  have head : ∀ {o : Option Out}, sRet (wIf (wB (wOp eqP (wCallK 0 F__law_draw (wCons (wM (xC (.int 4))) wNil)) (wM (xC (.int 0))))) (wCallK 0 F__law_rounded wNil) (wM (xVar 3))) [.own cs4, .dat (natD m), .dat (.list (rs.map roadD)), .dat (webD ⟨rs, gs, ts⟩), .un] = o → X__law_far [.own cs, .un, .un, .un, .un] = o := by
    intro o ho
    unfold X__law_far
    refine (sSeq_nxt (ρ1 := [.own cs1, .dat (natD m), .un, .un, .un]) (by simp [e1, em])).trans ?_
    refine (sSeq_nxt (ρ1 := [.own cs3, .dat (natD m), .dat (.list (rs.map roadD)), .un, .un]) (by simp [lc, map_dat_pd, -List.map_map])).trans ?_
    refine (sSeq_nxt (ρ1 := [.own cs4, .dat (natD m), .dat (.list (rs.map roadD)), .dat (webD ⟨rs, gs, ts⟩), .un]) (sAsg_at (i := 3) (ρ1 := [.own cs4, .dat (natD m), .dat (.list (rs.map roadD)), .un, .un]) (callK_at (ρ1 := [.own cs3, .dat (natD m), .dat (.list (rs.map roadD)), .un, .un]) (cs0 := cs3) rfl rfl rfl e4))).trans ho
  by_cases c : q5 = 0
  · obtain ⟨W, cs6, e6, iw, d6⟩ := f_rounded d5 (by omega)
    refine ⟨W, cs6, runW_ret (r := [.dat (natD m), .dat (.list (rs.map roadD)), .dat (webD ⟨rs, gs, ts⟩), .un]) rfl (head ?_), iw, d6.mono (by omega)⟩
    simp [e5, e6, c]
  · refine ⟨⟨rs, gs, ts⟩, cs5, runW_ret (r := [.dat (natD m), .dat (.list (rs.map roadD)), .dat (webD ⟨rs, gs, ts⟩), .un]) rfl (head ?_), web, d5.mono (by omega)⟩
    simp [e5, c]
end K45

namespace K45
open PySem PySem.Spec PyProof.Rows L2 Uv
@[simp] theorem ty_it : isTy .int (.tuple ds) = false := rfl
@[simp] theorem ty_ii {i : Int} : isTy .int (.int i) = true := rfl
@[simp] theorem ty_bi {i : Int} : isTy .bool (.int i) = false := rfl
@[simp] theorem ty_tt {ds : List PD} : isTy .tuple (.tuple ds) = true := rfl
theorem f_is_number (i : Int) : F_is_number [.int i] = some (.bool true) := by
  simp [F_is_number, runP, X_is_number]
theorem f_tuple_of {ds : List PD} {a b : Nat} (h1 : a ≤ ds.length) (h2 : ds.length ≤ b) : F_is_tuple_of [.tuple ds, natD a, natD b] = some (.bool true) := by
  simp [F_is_tuple_of, runP, X_is_tuple_of]
  simp [h1, h2]
theorem f_number_to {i m : Int} (h1 : 0 ≤ i) (h2 : i ≤ m) : F_is_number_to [.int i, .int m] = some (.bool true) := by
  simp [F_is_number_to, runP, X_is_number_to, f_is_number]
  simp [h1, h2]
theorem f_is_end {o : Option Nat} {n : Nat} (h : ∀ k, o = some k → k < n) : F_is_end [endD o, natD n] = some (.bool true) := by
  cases o with
  | none => simp [F_is_end, runP, X_is_end, endD]
  | some k =>
    have := h k rfl
    have e := f_number_to (i := (k : Int)) (m := (n : Int) - 1) (by omega) (by omega)
    simp [F_is_end, runP, X_is_end, endD, e]
theorem unB_true {α : Type} (l : List α) : unB (l.map fun _ => PyData.bool true) = some (l.map fun _ => true) := by
  induction l with
  | nil => rfl
  | cons x l ih => rw [List.map_cons, unB, ih]; rfl
theorem nums_shaped (l : List Nat) : SeqAt.shaped (.list (l.map natD)) = true := by
  unfold SeqAt.shaped
  rw [Bool.and_eq_true_iff]
  constructor
  · exact all_lay fun d hd => by obtain ⟨k, _, rfl⟩ := List.mem_map.mp hd; rfl
  · rw [decide_eq_true_eq]
    have : PyData.depthAll (l.map natD) ≤ 0 := all_depth fun d hd => by obtain ⟨k, _, rfl⟩ := List.mem_map.mp hd; exact Nat.le_refl _
    show PyData.depthAll (l.map natD) + 1 ≤ 64
    omega
theorem eqv_refl' : ∀ l : List Nat, PyData.eqvAll (l.map natD) (l.map natD) = true
  | [] => rfl
  | x :: l => by rw [List.map_cons, PyData.eqvAll, eqv_refl' l]; simp [PyData.eqv]
theorem eq_nums (l : List Nat) : eqP (.list (l.map natD)) (.list (l.map natD)) = some (.bool true) := by
  unfold eqP
  rw [if_pos ⟨nums_shaped l, nums_shaped l⟩, PyData.eqv, eqv_refl' l]
theorem f_is_order {l m : List Nat} (p : l.Perm m) (hm : m.Pairwise (· < ·)) (hl : l.length ≤ 20) : F_is_order [natsD l, .list (m.map natD)] = some (.bool true) := by
  have lc : ∀ v : VE, v.length = 3 → lcGo (gvName 2) xYes (xCB F_is_number (xCons (xVar 2) xNil)) v (l.map natD) = some (l.map fun _ => .bool true) := fun v hv => by
    rw [lcGo_typ natD (fun _ => true) (fun _ => .bool true) fun x _ => ⟨v.set 2 (some (natD x)), rfl, rfl, fun _ => ?_⟩, List.filter_eq_self.mpr fun _ _ => rfl]
    have g : (v.set 2 (some (natD x)))[2]? = some (some (natD x)) := by simp [hv]
    simp only [q_cb, q_cons, q_var, q_nil, g, Option.bind_some, id, f_is_number]
  have al : allP (.list (l.map fun _ => PyData.bool true)) = some (.bool true) := by
    show (unB (l.map fun _ => PyData.bool true)).bind _ = _
    rw [unB_true, Option.bind_some]
    simp
  have so : sortP (natsD l) = some (.list (m.map natD)) := by
    show (unI (l.map natD)).bind _ = _
    rw [unI_nats, Option.bind_some, sort_perm p hm, List.map_map]
    rfl
  refine runP_ret (ρ1 := [.dat (natsD l), .dat (.list (m.map natD)), .un]) rfl ?_
  have so' : sortP (.tuple (l.map natD)) = some (.list (m.map natD)) := so
  have hl' : l.length ≤ 40000 := by omega
  simp [X_is_order, natsD, so', eq_nums, al, lc, hl', -List.map_map]
theorem atR_ends (rs : List Road) (s h : Nat) : atR rs s h = ((rs.map (side s)).zipIdx.filter fun p => p.1 == some h).map (·.2) := by
  unfold atR
  rw [List.zipIdx_map, List.filter_map, List.map_map]
  rfl
theorem lc_ends {rs : List Road} {s h : Nat} {v : VE} (hl : v.length = 7) (h3 : v[3]? = some (some (natD h))) :
    lcGo (gvTup 2 (gvCons (gvName 5) (gvCons (gvName 6) gvNil))) (xB (xOp eqP (xVar 6) (xVar 3))) (xVar 5) v (pairsD ((rs.map (side s)).map endD)) = some ((atR rs s h).map natD) := by
  rw [pairsD_map]
  rw [lcGo_typ (fun p : Option Nat × Nat => PyData.tuple [natD p.2, endD p.1]) (fun p => p.1 == some h) (fun p => natD p.2) fun p _ => ⟨(v.set 5 (some (natD p.2))).set 6 (some (endD p.1)), by simp, ?_, fun _ => ?_⟩]
  · rw [atR_ends, List.map_map]
    rfl
  · have g3 : ((v.set 5 (some (natD p.2))).set 6 (some (endD p.1)))[3]? = some (some (natD h)) := by simp [h3]
    have g6 : ((v.set 5 (some (natD p.2))).set 6 (some (endD p.1)))[6]? = some (some (endD p.1)) := by simp [hl]
    simp only [q_B, q_op, q_var, g3, g6, Option.bind_some, id, eq_end, q_isB]
  · have g5 : ((v.set 5 (some (natD p.2))).set 6 (some (endD p.1)))[5]? = some (some (natD p.2)) := by
      rw [List.getElem?_set_ne (by decide), List.getElem?_set_self (by omega)]
    simp only [q_var, g5, Option.bind_some, id]
theorem f_order_fault {rs : List Road} {os : List (List Nat)} {s : Nat} {pl : PD} (ho : os.length ≤ 8) (hr : rs.length ≤ 20) (hp : ∀ (k : Nat) (l : List Nat), os[k]? = some l → l.Perm (atR rs s k)) : F_order_fault [pl, .tuple (os.map natsD), .list ((rs.map (side s)).map endD)] = some .none := by
  obtain ⟨ρ', w1, y3, y4, rfl⟩ := forGo_inv (g := gTup' 2 (gCons' (gName' 3) (gCons' (gName' 4) gNil'))) (b := sIf (wMT (xTNot (xB (xCB F_is_order (xCons (xVar 4) (xCons (xLc (xiA enumP (xCons (xVar 2) xNil)) (gvTup 2 (gvCons (gvName 5) (gvCons (gvName 6) gvNil))) (xB (xOp eqP (xVar 6) (xVar 3))) (xVar 5) [5, 6]) xNil)))))) (sRet (wM (xTup (xCons (xTup (xCons (xVar 0) (xCons (xVar 3) xNil))) (xCons (xC (.str "order")) xNil))))) sNext) (xs := pairsD (os.map natsD))
    (ρ := [.dat pl, .dat (.tuple (os.map natsD)), .dat (.list ((rs.map (side s)).map endD)), .un, .un, .un, .un])
    (fun k ρ => ∃ y3 y4 : Sl, ρ = [.dat pl, .dat (.tuple (os.map natsD)), .dat (.list ((rs.map (side s)).map endD)), y3, y4, .un, .un]) ⟨.un, .un, rfl⟩ fun i x ρ hx ⟨y3, y4, e⟩ => by
      subst e
      rw [pairsD_map, List.getElem?_map, List.getElem?_zipIdx] at hx
      cases hl : os[i]? with
      | none => rw [hl] at hx; simp at hx
      | some l =>
        rw [hl] at hx
        simp at hx
        subst hx
        have p := hp i l hl
        have hle : l.length ≤ 20 := by rw [p.length_eq]; exact Nat.le_trans atR_len hr
        refine ⟨[.dat pl, .dat (.tuple (os.map natsD)), .dat (.list ((rs.map (side s)).map endD)), .dat (natD i), .dat (natsD l), .un, .un], [.dat pl, .dat (.tuple (os.map natsD)), .dat (.list ((rs.map (side s)).map endD)), .dat (natD i), .dat (natsD l), .un, .un], by simp, ?_, _, _, rfl⟩
        have lc := lc_ends (rs := rs) (s := s) (h := i) (v := [some pl, some (.tuple (os.map natsD)), some (.list ((rs.map (side s)).map endD)), some (natD i), some (natsD l), none, none]) rfl rfl
        have le : (pairsD ((rs.map (side s)).map endD)).length ≤ 40000 := by rw [pairsD_map]; simp; omega
        simp only [q_sIf, q_wMT, q_tnot, q_B, q_cb, q_cons, q_var, q_lc, q_xiA, q_nil, q_mk_cons, q_mk_nil, q_mk_dat, q_mk_un, List.getElem?_cons_succ, List.getElem?_cons_zero, Option.bind_some, id, q_enum_l, q_clear_cons, q_clear_nil, List.set_cons_succ, List.set_cons_zero, if_pos le, lc, f_is_order p (atR_sorted rs s i) hle, q_isB, Bool.not_true, if_neg Bool.false_ne_true, q_sNext]
  refine runP_ret (ρ1 := [.dat pl, .dat (.tuple (os.map natsD)), .dat (.list ((rs.map (side s)).map endD)), y3, y4, .un, .un]) rfl ?_
  unfold X_order_fault
  exact (sSeq_nxt ((sFor_at (xs := pairsD (os.map natsD)) (ρ1 := [.dat pl, .dat (.tuple (os.map natsD)), .dat (.list ((rs.map (side s)).map endD)), .un, .un, .un, .un]) rfl).trans w1)).trans rfl
theorem eq_ends {x y : Option Nat} (h : x ≠ y) : eqP (endD x) (endD y) = some (.bool false) := by
  cases x with
  | none => cases y with
    | none => exact absurd rfl h
    | some k => rfl
  | some j => cases y with
    | none => rfl
    | some k =>
      show some (PyData.bool ((j : Int) == (k : Int))) = _
      congr 2
      have : j ≠ k := fun e => h (by rw [e])
      simp
      omega
theorem f_road_fault {x : Road} {n : Nat} {nu : PD} (h : OkRoad n x) : F_road_fault [nu, roadD x, natD n] = some .none := by
  obtain ⟨h0, h1, h2, h3, h4⟩ := h
  have e1 : F_is_tuple_of [roadD x, .int 3, .int 3] = some (.bool true) := f_tuple_of (ds := [endD x.b, endD x.e, .int x.r]) (a := 3) (b := 3) (Nat.le_refl _) (Nat.le_refl _)
  have e2 := f_is_end h1
  have e3 := f_is_end h2
  have e4 : F_is_number_to [.int x.r, .int 1000000000000] = some (.bool true) := f_number_to h3 h4
  have e5 := eq_ends h0
  refine runP_ret (ρ1 := [.dat nu, .dat (roadD x), .dat (natD n), .dat (endD x.b), .dat (endD x.e), .dat (.int x.r)]) rfl ?_
  unfold X_road_fault
  have sq : seqP (roadD x) = some [endD x.b, endD x.e, .int x.r] := rfl
  simp [sSeq, e1, e2, e3, e4, e5, sq]
end K45

namespace K45
open PySem PySem.Spec PyProof.Rows L2 Uv
abbrev bodyF : XS := sSeq (sAsg (gName' 6) (wM (xCB F_road_fault (xCons (xVar 4) (xCons (xVar 5) (xCons (xCB (on1 lenP) (xCons (xVar 2) xNil)) xNil))))))
    (sIf (wMT (xB (xOp isntP (xVar 6) (xC .none)))) (sRet (wM (xVar 6))) sNext)
theorem lc_side {rs : List Road} {s : Nat} {i : Nat} (hi : i = if s = 0 then 7 else 8) {v : VE} (hl : v.length = 10) :
    lcGo (gvTup 3 (gvCons (gvName 7) (gvCons (gvName 8) (gvCons (gvName 9) gvNil)))) xYes (xVar i) v (rs.map roadD) = some ((rs.map (side s)).map endD) := by
  rw [lcGo_typ roadD (fun _ => true) (fun x => endD (side s x)) fun x _ => ⟨((v.set 7 (some (endD x.b))).set 8 (some (endD x.e))).set 9 (some (.int x.r)), rfl, rfl, fun _ => ?_⟩, List.filter_eq_self.mpr fun _ _ => rfl, List.map_map]
  · rfl
  · by_cases c : s = 0
    · rw [if_pos c] at hi
      have g : (((v.set 7 (some (endD x.b))).set 8 (some (endD x.e))).set 9 (some (.int x.r)))[7]? = some (some (endD x.b)) := by
        rw [List.getElem?_set_ne (by decide), List.getElem?_set_ne (by decide), List.getElem?_set_self (by omega)]
      simp only [hi, q_var, g, Option.bind_some, id, side, if_pos c]
    · rw [if_neg c] at hi
      have g : (((v.set 7 (some (endD x.b))).set 8 (some (endD x.e))).set 9 (some (.int x.r)))[8]? = some (some (endD x.e)) := by
        rw [List.getElem?_set_ne (by decide), List.getElem?_set_self (by rw [List.length_set]; omega)]
      simp only [hi, q_var, g, Option.bind_some, id, side, if_neg c]
theorem f_webfault {W : Web} (h : IsWeb W) : F_webfault [webD W] = some .none := by
  have c := h.count
  have hh := h.houses
  obtain ⟨R, hR⟩ : ∃ R, R = PyData.tuple (W.roads.map roadD) := ⟨_, rfl⟩
  obtain ⟨G, hG⟩ : ∃ G, G = PyData.tuple (W.gives.map natsD) := ⟨_, rfl⟩
  obtain ⟨T, hT⟩ : ∃ T, T = PyData.tuple (W.takes.map natsD) := ⟨_, rfl⟩
  have hw : webD W = .tuple [R, G, T] := by rw [hR, hG, hT]; rfl
  have lG : lenP G = some (natD W.gives.length) := by rw [hG, q_len_t, List.length_map]
  have e1 : F_is_tuple_of [.tuple [R, G, T], .int 3, .int 3] = some (.bool true) := f_tuple_of (ds := [R, G, T]) (a := 3) (b := 3) (Nat.le_refl _) (Nat.le_refl _)
  have e2 : F_is_tuple_of [G, .int 1, .int 8] = some (.bool true) := by rw [hG]; exact f_tuple_of (a := 1) (b := 8) (by rw [List.length_map]; exact hh.1) (by rw [List.length_map]; exact hh.2)
  have e3 : F_is_tuple_of [T, natD W.gives.length, natD W.gives.length] = some (.bool true) := by rw [hT]; exact f_tuple_of (by rw [List.length_map, h.same]; exact Nat.le_refl _) (by rw [List.length_map, h.same]; exact Nat.le_refl _)
  have e4 : F_is_tuple_of [R, .int 1, .int 20] = some (.bool true) := by rw [hR]; exact f_tuple_of (a := 1) (b := 20) (by rw [List.length_map]; exact c.1) (by rw [List.length_map]; exact c.2)
  obtain ⟨ρ', w1, y4, y5, y6, rfl⟩ := forGo_inv (g := gTup' 2 (gCons' (gName' 4) (gCons' (gName' 5) gNil'))) (b := bodyF) (xs := pairsD (W.roads.map roadD)) (ρ := [.dat (.tuple [R, G, T]), .dat R, .dat G, .dat T, .un, .un, .un, .un, .un, .un])
    (fun k ρ => ∃ y4 y5 y6 : Sl, ρ = [.dat (.tuple [R, G, T]), .dat R, .dat G, .dat T, y4, y5, y6, .un, .un, .un]) ⟨.un, .un, .un, rfl⟩ fun i x ρ hx ⟨y4, y5, y6, e⟩ => by
      subst e
      rw [pairsD_map, List.getElem?_map, List.getElem?_zipIdx] at hx
      cases hl : W.roads[i]? with
      | none => rw [hl] at hx; simp at hx
      | some l =>
        rw [hl] at hx
        simp at hx
        subst hx
        have f := f_road_fault (nu := natD i) (h.road l (List.mem_of_getElem? hl))
        refine ⟨[.dat (.tuple [R, G, T]), .dat R, .dat G, .dat T, .dat (natD i), .dat (roadD l), y6, .un, .un, .un], [.dat (.tuple [R, G, T]), .dat R, .dat G, .dat T, .dat (natD i), .dat (roadD l), .dat .none, .un, .un, .un], by simp, ?_, _, _, _, rfl⟩
        refine (sSeq_nxt (ρ1 := [.dat (.tuple [R, G, T]), .dat R, .dat G, .dat T, .dat (natD i), .dat (roadD l), .dat .none, .un, .un, .un]) ?_).trans (by simp)
        simp [lG, f]
  have o1 := f_order_fault (rs := W.roads) (os := W.gives) (s := 0) (pl := .int 1) hh.2 c.2 h.give
  have o2 := f_order_fault (rs := W.roads) (os := W.takes) (s := 1) (pl := .int 2) (by rw [h.same]; exact hh.2) c.2 h.take
  rw [← hG] at o1
  rw [← hT] at o2
  have le : (W.roads.map roadD).length ≤ 40000 := by rw [List.length_map]; omega
  have l1 := lc_side (rs := W.roads) (s := 0) (i := 7) rfl (v := [some (.tuple [R, G, T]), some R, some G, some T, y4.mk, y5.mk, y6.mk, none, none, none]) rfl
  have l2 := lc_side (rs := W.roads) (s := 1) (i := 8) rfl (v := [some (.tuple [R, G, T]), some R, some G, some T, y4.mk, y5.mk, some .none, none, none, none]) rfl
  have sR : seqP R = some (W.roads.map roadD) := by rw [hR]; rfl
  rw [hw]
  refine runP_ret (ρ1 := [.dat (.tuple [R, G, T]), .dat R, .dat G, .dat T, y4, y5, .dat .none, .un, .un, .un]) rfl ?_
  unfold X_webfault
  refine (sSeq_nxt (ρ1 := [.dat (.tuple [R, G, T]), .un, .un, .un, .un, .un, .un, .un, .un, .un]) (by simp [e1])).trans ?_
  refine (sSeq_nxt (ρ1 := [.dat (.tuple [R, G, T]), .dat R, .dat G, .dat T, .un, .un, .un, .un, .un, .un]) (by simp)).trans ?_
  refine (sSeq_nxt (ρ1 := [.dat (.tuple [R, G, T]), .dat R, .dat G, .dat T, .un, .un, .un, .un, .un, .un]) (by simp [e2])).trans ?_
  refine (sSeq_nxt (ρ1 := [.dat (.tuple [R, G, T]), .dat R, .dat G, .dat T, .un, .un, .un, .un, .un, .un]) (by simp [e3, lG])).trans ?_
  refine (sSeq_nxt (ρ1 := [.dat (.tuple [R, G, T]), .dat R, .dat G, .dat T, .un, .un, .un, .un, .un, .un]) (by simp [e4])).trans ?_
  refine (sSeq_nxt ((sFor_at (xs := pairsD (W.roads.map roadD)) (ρ1 := [.dat (.tuple [R, G, T]), .dat R, .dat G, .dat T, .un, .un, .un, .un, .un, .un]) (by rw [hR]; rfl)).trans w1)).trans ?_
  refine (sSeq_nxt (ρ1 := [.dat (.tuple [R, G, T]), .dat R, .dat G, .dat T, y4, y5, .dat .none, .un, .un, .un]) ?_).trans ?_
  · simp only [q_sAsg, q_wM, q_cb, q_cons, q_c, q_var, q_lc, q_xiE, q_nil, q_mk_cons, q_mk_nil, q_mk_dat, q_mk_un, List.getElem?_cons_succ, List.getElem?_cons_zero, Option.bind_some, id, q_clear_cons, q_clear_nil, List.set_cons_succ, List.set_cons_zero, sR, if_pos le, l1, o1, q_gName]
  refine (sSeq_nxt (ρ1 := [.dat (.tuple [R, G, T]), .dat R, .dat G, .dat T, y4, y5, .dat .none, .un, .un, .un]) (by simp)).trans ?_
  simp only [q_sRet, q_wM, q_cb, q_cons, q_c, q_var, q_lc, q_xiE, q_nil, q_mk_cons, q_mk_nil, q_mk_dat, q_mk_un, List.getElem?_cons_succ, List.getElem?_cons_zero, Option.bind_some, id, q_clear_cons, q_clear_nil, List.set_cons_succ, List.set_cons_zero, sR, if_pos le, l2, o2]
end K45

namespace K45
open PySem PySem.Spec PyProof.Rows L2 Uv
theorem cut_to {ds : List PD} {k : Nat} (h : k ≤ ds.length) : Uv.cutD ds none (some (k : Int)) = ds.take k := by
  unfold Uv.cutD
  rw [HT.sIx_none, HT.sIx_nat, Nat.min_eq_left h]
  rfl
theorem cut_from {ds : List PD} {k : Nat} (h : k ≤ ds.length) : Uv.cutD ds (some (k : Int)) none = ds.drop k := by
  unfold Uv.cutD
  rw [HT.sIx_none, HT.sIx_nat, Nat.min_eq_left h]
  exact List.take_of_length_le (by rw [List.length_drop]; exact Nat.le_refl _)
theorem f_exchanged {ds : List PD} {k : Nat} {d : PD} (h : k < ds.length) (hl : ds.length ≤ 1000) : F_exchanged [.tuple ds, natD k, d] = some (.tuple (ds.set k d)) := by
  refine runP_ret (ρ1 := [.dat (.tuple ds), .dat (natD k), .dat d]) rfl ?_
  have c1 := cut_to (ds := ds) (k := k) (by omega)
  have c2 : Uv.cutD ds (some ((k : Int) + 1)) none = ds.drop (k + 1) := cut_from (k := k + 1) (by omega)
  have l1 : (ds.take k).length = k := by rw [List.length_take]; omega
  have l2 : (ds.drop (k + 1)).length = ds.length - (k + 1) := List.length_drop
  have a1 : addP (.tuple (ds.take k)) (.tuple [d]) = some (.tuple (ds.take k ++ [d])) := by
    rw [q_add_t, if_pos (by rw [l1]; simp; omega)]
  have a2 : addP (.tuple (ds.take k ++ [d])) (.tuple (ds.drop (k + 1))) = some (.tuple (ds.set k d)) := by
    rw [q_add_t, if_pos (by rw [List.length_append, l1, l2]; simp; omega), List.set_eq_take_append_cons_drop, if_pos h, List.append_assoc]
    rfl
  unfold X_exchanged
  simp only [q_sRet, q_wM, q_op, q_sl, q_var, q_nop, q_part, q_tup, q_cons, q_nil, q_c, List.map_cons, List.map_nil, List.replicate_zero, List.append_nil, q_mk_cons, q_mk_nil, q_mk_dat, List.getElem?_cons_succ, List.getElem?_cons_zero, Option.bind_some, id, q_sl_t, c1, q_add_i, c2, List.length_cons, List.length_nil, if_pos (show 0 + 1 ≤ 100000 by decide), a1, a2]
def wider (W : Web) (k : Nat) (x : Road) (r : Int) : Web := ⟨W.roads.set k ⟨x.b, x.e, r⟩, W.gives, W.takes⟩
theorem map_set' {α β : Type} (f : α → β) (l : List α) (k : Nat) (x : α) : (l.map f).set k (f x) = (l.set k x).map f := by rw [List.map_set]
theorem cut2 {a b c : PD} : Uv.cutD [a, b, c] none (some 2) = [a, b] := cut_to (k := 2) (by simp)
theorem f_with_room {W : Web} {k : Nat} {x : Road} {r : Int} (hx : W.roads[k]? = some x) (hl : W.roads.length ≤ 20) : F_with_room [webD W, natD k, .int r] = some (webD (wider W k x r)) := by
  have hk : k < W.roads.length := (List.getElem?_eq_some_iff.mp hx).1
  obtain ⟨R, hR⟩ : ∃ R, R = W.roads.map roadD := ⟨_, rfl⟩
  obtain ⟨G, hG⟩ : ∃ G, G = PyData.tuple (W.gives.map natsD) := ⟨_, rfl⟩
  obtain ⟨T, hT⟩ : ∃ T, T = PyData.tuple (W.takes.map natsD) := ⟨_, rfl⟩
  have hw : webD W = .tuple [.tuple R, G, T] := by rw [hR, hG, hT]; rfl
  have e1 : F_exchanged [.tuple R, natD k, .tuple [endD x.b, endD x.e, .int r]] = some (.tuple (R.set k (roadD ⟨x.b, x.e, r⟩))) := f_exchanged (by rw [hR, List.length_map]; exact hk) (by rw [hR, List.length_map]; omega)
  have e2 : F_exchanged [.tuple [.tuple R, G, T], .int 0, .tuple (R.set k (roadD ⟨x.b, x.e, r⟩))] = some (webD (wider W k x r)) := by
    rw [show PyData.int 0 = natD 0 from rfl, f_exchanged (by simp) (by show 3 ≤ 1000; decide), hR, map_set', hG, hT]
    rfl
  have e3 : atI R (k : Int) = some (.tuple [endD x.b, endD x.e, .int x.r]) := by
    rw [atI_nat', hR, List.getElem?_map, hx]
    rfl
  rw [hw]
  refine runP_ret (ρ1 := [.dat (.tuple [.tuple R, G, T]), .dat (natD k), .dat (.int r), .dat (endD x.b), .dat (endD x.e)]) rfl ?_
  unfold X_with_room
  refine (sSeq_nxt (ρ1 := [.dat (.tuple [.tuple R, G, T]), .dat (natD k), .dat (.int r), .dat (endD x.b), .dat (endD x.e)]) (by simp [e3, cut2])).trans ?_
  simp [e1, e2]
theorem f_wide {W : Web} {k : Nat} {x : Road} {r : Int} (hx : W.roads[k]? = some x) (hl : W.roads.length ≤ 20) : F__law_wide [webD W, natD k, .int r] = some (webD (wider W k x r)) := by
  have hk : k < W.roads.length := (List.getElem?_eq_some_iff.mp hx).1
  obtain ⟨R, hR⟩ : ∃ R, R = W.roads.map roadD := ⟨_, rfl⟩
  obtain ⟨G, hG⟩ : ∃ G, G = PyData.tuple (W.gives.map natsD) := ⟨_, rfl⟩
  obtain ⟨T, hT⟩ : ∃ T, T = PyData.tuple (W.takes.map natsD) := ⟨_, rfl⟩
  have hw : webD W = .tuple [.tuple R, G, T] := by rw [hR, hG, hT]; rfl
  have e3 : atI R (k : Int) = some (.tuple [endD x.b, endD x.e, .int x.r]) := by
    rw [atI_nat', hR, List.getElem?_map, hx]
    rfl
  have hkR : k < (R.map Cel.dat).length := by rw [List.length_map, hR, List.length_map]; exact hk
  have fl : flat (.tuple [endD x.b, endD x.e, .int r]) = true := by
    have : ∀ o : Option Nat, flat (endD o) = true := fun o => by cases o <;> simp [endD]
    simp [this]
  have e4 : tupP (.list (R.set k (roadD ⟨x.b, x.e, r⟩))) = some (.tuple ((wider W k x r).roads.map roadD)) := by
    rw [q_tupP_l, hR, map_set']
    rfl
  have e5 : webD (wider W k x r) = .tuple [.tuple ((wider W k x r).roads.map roadD), G, T] := by rw [hG, hT]; rfl
  have da : datAt (R.map Cel.dat) k = some (roadD x) := by
    rw [datAt_dats, hR, List.getElem?_map, hx]
    rfl
  rw [hw]
  refine runP_ret (ρ1 := [.dat (.tuple [.tuple R, G, T]), .dat (natD k), .dat (.int r), .dat (.list (R.set k (roadD ⟨x.b, x.e, r⟩)))]) rfl ?_
  unfold X__law_wide
  refine (sSeq_nxt (ρ1 := [.dat (.tuple [.tuple R, G, T]), .dat (natD k), .dat (.int r), .own (R.map Cel.dat)]) (by simp)).trans ?_
  refine (sSeq_nxt (ρ1 := [.dat (.tuple [.tuple R, G, T]), .dat (natD k), .dat (.int r), .own ((R.map Cel.dat).set k (.dat (roadD ⟨x.b, x.e, r⟩)))]) ?_).trans ?_
  · have ow : ∀ {a b c : Sl}, ownAt [a, b, c, .own (R.map Cel.dat)] 3 = some (R.map Cel.dat) := rfl
    simp only [q_sSet, q_wV, q_op, q_sl, q_var, q_nop, q_part, q_tup, q_cons, q_nil, q_c, q_vw_cons, q_vw_nil, q_vw_dat, q_vw_own, map_dat_pd, List.getElem?_cons_succ, List.getElem?_cons_zero, Option.bind_some, id, q_ix_l, e3, q_sl_t, cut2, List.length_cons, List.length_nil, if_pos (show 0 + 1 ≤ 100000 by decide), q_add_t, if_pos (show 0 + 1 + 1 + (0 + 1) ≤ 100000 by decide), List.cons_append, List.nil_append, if_pos fl, ow, q_isI, ixN_nat' hkR, da, List.set_cons_succ, List.set_cons_zero]
    rfl
  · have fz : fzE [.dat (.tuple [.tuple R, G, T]), .dat (natD k), .dat (.int r), .own ((R.map Cel.dat).set k (.dat (roadD ⟨x.b, x.e, r⟩)))] 3 = [.dat (.tuple [.tuple R, G, T]), .dat (natD k), .dat (.int r), .dat (.list (R.set k (roadD ⟨x.b, x.e, r⟩)))] := by
      show [Sl.dat (PyData.tuple [.tuple R, G, T]), .dat (natD k), .dat (.int r), .dat (.list (((R.map Cel.dat).set k (.dat (roadD ⟨x.b, x.e, r⟩))).map Cel.pd))] = _
      rw [show Cel.dat (roadD ⟨x.b, x.e, r⟩) = Cel.dat (roadD ⟨x.b, x.e, r⟩) from rfl, map_set', map_dat_pd]
    simp only [q_sFz, fz]
    simp only [q_sRet, q_wM, q_op, q_var, q_tup, q_cons, q_nil, q_c, q_cb, q_on1, q_mk_cons, q_mk_nil, q_mk_dat, List.getElem?_cons_succ, List.getElem?_cons_zero, Option.bind_some, id, e4, q_ix_t, atI_1, atI_2, List.length_cons, List.length_nil, if_pos (show 0 + 1 + 1 + 1 ≤ 100000 by decide), e5]
theorem wider_web {W : Web} {k : Nat} {x : Road} {r : Int} (h : IsWeb W) (hx : W.roads[k]? = some x) (h0 : 0 ≤ r) (h1 : r ≤ 1000000000000) : IsWeb (wider W k x r) := by
  have hk : k < W.roads.length := (List.getElem?_eq_some_iff.mp hx).1
  have sd : ∀ s, (wider W k x r).roads.map (side s) = W.roads.map (side s) := fun s => by
    show (W.roads.set k ⟨x.b, x.e, r⟩).map (side s) = _
    rw [List.map_set]
    have e : side s ⟨x.b, x.e, r⟩ = side s x := by unfold side; rfl
    rw [e]
    refine List.ext_getElem? fun j => ?_
    rw [List.getElem?_set]
    split
    · rename_i c
      subst c
      rw [if_pos (by rw [List.length_map]; exact hk), List.getElem?_map, hx]
      rfl
    · rfl
  have at' : ∀ s j, atR (wider W k x r).roads s j = atR W.roads s j := fun s j => by rw [atR_ends, atR_ends, sd]
  refine ⟨h.houses, h.same, ?_, fun y hy => ?_, fun j l hl => ?_, fun j l hl => ?_⟩
  · show 1 ≤ (W.roads.set k _).length ∧ (W.roads.set k _).length ≤ 20
    rw [List.length_set]
    exact h.count
  · rcases List.mem_or_eq_of_mem_set hy with e | e
    · exact h.road y e
    · have := h.road x (List.mem_of_getElem? hx)
      rw [e]
      exact ⟨this.1, this.2.1, this.2.2.1, h0, h1⟩
  · rw [at']; exact h.give j l hl
  · rw [at']; exact h.take j l hl
end K45

namespace K45
open PySem PySem.Spec PyProof.Rows L2 Uv
theorem f_deck {ns : List Int} (h : ns.length ≤ 63) : ∃ cs : List Cel, F__law_deck [scrD (ns.map PyData.int)] = some cs ∧ DkD 0 cs := by
  have c : Uv.cutD (ns.map PyData.int) none (some 63) = ns.map PyData.int := by
    unfold Uv.cutD
    rw [HT.sIx_none, show (some (63 : Int)) = some ((63 : Nat) : Int) from rfl, HT.sIx_nat, List.length_map, Nat.min_eq_right h]
    exact List.take_of_length_le (by simp)
  have lc : ∀ v : VE, v.length = 2 → lcGo (gvName 1) xYes (xCB (on1 absP) (xCons (xVar 1) xNil)) v (ns.map PyData.int) = some ((ns.map fun i => if i < 0 then -i else i).map PyData.int) := fun v hv => by
    rw [lcGo_typ PyData.int (fun _ => true) (fun i => .int (if i < 0 then -i else i)) fun x _ => ⟨v.set 1 (some (.int x)), rfl, rfl, fun _ => ?_⟩, List.filter_eq_self.mpr fun _ _ => rfl, List.map_map]
    · rfl
    · have g : (v.set 1 (some (PyData.int x)))[1]? = some (some (.int x)) := by simp [hv]
      simp only [q_cb, q_cons, q_var, q_nil, g, Option.bind_some, id, q_on1, q_absP]
  refine ⟨[.sub ((ns.map fun i => if i < 0 then -i else i).map PyData.int), .dat (.int 0)], ?_, _, 0, rfl, by rw [List.length_map]; exact h, Int.le_refl _, Int.le_refl _⟩
  have le : (ns.map PyData.int).length ≤ 40000 := by rw [List.length_map]; omega
  have l1 := lc [some (scrD (ns.map PyData.int)), none] rfl
  have e : X__law_deck [.dat (scrD (ns.map PyData.int)), .un] = some (.retO [.sub ((ns.map fun i => if i < 0 then -i else i).map PyData.int), .dat (.int 0)] [.dat (scrD (ns.map PyData.int)), .un]) := by
    unfold X__law_deck
    simp only [q_sRetO, q_wOL, q_wcSub, q_wOM, q_lc, q_xiE, q_sl, q_var, q_nop, q_part, q_c, q_mk_cons, q_mk_nil, q_mk_dat, q_mk_un, List.getElem?_cons_succ, List.getElem?_cons_zero, Option.bind_some, id, q_sl_s, q_seq_l, c, if_pos le, q_clear_cons, q_clear_nil, List.set_cons_succ, List.set_cons_zero, l1, q_asList, q_allDat, q_wcDat, q_wM, q_wcNil, List.length_cons, List.length_nil, if_pos (show 0 + 1 + 1 ≤ 100000 by decide)]
  unfold F__law_deck runD
  simp [e]
abbrev B3 : XS := (sSeq (sAsg (gName' 8) (wM (xCB F_with_room (xCons (xVar 3) (xCons (xVar 5) (xCons (xVar 7) xNil))))))
    (sSeq (sIf (wMT (xB (xOp neP (xCB (on1 reprP) (xCons (xVar 8) xNil)) (xCB (on1 reprP) (xCons (xCB F__law_wide (xCons (xVar 3) (xCons (xVar 5) (xCons (xVar 7) xNil)))) xNil))))) (sRet (wM (xC (.bool false)))) sNext)
    (sIf (wMT (xTOr (xB (xOp isntP (xCB F_webfault (xCons (xVar 8) xNil)) (xC .none))) (xB (xOp neP (xCB (on1 reprP) (xCons (xVar 3) xNil)) (xVar 4))))) (sRet (wM (xC (.bool false)))) sNext)))
abbrev B2 : XS := sFor (wiE (wLst (wCons (wM (xC (.int 0))) (wCons (wM (xC (.int 1))) (wCons (wM (xOp ixP (xVar 6) (xC (.int 2)))) (wCons (wM (xOp powP (xC (.int 10)) (xC (.int 12)))) (wCons (wCallK 1 F__law_room wNil) wNil))))))) (gName' 7) B3
abbrev B1 : XS := sSeq (sAsg (gName' 3) (wCallK 1 F__law_far wNil))
    (sSeq (sAsg (gName' 4) (wM (xCB (on1 reprP) (xCons (xVar 3) xNil))))
    (sFor (wiA enumP (wCons (wM (xOp ixP (xVar 3) (xC (.int 0)))) wNil)) (gTup' 2 (gCons' (gName' 5) (gCons' (gName' 6) gNil'))) B2))
theorem b3 {W : Web} {i : Nat} {x : Road} {r : Int} {y0 y1 y2 y8 : Sl} {D S : PD} (h : IsWeb W) (hx : W.roads[i]? = some x) (h0 : 0 ≤ r) (h1 : r ≤ 1000000000000) (hD : D = webD W) (hS : S = .str (webD W).shown) :
    B3 [y0, y1, y2, .dat D, .dat S, .dat (natD i), .dat (roadD x), .dat (.int r), y8] = some (.nxt [y0, y1, y2, .dat D, .dat S, .dat (natD i), .dat (roadD x), .dat (.int r), .dat (webD (wider W i x r))]) := by
  have w := wider_web h hx h0 h1
  have e1 : F_with_room [D, natD i, .int r] = some (webD (wider W i x r)) := by rw [hD]; exact f_with_room hx h.count.2
  have e2 : F__law_wide [D, natD i, .int r] = some (webD (wider W i x r)) := by rw [hD]; exact f_wide hx h.count.2
  have e3 := f_webfault w
  have e4 := rp_of (pl_web w)
  have e5 : reprP D = some S := by rw [hD, hS]; exact rp_of (pl_web h)
  have e6 := ne_shown (pl_web w)
  have e7 : neP S S = some (.bool false) := by rw [hS]; exact ne_shown (pl_web h)
  refine (sSeq_nxt (ρ1 := [y0, y1, y2, .dat D, .dat S, .dat (natD i), .dat (roadD x), .dat (.int r), .dat (webD (wider W i x r))]) ?_).trans ?_
  · simp only [q_sAsg, q_wM, q_cb, q_cons, q_var, q_nil, q_mk_cons, q_mk_nil, q_mk_dat, List.getElem?_cons_succ, List.getElem?_cons_zero, Option.bind_some, id, e1, q_gName, List.set_cons_succ, List.set_cons_zero]
  refine (sSeq_nxt (ρ1 := [y0, y1, y2, .dat D, .dat S, .dat (natD i), .dat (roadD x), .dat (.int r), .dat (webD (wider W i x r))]) ?_).trans ?_
  · simp only [q_sIf, q_wMT, q_B, q_op, q_cb, q_cons, q_var, q_nil, q_on1, q_mk_cons, q_mk_nil, q_mk_dat, List.getElem?_cons_succ, List.getElem?_cons_zero, Option.bind_some, id, e2, e4, e6, q_isB, if_neg Bool.false_ne_true, q_sNext]
  · simp only [q_sIf, q_wMT, q_tor, q_B, q_op, q_cb, q_cons, q_var, q_nil, q_c, q_on1, q_mk_cons, q_mk_nil, q_mk_dat, List.getElem?_cons_succ, List.getElem?_cons_zero, Option.bind_some, id, e3, e5, e7, q_isnt, q_isNone_n, Bool.not_true, q_isB, if_neg Bool.false_ne_true, q_sNext]
theorem b2 {b : Nat} {cs : List Cel} {W : Web} {i : Nat} {x : Road} {y0 y2 y7 y8 : Sl} (d : DkD b cs) (hb : b + 5 ≤ 2 ^ 38) (h : IsWeb W) (hx : W.roads[i]? = some x) :
    ∃ (cs' : List Cel) (z7 z8 : Sl), B2 [y0, .own cs, y2, .dat (webD W), .dat (.str (webD W).shown), .dat (natD i), .dat (roadD x), y7, y8] = some (.nxt [y0, .own cs', y2, .dat (webD W), .dat (.str (webD W).shown), .dat (natD i), .dat (roadD x), z7, z8]) ∧ DkD (b + 5) cs' := by
  obtain ⟨r5, cs1, e1, a1, a2, d1⟩ := f_room d (by omega)
  obtain ⟨D, hD⟩ : ∃ D, D = webD W := ⟨_, rfl⟩
  obtain ⟨S, hS⟩ : ∃ S, S = PyData.str (webD W).shown := ⟨_, rfl⟩
  rw [← hS, ← hD]
  have ok := h.road x (List.mem_of_getElem? hx)
  obtain ⟨ρ', w1, z7, z8, rfl⟩ := forGo_inv (g := gName' 7) (b := B3) (xs := [.int 0, .int 1, .int x.r, .int 1000000000000, .int r5]) (ρ := [y0, .own cs1, y2, .dat D, .dat S, .dat (natD i), .dat (roadD x), y7, y8])
    (fun k ρ => ∃ z7 z8 : Sl, ρ = [y0, .own cs1, y2, .dat D, .dat S, .dat (natD i), .dat (roadD x), z7, z8]) ⟨y7, y8, rfl⟩ fun k q ρ hq ⟨z7, z8, e⟩ => by
      subst e
      obtain ⟨r, rfl, h0, h1⟩ : okRoom q := by
        have hm := List.mem_of_getElem? hq
        simp only [List.mem_cons, List.not_mem_nil, or_false] at hm
        rcases hm with e | e | e | e | e
        · exact ⟨0, e, by decide, by decide⟩
        · exact ⟨1, e, by decide, by decide⟩
        · exact ⟨_, e, ok.2.2.2.1, ok.2.2.2.2⟩
        · exact ⟨_, e, by decide, by decide⟩
        · exact ⟨_, e, a1, a2⟩
      exact ⟨_, _, rfl, b3 h hx h0 h1 hD hS, _, _, rfl⟩
  refine ⟨cs1, z7, z8, ?_, d1⟩
  refine (sFor_at (xs := [.int 0, .int 1, .int x.r, .int 1000000000000, .int r5]) (ρ1 := [y0, .own cs1, y2, .dat D, .dat S, .dat (natD i), .dat (roadD x), y7, y8]) ?_).trans w1
  have ix : ixP (roadD x) (.int 2) = some (.int x.r) := rfl
  have pw : powP (.int 10) (.int 12) = some (.int 1000000000000) := rfl
  have ck : wCallK 1 F__law_room wNil [y0, .own cs, y2, .dat D, .dat S, .dat (natD i), .dat (roadD x), y7, y8] = some (.int r5, [y0, .own cs1, y2, .dat D, .dat S, .dat (natD i), .dat (roadD x), y7, y8]) := callK_at (ρ1 := [y0, .own cs, y2, .dat D, .dat S, .dat (natD i), .dat (roadD x), y7, y8]) rfl rfl rfl e1
  simp only [q_wiE, q_wLst, q_wCons, q_wNil, q_wM, q_c, q_op, q_var, q_mk_cons, q_mk_nil, q_mk_dat, List.getElem?_cons_succ, List.getElem?_cons_zero, Option.bind_some, id, ix, pw, ck, List.length_cons, List.length_nil, if_pos (show 0 + 1 + 1 + 1 + 1 + 1 ≤ 100000 by decide), q_seq_l]
theorem b1 {b : Nat} {cs : List Cel} {y0 y2 y3 y4 y5 y6 y7 y8 : Sl} (d : DkD b cs) (hb : b + 700 ≤ 2 ^ 38) :
    ∃ (cs' : List Cel) (z3 z4 z5 z6 z7 z8 : Sl), B1 [y0, .own cs, y2, y3, y4, y5, y6, y7, y8] = some (.nxt [y0, .own cs', y2, z3, z4, z5, z6, z7, z8]) ∧ DkD (b + 700) cs' := by
  obtain ⟨W, cs1, e1, h, d1⟩ := f_far d (by omega)
  have c := h.count
  obtain ⟨ρ', w1, cs2, z5, z6, z7, z8, rfl, d2⟩ := forGo_inv (g := gTup' 2 (gCons' (gName' 5) (gCons' (gName' 6) gNil'))) (b := B2) (xs := pairsD (W.roads.map roadD)) (ρ := [y0, .own cs1, y2, .dat (webD W), .dat (.str (webD W).shown), y5, y6, y7, y8])
    (fun k ρ => ∃ (cs' : List Cel) (z5 z6 z7 z8 : Sl), ρ = [y0, .own cs', y2, .dat (webD W), .dat (.str (webD W).shown), z5, z6, z7, z8] ∧ DkD (b + 600 + 5 * k) cs') ⟨cs1, y5, y6, y7, y8, rfl, d1⟩ fun i q ρ hq ⟨cs', z5, z6, z7, z8, e, dd⟩ => by
      subst e
      have hi : i < W.roads.length := by
        have := (List.getElem?_eq_some_iff.mp hq).1
        rw [pairsD_map] at this
        simpa using this
      rw [pairsD_map, List.getElem?_map, List.getElem?_zipIdx] at hq
      cases hl : W.roads[i]? with
      | none => rw [hl] at hq; simp at hq
      | some l =>
        rw [hl] at hq
        simp at hq
        subst hq
        obtain ⟨cs3, u7, u8, e3, d3⟩ := b2 (y0 := y0) (y2 := y2) (y7 := z7) (y8 := z8) dd (by omega) h hl
        exact ⟨_, _, rfl, e3, cs3, _, _, _, _, rfl, d3.mono (by omega)⟩
  refine ⟨cs2, .dat (webD W), .dat (.str (webD W).shown), z5, z6, z7, z8, ?_, d2.mono (by rw [pairsD_map]; simp; omega)⟩
  refine (sSeq_nxt (ρ1 := [y0, .own cs1, y2, .dat (webD W), y4, y5, y6, y7, y8]) (sAsg_at (i := 3) (ρ1 := [y0, .own cs1, y2, y3, y4, y5, y6, y7, y8]) (callK_at (ρ1 := [y0, .own cs, y2, y3, y4, y5, y6, y7, y8]) (cs0 := cs) rfl rfl rfl e1))).trans ?_
  refine (sSeq_nxt (ρ1 := [y0, .own cs1, y2, .dat (webD W), .dat (.str (webD W).shown), y5, y6, y7, y8]) (sAsg_at (i := 4) (ρ1 := [y0, .own cs1, y2, .dat (webD W), y4, y5, y6, y7, y8]) (wM_at (call_at (ds := [webD W]) rfl (rp_of (pl_web h)))))).trans ?_
  exact (sFor_at (xs := pairsD (W.roads.map roadD)) (ρ1 := [y0, .own cs1, y2, .dat (webD W), .dat (.str (webD W).shown), y5, y6, y7, y8]) rfl).trans w1
theorem main (ns : List Int) (h : ns.length ≤ 63) : F_law [scrD (ns.map PyData.int)] = some (.bool true) := by
  obtain ⟨cs0, e0, d0⟩ := f_deck h
  obtain ⟨ρ', w1, cs1, z2, z3, z4, z5, z6, z7, z8, rfl, d1⟩ := forGo_inv (g := gName' 2) (b := B1) (xs := (List.range 3).map natD) (ρ := [.dat (scrD (ns.map PyData.int)), .own cs0, .un, .un, .un, .un, .un, .un, .un])
    (fun k ρ => ∃ (cs' : List Cel) (z2 z3 z4 z5 z6 z7 z8 : Sl), ρ = [.dat (scrD (ns.map PyData.int)), .own cs', z2, z3, z4, z5, z6, z7, z8] ∧ DkD (700 * k) cs') ⟨cs0, .un, .un, .un, .un, .un, .un, .un, rfl, d0⟩ fun i q ρ hq ⟨cs', z2, z3, z4, z5, z6, z7, z8, e, dd⟩ => by
      subst e
      have hi : i < 3 := by
        have := (List.getElem?_eq_some_iff.mp hq).1
        simpa using this
      obtain ⟨cs3, u3, u4, u5, u6, u7, u8, e3, d3⟩ := b1 (y0 := .dat (scrD (ns.map PyData.int))) (y2 := .dat q) (y3 := z3) (y4 := z4) (y5 := z5) (y6 := z6) (y7 := z7) (y8 := z8) dd (by omega)
      exact ⟨_, _, rfl, e3, cs3, _, _, _, _, _, _, _, rfl, d3.mono (by omega)⟩
  refine runP_ret (ρ1 := [.dat (scrD (ns.map PyData.int)), .dat (.list (cs1.map Cel.pd)), z2, z3, z4, z5, z6, z7, z8]) rfl ?_
  unfold X_law
  refine (sSeq_nxt (ρ1 := [.dat (scrD (ns.map PyData.int)), .own cs0, .un, .un, .un, .un, .un, .un, .un]) ?_).trans ?_
  · simp [e0]
  exact (sSeq_nxt ((sFor_at (e_rng (n := 3) (by decide))).trans w1)).trans rfl
end K45

namespace Row
open PySem PySem.Spec PyProof.Rows L2 Uv K45
def topS (i : Nat) : Stmt := PySem.Challenge.pw_unturned_k45_another_room.main.body.getD i (.Pass ⟨0, 0, 0, 0⟩)
abbrev s__law_deck : Stmt := topS 17
abbrev N__law_deck : List Str := ["_law_script", "_law_cell"]
theorem sc__law_deck : FnScope N__law_deck ["_law_script"] (defScope s__law_deck) := ⟨rfl, rfl, rfl, by decide +kernel, rfl, by decide +kernel, by decide +kernel⟩
abbrev s__law_draw : Stmt := topS 18
abbrev N__law_draw : List Str := ["_law_deck_here", "_law_many", "_law_cell", "_law_place", "_law_mixed"]
theorem sc__law_draw : FnScope N__law_draw ["_law_deck_here", "_law_many"] (defScope s__law_draw) := ⟨rfl, rfl, rfl, by decide +kernel, rfl, by decide +kernel, by decide +kernel⟩
abbrev s__law_ends : Stmt := topS 20
abbrev N__law_ends : List Str := ["_law_deck_here", "_law_many", "_law_way", "_law_here"]
theorem sc__law_ends : FnScope N__law_ends ["_law_deck_here", "_law_many"] (defScope s__law_ends) := ⟨rfl, rfl, rfl, by decide +kernel, rfl, by decide +kernel, by decide +kernel⟩
abbrev s__law_shuffled : Stmt := topS 19
abbrev N__law_shuffled : List Str := ["_law_deck_here", "_law_some", "_law_left", "_law_found"]
theorem sc__law_shuffled : FnScope N__law_shuffled ["_law_deck_here", "_law_some"] (defScope s__law_shuffled) := ⟨rfl, rfl, rfl, by decide +kernel, rfl, by decide +kernel, by decide +kernel⟩
abbrev s__law_ordered : Stmt := topS 21
abbrev N__law_ordered : List Str := ["_law_deck_here", "_law_many", "_law_roads", "_law_orders", "_law_side", "_law_house", "_law_own", "_law_number", "_law_road"]
theorem sc__law_ordered : FnScope N__law_ordered ["_law_deck_here", "_law_many", "_law_roads"] (defScope s__law_ordered) := ⟨rfl, rfl, rfl, by decide +kernel, rfl, by decide +kernel, by decide +kernel⟩
abbrev s__law_room : Stmt := topS 22
abbrev N__law_room : List Str := ["_law_deck_here", "_law_far_here", "_law_some"]
theorem sc__law_room : FnScope N__law_room ["_law_deck_here"] (defScope s__law_room) := ⟨rfl, rfl, rfl, by decide +kernel, rfl, by decide +kernel, by decide +kernel⟩
abbrev s__law_rounded : Stmt := topS 24
abbrev N__law_rounded : List Str := ["_law_deck_here", "_law_rooms", "_law_roads", "_law_gives", "_law_takes", "_law_k"]
theorem sc__law_rounded : FnScope N__law_rounded ["_law_deck_here"] (defScope s__law_rounded) := ⟨rfl, rfl, rfl, by decide +kernel, rfl, by decide +kernel, by decide +kernel⟩
abbrev s__law_far : Stmt := topS 23
abbrev N__law_far : List Str := ["_law_deck_here", "_law_many", "_law_roads", "_law_web", "_law_k"]
theorem sc__law_far : FnScope N__law_far ["_law_deck_here"] (defScope s__law_far) := ⟨rfl, rfl, rfl, by decide +kernel, rfl, by decide +kernel, by decide +kernel⟩
abbrev s__law_wide : Stmt := topS 25
abbrev N__law_wide : List Str := ["_law_web", "_law_road", "_law_room_here", "_law_roads"]
theorem sc__law_wide : FnScope N__law_wide ["_law_web", "_law_road", "_law_room_here"] (defScope s__law_wide) := ⟨rfl, rfl, rfl, by decide +kernel, rfl, by decide +kernel, by decide +kernel⟩
abbrev s_is_tuple_of : Stmt := topS 6
abbrev N_is_tuple_of : List Str := ["thing", "least", "most"]
theorem sc_is_tuple_of : FnScope N_is_tuple_of ["thing", "least", "most"] (defScope s_is_tuple_of) := ⟨rfl, rfl, rfl, by decide +kernel, rfl, by decide +kernel, by decide +kernel⟩
abbrev s_is_number : Stmt := topS 4
abbrev N_is_number : List Str := ["thing"]
theorem sc_is_number : FnScope N_is_number ["thing"] (defScope s_is_number) := ⟨rfl, rfl, rfl, by decide +kernel, rfl, by decide +kernel, by decide +kernel⟩
abbrev s_is_order : Stmt := topS 7
abbrev N_is_order : List Str := ["thing", "numbers", "number"]
theorem sc_is_order : FnScope N_is_order ["thing", "numbers"] (defScope s_is_order) := ⟨rfl, rfl, rfl, by decide +kernel, rfl, by decide +kernel, by decide +kernel⟩
abbrev s_order_fault : Stmt := topS 13
abbrev N_order_fault : List Str := ["place", "orders", "ends", "house", "order", "road", "end"]
theorem sc_order_fault : FnScope N_order_fault ["place", "orders", "ends"] (defScope s_order_fault) := ⟨rfl, rfl, rfl, by decide +kernel, rfl, by decide +kernel, by decide +kernel⟩
abbrev s_is_number_to : Stmt := topS 5
abbrev N_is_number_to : List Str := ["thing", "most"]
theorem sc_is_number_to : FnScope N_is_number_to ["thing", "most"] (defScope s_is_number_to) := ⟨rfl, rfl, rfl, by decide +kernel, rfl, by decide +kernel, by decide +kernel⟩
abbrev s_is_end : Stmt := topS 12
abbrev N_is_end : List Str := ["thing", "houses"]
theorem sc_is_end : FnScope N_is_end ["thing", "houses"] (defScope s_is_end) := ⟨rfl, rfl, rfl, by decide +kernel, rfl, by decide +kernel, by decide +kernel⟩
abbrev s_road_fault : Stmt := topS 11
abbrev N_road_fault : List Str := ["number", "road", "houses", "begin", "end", "room"]
theorem sc_road_fault : FnScope N_road_fault ["number", "road", "houses"] (defScope s_road_fault) := ⟨rfl, rfl, rfl, by decide +kernel, rfl, by decide +kernel, by decide +kernel⟩
abbrev s_webfault : Stmt := topS 10
abbrev N_webfault : List Str := ["thing", "roads", "gives", "takes", "number", "road", "fault", "begin", "end", "room"]
theorem sc_webfault : FnScope N_webfault ["thing"] (defScope s_webfault) := ⟨rfl, rfl, rfl, by decide +kernel, rfl, by decide +kernel, by decide +kernel⟩
abbrev s_exchanged : Stmt := topS 8
abbrev N_exchanged : List Str := ["things", "at", "thing"]
theorem sc_exchanged : FnScope N_exchanged ["things", "at", "thing"] (defScope s_exchanged) := ⟨rfl, rfl, rfl, by decide +kernel, rfl, by decide +kernel, by decide +kernel⟩
abbrev s_with_room : Stmt := topS 15
abbrev N_with_room : List Str := ["web", "road", "room", "begin", "end"]
theorem sc_with_room : FnScope N_with_room ["web", "road", "room"] (defScope s_with_room) := ⟨rfl, rfl, rfl, by decide +kernel, rfl, by decide +kernel, by decide +kernel⟩
abbrev s_law : Stmt := topS 26
abbrev N_law : List Str := ["_law_script", "_law_deck_here", "_law_turn", "_law_web", "_law_kept", "_law_number", "_law_road", "_law_room_here", "_law_found"]
theorem sc_law : FnScope N_law ["_law_script"] (defScope s_law) := ⟨rfl, rfl, rfl, by decide +kernel, rfl, by decide +kernel, by decide +kernel⟩
structure Bm (mg : Str → Option Value) : Prop where
  n_abs : mg "abs" = none
  n_all : mg "all" = none
  n_bool : mg "bool" = none
  n_enumerate : mg "enumerate" = none
  n_int : mg "int" = none
  n_isinstance : mg "isinstance" = none
  n_len : mg "len" = none
  n_list : mg "list" = none
  n_range : mg "range" = none
  n_repr : mg "repr" = none
  n_sorted : mg "sorted" = none
  n_tuple : mg "tuple" = none
section
variable [kk : KK] {P : Program} {w : World} {mg : Str → Option Value} {base : Heap}
theorem c__law_deck (F : Dfn K mg "_law_deck" s__law_deck ["_law_script"]) (B : Bm mg) : CalG P w K mg base 1 "_law_deck" (spD F__law_deck) := by
  refine cal_g F sc__law_deck (fun vs H Q E h => len_D h) (fun f cdv A outer s H E hG hr => ⟨T__law_deck, ?_, fun vs Q h => go_D (n := 1) (k := 1) ss__law_deck rfl h⟩)
  exact pss_one (ps_ret (pe_lst (pa_cons (pe_lc (own := [("_law_cell", 1)]) rfl sc__law_deck.nd (PI.or (pi_list (pe_slice sl_U (pv 0) po_none (po_some pe_int))) (pi_tup (pe_slice sl_U (pv 0) po_none (po_some pe_int)))) (blkOk_by (N := N__law_deck) (sc := defScope s__law_deck) (by decide +kernel)) (fun _ _ _ _ _ => (pg_name (i := 1) sc__law_deck.nd rfl (.inl rfl))) (fun _ _ _ _ _ => pts_nil) (fun _ _ _ _ _ => pe_callB call_abs (by rfl) B.n_abs (by decide +kernel) (pa_cons (pv 1) pa_nil))) (pa_cons pe_int pa_nil))))
theorem c__law_draw (F : Dfn K mg "_law_draw" s__law_draw ["_law_deck_here", "_law_many"]) (B : Bm mg) : CalG P w K mg base 1 "_law_draw" (spW F__law_draw) := by
  refine cal_g F sc__law_draw (fun vs H Q E h => len_W h) (fun f cdv A outer s H E hG hr => ⟨T__law_draw, ?_, fun vs Q h => go_W (n := 1) (k := 3) ss__law_draw rfl h⟩)
  exact pss_cons (ps_asg (pe_op op_addU (pe_ix ix_seq (pv 0) pe_int (fun _ _ => rfl)) pe_int) (pg_sub (pv 0) pe_int set_list))
      (pss_cons (ps_set (i := 2) sc__law_draw.nd rfl (.inl rfl) pe_int)
      (pss_cons (ps_if (pt_cmpR op_gt (pe_callB call_len_seq (by rfl) B.n_len (by decide +kernel) (pa_cons (pe_ix ix_seq (pv 0) pe_int (fun _ _ => rfl)) pa_nil)) pe_int (nomark _)) (pss_cons (ps_set (i := 3) sc__law_draw.nd rfl (.inl rfl) (pe_op op_mod (pe_ix ix_seq (pv 0) pe_int (fun _ _ => rfl)) (pe_callB call_len_seq (by rfl) B.n_len (by decide +kernel) (pa_cons (pe_ix ix_seq (pv 0) pe_int (fun _ _ => rfl)) pa_nil))))
      (pss_cons (ps_set (i := 2) sc__law_draw.nd rfl (.inl rfl) (pe_ix ix_seq (pe_ix ix_seq (pv 0) pe_int (fun _ _ => rfl)) (pv 3) (fun _ _ => rfl)))
      (pss_one (ps_if (pt_cmpR op_ge (pv 2) (pe_op op_pow pe_int pe_int) (nomark _)) (pss_cons (ps_asg (pe_op op_fdivW (pv 2) (pv 1)) (pg_sub (pe_ix ix_seq (pv 0) pe_int (fun _ _ => rfl)) (pv 3) set_list))
      (pss_one (ps_ret (pe_op op_mod (pv 2) (pv 1))))) pss_nil)))) pss_nil)
      (pss_cons (ps_set (i := 4) sc__law_draw.nd rfl (.inl rfl) (pe_op op_mod (pe_op op_pow (pe_op op_addU (pe_op op_addU (pe_op op_mod (pv 2) pe_int) (pe_op op_mulU pe_int (pe_ix ix_seq (pv 0) pe_int (fun _ _ => rfl)))) pe_int) pe_int) pe_int))
      (pss_one (ps_ret (pe_op op_mod (pe_op op_fdivW (pv 4) pe_int) (pv 1)))))))
theorem c__law_ends (F : Dfn K mg "_law_ends" s__law_ends ["_law_deck_here", "_law_many"]) (B : Bm mg) (c__law_draw : CalG P w K mg base 1 "_law_draw" (spW F__law_draw)) : CalG P w K mg base 2 "_law_ends" (spW F__law_ends) := by
  refine cal_g F sc__law_ends (fun vs H Q E h => len_W h) (fun f cdv A outer s H E hG hr => ⟨T__law_ends, ?_, fun vs Q h => go_W (n := 1) (k := 2) ss__law_ends rfl h⟩)
  exact pss_cons (ps_par (i := 2) (j := 3) rfl sc__law_ends.nd rfl rfl (by decide) rfl rfl (pa_cons (pe_g c__law_draw hr (by decide) hG (by rfl) (pa_cons (pv 0) (pa_cons pe_int pa_nil))) (pa_cons (pe_g c__law_draw hr (by decide) hG (by rfl) (pa_cons (pv 0) (pa_cons (pv 1) pa_nil))) pa_nil)) rfl)
      (pss_cons (ps_if (PW.pt (pw_or (pt_cmpR (op_eqD hr.units) (pv 2) pe_int (nomark _)) (pw_or1 (PW.pt (pw_and (pt_cmpR (op_eqD hr.units) (pv 1) pe_int (nomark _)) (pw_and1 (pt_cmpR op_lt (pv 2) pe_int (nomark _)))))))) (pss_one (ps_ret (pe_tupF (pa_cons pe_non (pa_cons (pv 3) pa_nil))))) pss_nil)
      (pss_cons (ps_if (PW.pt (pw_or (pt_cmpR (op_eqD hr.units) (pv 2) pe_int (nomark _)) (pw_or1 (pt_cmpR (op_eqD hr.units) (pv 1) pe_int (nomark _))))) (pss_one (ps_ret (pe_tupF (pa_cons (pv 3) (pa_cons pe_non pa_nil))))) pss_nil)
      (pss_one (ps_ret (pe_tupF (pa_cons (pv 3) (pa_cons (pe_op op_mod (pe_op op_addU (pe_op op_addU (pv 3) pe_int) (pe_g c__law_draw hr (by decide) hG (by rfl) (pa_cons (pv 0) (pa_cons (pe_op op_sub (pv 1) pe_int) pa_nil)))) (pv 1)) pa_nil)))))))
theorem c__law_shuffled (F : Dfn K mg "_law_shuffled" s__law_shuffled ["_law_deck_here", "_law_some"]) (B : Bm mg) (c__law_draw : CalG P w K mg base 1 "_law_draw" (spW F__law_draw)) : CalG P w K mg base 2 "_law_shuffled" (spW F__law_shuffled) := by
  refine cal_g F sc__law_shuffled (fun vs H Q E h => len_W h) (fun f cdv A outer s H E hG hr => ⟨T__law_shuffled, ?_, fun vs Q h => go_W (n := 1) (k := 2) ss__law_shuffled rfl h⟩)
  exact pss_cons (ps_set (i := 2) sc__law_shuffled.nd rfl (.inl rfl) (pe_callTy call_list_of (by rfl) B.n_list (by decide +kernel) (pa_cons (pv 1) pa_nil)))
      (pss_cons (ps_set (i := 3) sc__law_shuffled.nd rfl (.inl rfl) (pe_lst pa_nil))
      (pss_cons (ps_while PassesOwn.never (pt_cmpR (op_neD hr.units) (pv 2) (pe_lst pa_nil) (nomark _)) (pss_one (ps_expr (pe_bm PySem.F.plainAttrs_list PySem.F.slot_list_append PySem.F.type_list_append mt_append (pv 3) (pa_cons (pe_bm PySem.F.plainAttrs_list PySem.F.slot_list_pop PySem.F.type_list_pop mt_popAt (pv 2) (pa_cons (pe_g c__law_draw hr (by decide) hG (by rfl) (pa_cons (pv 0) (pa_cons (pe_callB call_len_seq (by rfl) B.n_len (by decide +kernel) (pa_cons (pv 2) pa_nil)) pa_nil))) pa_nil)) pa_nil)))))
      (pss_one (ps_ret (pe_callTy cr_tupF (by rfl) B.n_tuple (by decide +kernel) (pa_cons (pv 3) pa_nil))))))
theorem c__law_ordered (F : Dfn K mg "_law_ordered" s__law_ordered ["_law_deck_here", "_law_many", "_law_roads"]) (B : Bm mg) (c__law_shuffled : CalG P w K mg base 2 "_law_shuffled" (spW F__law_shuffled)) : CalG P w K mg base 3 "_law_ordered" (spW F__law_ordered) := by
  refine cal_g F sc__law_ordered (fun vs H Q E h => len_W h) (fun f cdv A outer s H E hG hr => ⟨T__law_ordered, ?_, fun vs Q h => go_W (n := 2) (k := 6) ss__law_ordered rfl h⟩)
  exact pss_cons (ps_set (i := 3) sc__law_ordered.nd rfl (.inl rfl) (pe_lst (pa_cons (pe_lst pa_nil) (pa_cons (pe_lst pa_nil) pa_nil))))
      (pss_cons (ps_for PassesOwn.never rfl (pi_range1 (by rfl) B.n_range (pa_cons pe_int pa_nil)) (pg_name (i := 4) sc__law_ordered.nd rfl (.inr rfl)) (pss_one (ps_for PassesOwn.never rfl (pi_range1 (by rfl) B.n_range (pa_cons (pv 1) pa_nil)) (pg_name (i := 5) sc__law_ordered.nd rfl (.inr rfl)) (pss_cons (ps_setLc (i := 6) (own := [("_law_number", 7), ("_law_road", 8)]) rfl sc__law_ordered.nd rfl rfl (sw_true rfl rfl rfl (by decide +kernel)) (PI.or (pi_enum (by rfl) B.n_enumerate (pa_cons (pv 2) pa_nil)) (Un.pi_enumT (by rfl) B.n_enumerate (pa_cons (pv 2) pa_nil))) (blkOk_by (N := N__law_ordered) (sc := defScope s__law_ordered) (by decide +kernel)) (fun _ _ _ _ _ => (PG.or (pg_tup rfl (pgs_cons (pg_name (i := 7) sc__law_ordered.nd rfl (.inl rfl)) (pgs_cons (pg_name (i := 8) sc__law_ordered.nd rfl (.inl rfl)) pgs_nil))) (pg_unl rfl (pgs_cons (pg_name (i := 7) sc__law_ordered.nd rfl (.inl rfl)) (pgs_cons (pg_name (i := 8) sc__law_ordered.nd rfl (.inl rfl)) pgs_nil))))) (fun _ _ _ _ _ => pts_one (pt_cmpR (op_eqD hr.units) (pe_ix ix_seq (pv 8) (pv 4) (fun _ _ => rfl)) (pv 5) (nomark _))) (fun _ _ _ _ _ => (pv 7)))
      (pss_one (ps_expr (pe_bm PySem.F.plainAttrs_list PySem.F.slot_list_append PySem.F.type_list_append mt_append (pe_ix ix_seq (pv 3) (pv 4) (fun _ _ => rfl)) (pa_cons (pe_g c__law_shuffled hr (by decide) hG (by rfl) (pa_cons (pv 0) (pa_cons (pv 6) pa_nil))) pa_nil))))))))
      (pss_one (ps_ret (pe_tupF (pa_cons (pe_callTy cr_tupF (by rfl) B.n_tuple (by decide +kernel) (pa_cons (pv 2) pa_nil)) (pa_cons (pe_callTy cr_tupF (by rfl) B.n_tuple (by decide +kernel) (pa_cons (pe_ix ix_seq (pv 3) pe_int (fun _ _ => rfl)) pa_nil)) (pa_cons (pe_callTy cr_tupF (by rfl) B.n_tuple (by decide +kernel) (pa_cons (pe_ix ix_seq (pv 3) pe_int (fun _ _ => rfl)) pa_nil)) pa_nil)))))))
theorem c__law_room (F : Dfn K mg "_law_room" s__law_room ["_law_deck_here"]) (B : Bm mg) (c__law_draw : CalG P w K mg base 1 "_law_draw" (spW F__law_draw)) : CalG P w K mg base 2 "_law_room" (spW F__law_room) := by
  refine cal_g F sc__law_room (fun vs H Q E h => len_W h) (fun f cdv A outer s H E hG hr => ⟨T__law_room, ?_, fun vs Q h => go_W (n := 0) (k := 2) ss__law_room rfl h⟩)
  exact pss_cons (ps_set (i := 1) sc__law_room.nd rfl (.inl rfl) (pe_op op_pow pe_int pe_int))
      (pss_cons (ps_set (i := 2) sc__law_room.nd rfl (.inl rfl) (pe_lst (pa_cons pe_int (pa_cons pe_int (pa_cons (pe_op op_addU pe_int (pe_g c__law_draw hr (by decide) hG (by rfl) (pa_cons (pv 0) (pa_cons pe_int pa_nil)))) (pa_cons (pe_op op_addU pe_int (pe_g c__law_draw hr (by decide) hG (by rfl) (pa_cons (pv 0) (pa_cons pe_int pa_nil)))) (pa_cons (pe_op op_addU pe_int (pe_g c__law_draw hr (by decide) hG (by rfl) (pa_cons (pv 0) (pa_cons (pv 1) pa_nil)))) pa_nil)))))))
      (pss_cons (ps_expr (pe_bm PySem.F.plainAttrs_list PySem.F.slot_list_append PySem.F.type_list_append mt_append (pv 2) (pa_cons (pe_op op_sub (pv 1) (pe_g c__law_draw hr (by decide) hG (by rfl) (pa_cons (pv 0) (pa_cons pe_int pa_nil)))) pa_nil)))
      (pss_one (ps_ret (pe_ix ix_seq (pv 2) (pe_g c__law_draw hr (by decide) hG (by rfl) (pa_cons (pv 0) (pa_cons pe_int pa_nil))) (fun _ _ => rfl))))))
theorem c__law_rounded (F : Dfn K mg "_law_rounded" s__law_rounded ["_law_deck_here"]) (B : Bm mg) (c__law_room : CalG P w K mg base 2 "_law_room" (spW F__law_room)) (c__law_shuffled : CalG P w K mg base 2 "_law_shuffled" (spW F__law_shuffled)) : CalG P w K mg base 3 "_law_rounded" (spW F__law_rounded) := by
  refine cal_g F sc__law_rounded (fun vs H Q E h => len_W h) (fun f cdv A outer s H E hG hr => ⟨T__law_rounded, ?_, fun vs Q h => go_W (n := 0) (k := 5) ss__law_rounded rfl h⟩)
  exact pss_cons (ps_setLc (i := 1) (own := [("_law_k", 5)]) rfl sc__law_rounded.nd rfl rfl (sw_true rfl rfl rfl (by decide +kernel)) (pi_range1 (by rfl) B.n_range (pa_cons pe_int pa_nil)) (blkOk_by (N := N__law_rounded) (sc := defScope s__law_rounded) (by decide +kernel)) (fun _ _ _ _ _ => (pg_name (i := 5) sc__law_rounded.nd rfl (.inl rfl))) (fun _ _ _ _ _ => pts_nil) (fun _ _ _ _ _ => pe_g c__law_room hr (by decide) hG (by rfl) (pa_cons (pv 0) pa_nil)))
      (pss_cons (ps_set (i := 2) sc__law_rounded.nd rfl (.inl rfl) (pe_lst (pa_cons (pe_tupF (pa_cons pe_int (pa_cons pe_int (pa_cons (pe_ix ix_seq (pv 1) pe_int (fun _ _ => rfl)) pa_nil)))) (pa_cons (pe_tupF (pa_cons pe_int (pa_cons pe_int (pa_cons (pe_ix ix_seq (pv 1) pe_int (fun _ _ => rfl)) pa_nil)))) (pa_cons (pe_tupF (pa_cons pe_int (pa_cons pe_int (pa_cons (pe_ix ix_seq (pv 1) pe_int (fun _ _ => rfl)) pa_nil)))) (pa_cons (pe_tupF (pa_cons pe_int (pa_cons pe_int (pa_cons (pe_ix ix_seq (pv 1) pe_int (fun _ _ => rfl)) pa_nil)))) (pa_cons (pe_tupF (pa_cons pe_non (pa_cons pe_int (pa_cons (pe_ix ix_seq (pv 1) pe_int (fun _ _ => rfl)) pa_nil)))) pa_nil)))))))
      (pss_cons (ps_set (i := 2) sc__law_rounded.nd rfl (.inl rfl) (pe_op op_addU (pv 2) (pe_lst (pa_cons (pe_tupF (pa_cons pe_int (pa_cons pe_non (pa_cons (pe_ix ix_seq (pv 1) pe_int (fun _ _ => rfl)) pa_nil)))) (pa_cons (pe_tupF (pa_cons pe_non (pa_cons pe_int (pa_cons (pe_ix ix_seq (pv 1) pe_int (fun _ _ => rfl)) pa_nil)))) (pa_cons (pe_tupF (pa_cons pe_int (pa_cons pe_non (pa_cons (pe_ix ix_seq (pv 1) pe_int (fun _ _ => rfl)) pa_nil)))) pa_nil))))))
      (pss_cons (ps_set (i := 3) sc__law_rounded.nd rfl (.inl rfl) (pe_tupF (pa_cons (pe_g c__law_shuffled hr (by decide) hG (by rfl) (pa_cons (pv 0) (pa_cons (pe_lst (pa_cons pe_int (pa_cons pe_int (pa_cons pe_int pa_nil)))) pa_nil))) (pa_cons (pe_g c__law_shuffled hr (by decide) hG (by rfl) (pa_cons (pv 0) (pa_cons (pe_lst (pa_cons pe_int (pa_cons pe_int (pa_cons pe_int pa_nil)))) pa_nil))) pa_nil))))
      (pss_cons (ps_set (i := 4) sc__law_rounded.nd rfl (.inl rfl) (pe_tupF (pa_cons (pe_g c__law_shuffled hr (by decide) hG (by rfl) (pa_cons (pv 0) (pa_cons (pe_lst (pa_cons pe_int (pa_cons pe_int (pa_cons pe_int pa_nil)))) pa_nil))) (pa_cons (pe_g c__law_shuffled hr (by decide) hG (by rfl) (pa_cons (pv 0) (pa_cons (pe_lst (pa_cons pe_int (pa_cons pe_int (pa_cons pe_int pa_nil)))) pa_nil))) pa_nil))))
      (pss_one (ps_ret (pe_tupF (pa_cons (pe_callTy cr_tupF (by rfl) B.n_tuple (by decide +kernel) (pa_cons (pv 2) pa_nil)) (pa_cons (pv 3) (pa_cons (pv 4) pa_nil))))))))))
theorem c__law_far (F : Dfn K mg "_law_far" s__law_far ["_law_deck_here"]) (B : Bm mg) (c__law_draw : CalG P w K mg base 1 "_law_draw" (spW F__law_draw)) (c__law_ends : CalG P w K mg base 2 "_law_ends" (spW F__law_ends)) (c__law_ordered : CalG P w K mg base 3 "_law_ordered" (spW F__law_ordered)) (c__law_room : CalG P w K mg base 2 "_law_room" (spW F__law_room)) (c__law_rounded : CalG P w K mg base 3 "_law_rounded" (spW F__law_rounded)) : CalG P w K mg base 4 "_law_far" (spW F__law_far) := by
  refine cal_g F sc__law_far (fun vs H Q E h => len_W h) (fun f cdv A outer s H E hG hr => ⟨T__law_far, ?_, fun vs Q h => go_W (n := 0) (k := 4) ss__law_far rfl h⟩)
  exact pss_cons (ps_set (i := 1) sc__law_far.nd rfl (.inr rfl) (pe_op op_addU pe_int (pe_g c__law_draw hr (by decide) hG (by rfl) (pa_cons (pv 0) (pa_cons pe_int pa_nil)))))
      (pss_cons (ps_setLc (i := 2) (own := [("_law_k", 4)]) rfl sc__law_far.nd rfl rfl (sw_true rfl rfl rfl (by decide +kernel)) (pi_range1 (by rfl) B.n_range (pa_cons (pe_op op_addU pe_int (pe_g c__law_draw hr (by decide) hG (by rfl) (pa_cons (pv 0) (pa_cons pe_int pa_nil)))) pa_nil)) (blkOk_by (N := N__law_far) (sc := defScope s__law_far) (by decide +kernel)) (fun _ _ _ _ _ => (pg_name (i := 4) sc__law_far.nd rfl (.inl rfl))) (fun _ _ _ _ _ => pts_nil) (fun _ _ _ _ _ => pe_op op_addU (pe_g c__law_ends hr (by decide) hG (by rfl) (pa_cons (pv 0) (pa_cons (pv 1) pa_nil))) (pe_tupF (pa_cons (pe_g c__law_room hr (by decide) hG (by rfl) (pa_cons (pv 0) pa_nil)) pa_nil))))
      (pss_cons (ps_set (i := 3) sc__law_far.nd rfl (.inl rfl) (pe_g c__law_ordered hr (by decide) hG (by rfl) (pa_cons (pv 0) (pa_cons (pv 1) (pa_cons (pv 2) pa_nil)))))
      (pss_one (ps_ret (pe_ifExp (pt_cmpR (op_eqD hr.units) (pe_g c__law_draw hr (by decide) hG (by rfl) (pa_cons (pv 0) (pa_cons pe_int pa_nil))) pe_int (nomark _)) (pe_g c__law_rounded hr (by decide) hG (by rfl) (pa_cons (pv 0) pa_nil)) (pv 3))))))
theorem c__law_wide (F : Dfn K mg "_law_wide" s__law_wide ["_law_web", "_law_road", "_law_room_here"]) (B : Bm mg) : CalG P w K mg base 1 "_law_wide" (spF F__law_wide) := by
  refine cal_g F sc__law_wide (fun vs H Q E h => len_F h) (fun f cdv A outer s H E hG hr => ⟨T__law_wide, ?_, fun vs Q h => go_P (n := 3) (k := 1) ss__law_wide rfl h⟩)
  exact pss_cons (ps_set (i := 3) sc__law_wide.nd rfl (.inl rfl) (pe_callTy call_list_of (by rfl) B.n_list (by decide +kernel) (pa_cons (pe_ix ix_seq (pv 0) pe_int (fun _ _ => rfl)) pa_nil)))
      (pss_cons (ps_asg (pe_op op_addU (pe_slice sl_U (pe_ix ix_seq (pv 3) (pv 1) (fun _ _ => rfl)) po_none (po_some pe_int)) (pe_tupF (pa_cons (pv 2) pa_nil))) (pg_sub (pv 3) (pv 1) set_list))
      (pss_one (ps_ret (pe_tupF (pa_cons (pe_callTy cr_tupF (by rfl) B.n_tuple (by decide +kernel) (pa_cons (pv 3) pa_nil)) (pa_cons (pe_ix ix_seq (pv 0) pe_int (fun _ _ => rfl)) (pa_cons (pe_ix ix_seq (pv 0) pe_int (fun _ _ => rfl)) pa_nil)))))))
theorem c_is_tuple_of (F : Dfn K mg "is_tuple_of" s_is_tuple_of ["thing", "least", "most"]) (B : Bm mg) : CalG P w K mg base 1 "is_tuple_of" (spF F_is_tuple_of) := by
  refine cal_g F sc_is_tuple_of (fun vs H Q E h => len_F h) (fun f cdv A outer s H E hG hr => ⟨T_is_tuple_of, ?_, fun vs Q h => go_P (n := 3) (k := 0) ss_is_tuple_of rfl h⟩)
  exact pss_one (ps_ret (pe_and (pe_callB call_isi (by rfl) B.n_isinstance (by decide +kernel) (pa_cons (pv 0) (pa_cons (pe_bltn (v := .ty "tuple") (by rfl) B.n_tuple (by decide +kernel) rfl) pa_nil))) (pe_one (pe_chain op_le op_le (pv 1) (pe_callB call_len_seq (by rfl) B.n_len (by decide +kernel) (pa_cons (pv 0) pa_nil)) (pv 2)))))
theorem c_is_number (F : Dfn K mg "is_number" s_is_number ["thing"]) (B : Bm mg) : CalG P w K mg base 1 "is_number" (spF F_is_number) := by
  refine cal_g F sc_is_number (fun vs H Q E h => len_F h) (fun f cdv A outer s H E hG hr => ⟨T_is_number, ?_, fun vs Q h => go_P (n := 1) (k := 0) ss_is_number rfl h⟩)
  exact pss_one (ps_ret (pe_and (pe_callB call_isi (by rfl) B.n_isinstance (by decide +kernel) (pa_cons (pv 0) (pa_cons (pe_bltn (v := .ty "int") (by rfl) B.n_int (by decide +kernel) rfl) pa_nil))) (pe_one (pe_not (pe_callB call_isi (by rfl) B.n_isinstance (by decide +kernel) (pa_cons (pv 0) (pa_cons (pe_bltn (v := .ty "bool") (by rfl) B.n_bool (by decide +kernel) rfl) pa_nil)))))))
theorem c_is_order (F : Dfn K mg "is_order" s_is_order ["thing", "numbers"]) (B : Bm mg) (c_is_number : CalG P w K mg base 1 "is_number" (spF F_is_number)) : CalG P w K mg base 2 "is_order" (spF F_is_order) := by
  refine cal_g F sc_is_order (fun vs H Q E h => len_F h) (fun f cdv A outer s H E hG hr => ⟨T_is_order, ?_, fun vs Q h => go_P (n := 2) (k := 1) ss_is_order rfl h⟩)
  exact pss_one (ps_ret (pe_and (pe_callB call_isi (by rfl) B.n_isinstance (by decide +kernel) (pa_cons (pv 0) (pa_cons (pe_bltn (v := .ty "tuple") (by rfl) B.n_tuple (by decide +kernel) rfl) pa_nil))) (pe_and (pe_callB (cr_all rfl) (by rfl) B.n_all (by decide +kernel) (pa_cons (pe_lc (own := [("number", 2)]) rfl sc_is_order.nd (PI.or (pi_list (pv 0)) (pi_tup (pv 0))) (blkOk_by (N := N_is_order) (sc := defScope s_is_order) (by decide +kernel)) (fun _ _ _ _ _ => (pg_name (i := 2) sc_is_order.nd rfl (.inl rfl))) (fun _ _ _ _ _ => pts_nil) (fun _ _ _ _ _ => pe_g c_is_number hr (by decide) hG (by rfl) (pa_cons (pv 2) pa_nil))) pa_nil)) (pe_one (pe_cmpR (op_eqD hr.units) (pe_callB cr_sortedU (by rfl) B.n_sorted (by decide +kernel) (pa_cons (pv 0) pa_nil)) (pv 1) (nomark _))))))
theorem c_order_fault (F : Dfn K mg "order_fault" s_order_fault ["place", "orders", "ends"]) (B : Bm mg) (c_is_order : CalG P w K mg base 2 "is_order" (spF F_is_order)) : CalG P w K mg base 3 "order_fault" (spF F_order_fault) := by
  refine cal_g F sc_order_fault (fun vs H Q E h => len_F h) (fun f cdv A outer s H E hG hr => ⟨T_order_fault, ?_, fun vs Q h => go_P (n := 3) (k := 4) ss_order_fault rfl h⟩)
  exact pss_cons (ps_for PassesOwn.never rfl (PI.or (pi_enum (by rfl) B.n_enumerate (pa_cons (pv 1) pa_nil)) (Un.pi_enumT (by rfl) B.n_enumerate (pa_cons (pv 1) pa_nil))) (PG.or (pg_tup rfl (pgs_cons (pg_name (i := 3) sc_order_fault.nd rfl (.inr rfl)) (pgs_cons (pg_name (i := 4) sc_order_fault.nd rfl (.inl rfl)) pgs_nil))) (pg_unl rfl (pgs_cons (pg_name (i := 3) sc_order_fault.nd rfl (.inr rfl)) (pgs_cons (pg_name (i := 4) sc_order_fault.nd rfl (.inl rfl)) pgs_nil)))) (pss_one (ps_if (pt_not (pt_val (pe_g c_is_order hr (by decide) hG (by rfl) (pa_cons (pv 4) (pa_cons (pe_lc (own := [("road", 5), ("end", 6)]) rfl sc_order_fault.nd (PI.or (pi_enum (by rfl) B.n_enumerate (pa_cons (pv 2) pa_nil)) (Un.pi_enumT (by rfl) B.n_enumerate (pa_cons (pv 2) pa_nil))) (blkOk_by (N := N_order_fault) (sc := defScope s_order_fault) (by decide +kernel)) (fun _ _ _ _ _ => (PG.or (pg_tup rfl (pgs_cons (pg_name (i := 5) sc_order_fault.nd rfl (.inl rfl)) (pgs_cons (pg_name (i := 6) sc_order_fault.nd rfl (.inl rfl)) pgs_nil))) (pg_unl rfl (pgs_cons (pg_name (i := 5) sc_order_fault.nd rfl (.inl rfl)) (pgs_cons (pg_name (i := 6) sc_order_fault.nd rfl (.inl rfl)) pgs_nil))))) (fun _ _ _ _ _ => pts_one (pt_cmpR (op_eqD hr.units) (pv 6) (pv 3) (nomark _))) (fun _ _ _ _ _ => (pv 5))) pa_nil))))) (pss_one (ps_ret (pe_tupF (pa_cons (pe_tupF (pa_cons (pv 0) (pa_cons (pv 3) pa_nil))) (pa_cons pe_str pa_nil))))) pss_nil)))
      (pss_one (ps_ret pe_non))
theorem c_is_number_to (F : Dfn K mg "is_number_to" s_is_number_to ["thing", "most"]) (B : Bm mg) (c_is_number : CalG P w K mg base 1 "is_number" (spF F_is_number)) : CalG P w K mg base 2 "is_number_to" (spF F_is_number_to) := by
  refine cal_g F sc_is_number_to (fun vs H Q E h => len_F h) (fun f cdv A outer s H E hG hr => ⟨T_is_number_to, ?_, fun vs Q h => go_P (n := 2) (k := 0) ss_is_number_to rfl h⟩)
  exact pss_one (ps_ret (pe_and (pe_g c_is_number hr (by decide) hG (by rfl) (pa_cons (pv 0) pa_nil)) (pe_one (pe_chain op_le op_le pe_int (pv 0) (pv 1)))))
theorem c_is_end (F : Dfn K mg "is_end" s_is_end ["thing", "houses"]) (B : Bm mg) (c_is_number_to : CalG P w K mg base 2 "is_number_to" (spF F_is_number_to)) : CalG P w K mg base 3 "is_end" (spF F_is_end) := by
  refine cal_g F sc_is_end (fun vs H Q E h => len_F h) (fun f cdv A outer s H E hG hr => ⟨T_is_end, ?_, fun vs Q h => go_P (n := 2) (k := 0) ss_is_end rfl h⟩)
  exact pss_one (ps_ret (pe_or (pe_cmpR op_isN (pv 0) pe_non (nomark _)) (pe_one (pe_g c_is_number_to hr (by decide) hG (by rfl) (pa_cons (pv 0) (pa_cons (pe_op op_sub (pv 1) pe_int) pa_nil))))))
theorem c_road_fault (F : Dfn K mg "road_fault" s_road_fault ["number", "road", "houses"]) (B : Bm mg) {t_GREAT : Tok} (m_GREAT : mg "GREAT" = some (.int 1000000000000 t_GREAT)) (c_is_end : CalG P w K mg base 3 "is_end" (spF F_is_end)) (c_is_number_to : CalG P w K mg base 2 "is_number_to" (spF F_is_number_to)) (c_is_tuple_of : CalG P w K mg base 1 "is_tuple_of" (spF F_is_tuple_of)) : CalG P w K mg base 4 "road_fault" (spF F_road_fault) := by
  refine cal_g F sc_road_fault (fun vs H Q E h => len_F h) (fun f cdv A outer s H E hG hr => ⟨T_road_fault, ?_, fun vs Q h => go_P (n := 3) (k := 3) ss_road_fault rfl h⟩)
  exact pss_cons (ps_if (pt_not (pt_val (pe_g c_is_tuple_of hr (by decide) hG (by rfl) (pa_cons (pv 1) (pa_cons pe_int (pa_cons pe_int pa_nil)))))) (pss_one (ps_ret (pe_tupF (pa_cons (pe_tupF (pa_cons pe_int (pa_cons (pv 0) pa_nil))) (pa_cons pe_str pa_nil))))) pss_nil)
      (pss_cons (ps_asg (pv 1) (PG.or (pg_tup rfl (pgs_cons (pg_name (i := 3) sc_road_fault.nd rfl (.inl rfl)) (pgs_cons (pg_name (i := 4) sc_road_fault.nd rfl (.inl rfl)) (pgs_cons (pg_name (i := 5) sc_road_fault.nd rfl (.inl rfl)) pgs_nil)))) (pg_unl rfl (pgs_cons (pg_name (i := 3) sc_road_fault.nd rfl (.inl rfl)) (pgs_cons (pg_name (i := 4) sc_road_fault.nd rfl (.inl rfl)) (pgs_cons (pg_name (i := 5) sc_road_fault.nd rfl (.inl rfl)) pgs_nil))))))
      (pss_cons (ps_if (pt_not (pt_val (pe_g c_is_end hr (by decide) hG (by rfl) (pa_cons (pv 3) (pa_cons (pv 2) pa_nil))))) (pss_one (ps_ret (pe_tupF (pa_cons (pe_tupF (pa_cons pe_int (pa_cons (pv 0) (pa_cons pe_int pa_nil)))) (pa_cons pe_str pa_nil))))) pss_nil)
      (pss_cons (ps_if (pt_not (pt_val (pe_g c_is_end hr (by decide) hG (by rfl) (pa_cons (pv 4) (pa_cons (pv 2) pa_nil))))) (pss_one (ps_ret (pe_tupF (pa_cons (pe_tupF (pa_cons pe_int (pa_cons (pv 0) (pa_cons pe_int pa_nil)))) (pa_cons pe_str pa_nil))))) pss_nil)
      (pss_cons (ps_if (pt_cmpR (op_eqD hr.units) (pv 3) (pv 4) (nomark _)) (pss_one (ps_ret (pe_tupF (pa_cons (pe_tupF (pa_cons pe_int (pa_cons (pv 0) pa_nil))) (pa_cons pe_str pa_nil))))) pss_nil)
      (pss_cons (ps_if (pt_not (pt_val (pe_g c_is_number_to hr (by decide) hG (by rfl) (pa_cons (pv 5) (pa_cons (pe_glob (by rfl) m_GREAT ⟨_, rfl⟩) pa_nil))))) (pss_one (ps_ret (pe_tupF (pa_cons (pe_tupF (pa_cons pe_int (pa_cons (pv 0) (pa_cons pe_int pa_nil)))) (pa_cons pe_str pa_nil))))) pss_nil)
      (pss_one (ps_ret pe_non)))))))
theorem c_webfault (F : Dfn K mg "webfault" s_webfault ["thing"]) (B : Bm mg) {t_HOUSES : Tok} (m_HOUSES : mg "HOUSES" = some (.int 8 t_HOUSES)) {t_ROADS : Tok} (m_ROADS : mg "ROADS" = some (.int 20 t_ROADS)) (c_is_tuple_of : CalG P w K mg base 1 "is_tuple_of" (spF F_is_tuple_of)) (c_order_fault : CalG P w K mg base 3 "order_fault" (spF F_order_fault)) (c_road_fault : CalG P w K mg base 4 "road_fault" (spF F_road_fault)) : CalG P w K mg base 5 "webfault" (spF F_webfault) := by
  refine cal_g F sc_webfault (fun vs H Q E h => len_F h) (fun f cdv A outer s H E hG hr => ⟨T_webfault, ?_, fun vs Q h => go_P (n := 1) (k := 9) ss_webfault rfl h⟩)
  exact pss_cons (ps_if (pt_not (pt_val (pe_g c_is_tuple_of hr (by decide) hG (by rfl) (pa_cons (pv 0) (pa_cons pe_int (pa_cons pe_int pa_nil)))))) (pss_one (ps_ret (pe_tupF (pa_cons (pe_tupF pa_nil) (pa_cons pe_str pa_nil))))) pss_nil)
      (pss_cons (ps_asg (pv 0) (PG.or (pg_tup rfl (pgs_cons (pg_name (i := 1) sc_webfault.nd rfl (.inl rfl)) (pgs_cons (pg_name (i := 2) sc_webfault.nd rfl (.inl rfl)) (pgs_cons (pg_name (i := 3) sc_webfault.nd rfl (.inl rfl)) pgs_nil)))) (pg_unl rfl (pgs_cons (pg_name (i := 1) sc_webfault.nd rfl (.inl rfl)) (pgs_cons (pg_name (i := 2) sc_webfault.nd rfl (.inl rfl)) (pgs_cons (pg_name (i := 3) sc_webfault.nd rfl (.inl rfl)) pgs_nil))))))
      (pss_cons (ps_if (pt_not (pt_val (pe_g c_is_tuple_of hr (by decide) hG (by rfl) (pa_cons (pv 2) (pa_cons pe_int (pa_cons (pe_glob (by rfl) m_HOUSES ⟨_, rfl⟩) pa_nil)))))) (pss_one (ps_ret (pe_tupF (pa_cons (pe_tupF (pa_cons pe_int pa_nil)) (pa_cons pe_str pa_nil))))) pss_nil)
      (pss_cons (ps_if (pt_not (pt_val (pe_g c_is_tuple_of hr (by decide) hG (by rfl) (pa_cons (pv 3) (pa_cons (pe_callB call_len_seq (by rfl) B.n_len (by decide +kernel) (pa_cons (pv 2) pa_nil)) (pa_cons (pe_callB call_len_seq (by rfl) B.n_len (by decide +kernel) (pa_cons (pv 2) pa_nil)) pa_nil)))))) (pss_one (ps_ret (pe_tupF (pa_cons (pe_tupF (pa_cons pe_int pa_nil)) (pa_cons pe_str pa_nil))))) pss_nil)
      (pss_cons (ps_if (pt_not (pt_val (pe_g c_is_tuple_of hr (by decide) hG (by rfl) (pa_cons (pv 1) (pa_cons pe_int (pa_cons (pe_glob (by rfl) m_ROADS ⟨_, rfl⟩) pa_nil)))))) (pss_one (ps_ret (pe_tupF (pa_cons (pe_tupF (pa_cons pe_int pa_nil)) (pa_cons pe_str pa_nil))))) pss_nil)
      (pss_cons (ps_for PassesOwn.never rfl (PI.or (pi_enum (by rfl) B.n_enumerate (pa_cons (pv 1) pa_nil)) (Un.pi_enumT (by rfl) B.n_enumerate (pa_cons (pv 1) pa_nil))) (PG.or (pg_tup rfl (pgs_cons (pg_name (i := 4) sc_webfault.nd rfl (.inl rfl)) (pgs_cons (pg_name (i := 5) sc_webfault.nd rfl (.inl rfl)) pgs_nil))) (pg_unl rfl (pgs_cons (pg_name (i := 4) sc_webfault.nd rfl (.inl rfl)) (pgs_cons (pg_name (i := 5) sc_webfault.nd rfl (.inl rfl)) pgs_nil)))) (pss_cons (ps_set (i := 6) sc_webfault.nd rfl (.inl rfl) (pe_g c_road_fault hr (by decide) hG (by rfl) (pa_cons (pv 4) (pa_cons (pv 5) (pa_cons (pe_callB call_len_seq (by rfl) B.n_len (by decide +kernel) (pa_cons (pv 2) pa_nil)) pa_nil)))))
      (pss_one (ps_if (pt_cmpR op_notN (pv 6) pe_non (nomark _)) (pss_one (ps_ret (pv 6))) pss_nil))))
      (pss_cons (ps_set (i := 6) sc_webfault.nd rfl (.inl rfl) (pe_g c_order_fault hr (by decide) hG (by rfl) (pa_cons pe_int (pa_cons (pv 2) (pa_cons (pe_lc (own := [("begin", 7), ("end", 8), ("room", 9)]) rfl sc_webfault.nd (PI.or (pi_list (pv 1)) (pi_tup (pv 1))) (blkOk_by (N := N_webfault) (sc := defScope s_webfault) (by decide +kernel)) (fun _ _ _ _ _ => (PG.or (pg_tup rfl (pgs_cons (pg_name (i := 7) sc_webfault.nd rfl (.inl rfl)) (pgs_cons (pg_name (i := 8) sc_webfault.nd rfl (.inl rfl)) (pgs_cons (pg_name (i := 9) sc_webfault.nd rfl (.inl rfl)) pgs_nil)))) (pg_unl rfl (pgs_cons (pg_name (i := 7) sc_webfault.nd rfl (.inl rfl)) (pgs_cons (pg_name (i := 8) sc_webfault.nd rfl (.inl rfl)) (pgs_cons (pg_name (i := 9) sc_webfault.nd rfl (.inl rfl)) pgs_nil)))))) (fun _ _ _ _ _ => pts_nil) (fun _ _ _ _ _ => (pv 7))) pa_nil)))))
      (pss_cons (ps_if (pt_cmpR op_notN (pv 6) pe_non (nomark _)) (pss_one (ps_ret (pv 6))) pss_nil)
      (pss_one (ps_ret (pe_g c_order_fault hr (by decide) hG (by rfl) (pa_cons pe_int (pa_cons (pv 3) (pa_cons (pe_lc (own := [("begin", 7), ("end", 8), ("room", 9)]) rfl sc_webfault.nd (PI.or (pi_list (pv 1)) (pi_tup (pv 1))) (blkOk_by (N := N_webfault) (sc := defScope s_webfault) (by decide +kernel)) (fun _ _ _ _ _ => (PG.or (pg_tup rfl (pgs_cons (pg_name (i := 7) sc_webfault.nd rfl (.inl rfl)) (pgs_cons (pg_name (i := 8) sc_webfault.nd rfl (.inl rfl)) (pgs_cons (pg_name (i := 9) sc_webfault.nd rfl (.inl rfl)) pgs_nil)))) (pg_unl rfl (pgs_cons (pg_name (i := 7) sc_webfault.nd rfl (.inl rfl)) (pgs_cons (pg_name (i := 8) sc_webfault.nd rfl (.inl rfl)) (pgs_cons (pg_name (i := 9) sc_webfault.nd rfl (.inl rfl)) pgs_nil)))))) (fun _ _ _ _ _ => pts_nil) (fun _ _ _ _ _ => (pv 8))) pa_nil)))))))))))))
theorem c_exchanged (F : Dfn K mg "exchanged" s_exchanged ["things", "at", "thing"]) (B : Bm mg) : CalG P w K mg base 1 "exchanged" (spF F_exchanged) := by
  refine cal_g F sc_exchanged (fun vs H Q E h => len_F h) (fun f cdv A outer s H E hG hr => ⟨T_exchanged, ?_, fun vs Q h => go_P (n := 3) (k := 0) ss_exchanged rfl h⟩)
  exact pss_one (ps_ret (pe_op op_addU (pe_op op_addU (pe_slice sl_U (pv 0) po_none (po_some (pv 1))) (pe_tupF (pa_cons (pv 2) pa_nil))) (pe_slice sl_U (pv 0) (po_some (pe_op op_addU (pv 1) pe_int)) po_none)))
theorem c_with_room (F : Dfn K mg "with_room" s_with_room ["web", "road", "room"]) (B : Bm mg) (c_exchanged : CalG P w K mg base 1 "exchanged" (spF F_exchanged)) : CalG P w K mg base 2 "with_room" (spF F_with_room) := by
  refine cal_g F sc_with_room (fun vs H Q E h => len_F h) (fun f cdv A outer s H E hG hr => ⟨T_with_room, ?_, fun vs Q h => go_P (n := 3) (k := 2) ss_with_room rfl h⟩)
  exact pss_cons (ps_asg (pe_slice sl_U (pe_ix ix_seq (pe_ix ix_seq (pv 0) pe_int (fun _ _ => rfl)) (pv 1) (fun _ _ => rfl)) po_none (po_some pe_int)) (PG.or (pg_tup rfl (pgs_cons (pg_name (i := 3) sc_with_room.nd rfl (.inl rfl)) (pgs_cons (pg_name (i := 4) sc_with_room.nd rfl (.inl rfl)) pgs_nil))) (pg_unl rfl (pgs_cons (pg_name (i := 3) sc_with_room.nd rfl (.inl rfl)) (pgs_cons (pg_name (i := 4) sc_with_room.nd rfl (.inl rfl)) pgs_nil)))))
      (pss_one (ps_ret (pe_g c_exchanged hr (by decide) hG (by rfl) (pa_cons (pv 0) (pa_cons pe_int (pa_cons (pe_g c_exchanged hr (by decide) hG (by rfl) (pa_cons (pe_ix ix_seq (pv 0) pe_int (fun _ _ => rfl)) (pa_cons (pv 1) (pa_cons (pe_tupF (pa_cons (pv 3) (pa_cons (pv 4) (pa_cons (pv 2) pa_nil)))) pa_nil)))) pa_nil))))))
theorem ok_law {f : Addr} {fd : FuncData} (F : Fun K "law" "law" s_law f fd) (B : Bm mg) (c__law_deck : CalG P w K mg base 1 "_law_deck" (spD F__law_deck)) (c__law_far : CalG P w K mg base 4 "_law_far" (spW F__law_far)) (c__law_room : CalG P w K mg base 2 "_law_room" (spW F__law_room)) (c__law_wide : CalG P w K mg base 1 "_law_wide" (spF F__law_wide)) (c_webfault : CalG P w K mg base 5 "webfault" (spF F_webfault)) (c_with_room : CalG P w K mg base 2 "with_room" (spF F_with_room)) : FnG P w K mg base 6 f fd ["_law_script"] (spF F_law) := by
  refine fn_g F sc_law (fun vs H Q E h => len_F h) (fun cdv A outer s H E hG hr => ⟨T_law, ?_, fun vs Q h => go_P (n := 1) (k := 8) ss_law rfl h⟩)
  exact pss_cons (ps_set (i := 1) sc_law.nd rfl (.inl rfl) (pe_g c__law_deck hr (by decide) hG (by rfl) (pa_cons (pv 0) pa_nil)))
      (pss_cons (ps_for PassesOwn.never rfl (pi_range1 (by rfl) B.n_range (pa_cons pe_int pa_nil)) (pg_name (i := 2) sc_law.nd rfl (.inl rfl)) (pss_cons (ps_set (i := 3) sc_law.nd rfl (.inl rfl) (pe_g c__law_far hr (by decide) hG (by rfl) (pa_cons (pv 1) pa_nil)))
      (pss_cons (ps_set (i := 4) sc_law.nd rfl (.inl rfl) (pe_callB (cr_repr hG (u65 hr)) (by rfl) B.n_repr (by decide +kernel) (pa_cons (pv 3) pa_nil)))
      (pss_one (ps_for PassesOwn.never rfl (PI.or (pi_enum (by rfl) B.n_enumerate (pa_cons (pe_ix ix_seq (pv 3) pe_int (fun _ _ => rfl)) pa_nil)) (Un.pi_enumT (by rfl) B.n_enumerate (pa_cons (pe_ix ix_seq (pv 3) pe_int (fun _ _ => rfl)) pa_nil))) (PG.or (pg_tup rfl (pgs_cons (pg_name (i := 5) sc_law.nd rfl (.inl rfl)) (pgs_cons (pg_name (i := 6) sc_law.nd rfl (.inl rfl)) pgs_nil))) (pg_unl rfl (pgs_cons (pg_name (i := 5) sc_law.nd rfl (.inl rfl)) (pgs_cons (pg_name (i := 6) sc_law.nd rfl (.inl rfl)) pgs_nil)))) (pss_one (ps_for PassesOwn.never rfl (PI.or (pi_list (pe_lst (pa_cons pe_int (pa_cons pe_int (pa_cons (pe_ix ix_seq (pv 6) pe_int (fun _ _ => rfl)) (pa_cons (pe_op op_pow pe_int pe_int) (pa_cons (pe_g c__law_room hr (by decide) hG (by rfl) (pa_cons (pv 1) pa_nil)) pa_nil))))))) (pi_tup (pe_lst (pa_cons pe_int (pa_cons pe_int (pa_cons (pe_ix ix_seq (pv 6) pe_int (fun _ _ => rfl)) (pa_cons (pe_op op_pow pe_int pe_int) (pa_cons (pe_g c__law_room hr (by decide) hG (by rfl) (pa_cons (pv 1) pa_nil)) pa_nil)))))))) (pg_name (i := 7) sc_law.nd rfl (.inl rfl)) (pss_cons (ps_set (i := 8) sc_law.nd rfl (.inl rfl) (pe_g c_with_room hr (by decide) hG (by rfl) (pa_cons (pv 3) (pa_cons (pv 5) (pa_cons (pv 7) pa_nil)))))
      (pss_cons (ps_if (pt_cmpR (op_neD hr.units) (pe_callB (cr_repr hG (u65 hr)) (by rfl) B.n_repr (by decide +kernel) (pa_cons (pv 8) pa_nil)) (pe_callB (cr_repr hG (u65 hr)) (by rfl) B.n_repr (by decide +kernel) (pa_cons (pe_g c__law_wide hr (by decide) hG (by rfl) (pa_cons (pv 3) (pa_cons (pv 5) (pa_cons (pv 7) pa_nil)))) pa_nil)) (nomark _)) (pss_one (ps_ret pe_bl)) pss_nil)
      (pss_one (ps_if (PW.pt (pw_or (pt_cmpR op_notN (pe_g c_webfault hr (by decide) hG (by rfl) (pa_cons (pv 8) pa_nil)) pe_non (nomark _)) (pw_or1 (pt_cmpR (op_neD hr.units) (pe_callB (cr_repr hG (u65 hr)) (by rfl) B.n_repr (by decide +kernel) (pa_cons (pv 3) pa_nil)) (pv 4) (nomark _))))) (pss_one (ps_ret pe_bl)) pss_nil)))))))))))
      (pss_one (ps_ret pe_bl)))
end
theorem all_mk {l : PySem.W.OpenLaw} {w : World} {K : PySem.W.Frag} {h : Heap} {mg : Str → Option Value} {fa : Addr} (X : K.In h) (G : h.Ns mainGlobals mg) (hfa : mg "law" = some (.ref fa))
    {f0 : Addr} {od0 an0 : Option Addr} {sl0 : Array (Option Value)} {oc0 kV0 dc0 pm0 cd0 ct0 : Value}
    {f1 : Addr} {od1 an1 : Option Addr} {sl1 : Array (Option Value)} {oc1 kV1 dc1 pm1 cd1 ct1 : Value}
    {f2 : Addr} {od2 an2 : Option Addr} {sl2 : Array (Option Value)} {oc2 kV2 dc2 pm2 cd2 ct2 : Value}
    {f3 : Addr} {od3 an3 : Option Addr} {sl3 : Array (Option Value)} {oc3 kV3 dc3 pm3 cd3 ct3 : Value}
    {f4 : Addr} {od4 an4 : Option Addr} {sl4 : Array (Option Value)} {oc4 kV4 dc4 pm4 cd4 ct4 : Value}
    {f5 : Addr} {od5 an5 : Option Addr} {sl5 : Array (Option Value)} {oc5 kV5 dc5 pm5 cd5 ct5 : Value}
    {f6 : Addr} {od6 an6 : Option Addr} {sl6 : Array (Option Value)} {oc6 kV6 dc6 pm6 cd6 ct6 : Value}
    {f7 : Addr} {od7 an7 : Option Addr} {sl7 : Array (Option Value)} {oc7 kV7 dc7 pm7 cd7 ct7 : Value}
    {f8 : Addr} {od8 an8 : Option Addr} {sl8 : Array (Option Value)} {oc8 kV8 dc8 pm8 cd8 ct8 : Value}
    {f9 : Addr} {od9 an9 : Option Addr} {sl9 : Array (Option Value)} {oc9 kV9 dc9 pm9 cd9 ct9 : Value}
    {f10 : Addr} {od10 an10 : Option Addr} {sl10 : Array (Option Value)} {oc10 kV10 dc10 pm10 cd10 ct10 : Value}
    {f11 : Addr} {od11 an11 : Option Addr} {sl11 : Array (Option Value)} {oc11 kV11 dc11 pm11 cd11 ct11 : Value}
    {f12 : Addr} {od12 an12 : Option Addr} {sl12 : Array (Option Value)} {oc12 kV12 dc12 pm12 cd12 ct12 : Value}
    {f13 : Addr} {od13 an13 : Option Addr} {sl13 : Array (Option Value)} {oc13 kV13 dc13 pm13 cd13 ct13 : Value}
    {f14 : Addr} {od14 an14 : Option Addr} {sl14 : Array (Option Value)} {oc14 kV14 dc14 pm14 cd14 ct14 : Value}
    {f15 : Addr} {od15 an15 : Option Addr} {sl15 : Array (Option Value)} {oc15 kV15 dc15 pm15 cd15 ct15 : Value}
    {f16 : Addr} {od16 an16 : Option Addr} {sl16 : Array (Option Value)} {oc16 kV16 dc16 pm16 cd16 ct16 : Value}
    {f17 : Addr} {od17 an17 : Option Addr} {sl17 : Array (Option Value)} {oc17 kV17 dc17 pm17 cd17 ct17 : Value}
    {f18 : Addr} {od18 an18 : Option Addr} {sl18 : Array (Option Value)} {oc18 kV18 dc18 pm18 cd18 ct18 : Value}
    {f19 : Addr} {od19 an19 : Option Addr} {sl19 : Array (Option Value)} {oc19 kV19 dc19 pm19 cd19 ct19 : Value}
    {t_GREAT : Tok}
    {t_HOUSES : Tok}
    {t_ROADS : Tok}
    (a0 : PySem.W.nsIn K mainGlobals "_law_deck" = some (some (.ref f0))) (l0 : K.lookup f0 = some ⟨oc0, od0, .func (PySem.W.fnOf "_law_deck" "_law_deck" (defArgs s__law_deck) (defBody s__law_deck) (defScope s__law_deck) .none kV0 dc0 pm0 an0 cd0 ct0), sl0⟩) (c0 : PySem.W.codeIn K cd0 "_law_deck" = true) (k0 : PySem.W.keepIn K (.ref f0) = true)
    (a1 : PySem.W.nsIn K mainGlobals "_law_draw" = some (some (.ref f1))) (l1 : K.lookup f1 = some ⟨oc1, od1, .func (PySem.W.fnOf "_law_draw" "_law_draw" (defArgs s__law_draw) (defBody s__law_draw) (defScope s__law_draw) .none kV1 dc1 pm1 an1 cd1 ct1), sl1⟩) (c1 : PySem.W.codeIn K cd1 "_law_draw" = true) (k1 : PySem.W.keepIn K (.ref f1) = true)
    (a2 : PySem.W.nsIn K mainGlobals "_law_ends" = some (some (.ref f2))) (l2 : K.lookup f2 = some ⟨oc2, od2, .func (PySem.W.fnOf "_law_ends" "_law_ends" (defArgs s__law_ends) (defBody s__law_ends) (defScope s__law_ends) .none kV2 dc2 pm2 an2 cd2 ct2), sl2⟩) (c2 : PySem.W.codeIn K cd2 "_law_ends" = true) (k2 : PySem.W.keepIn K (.ref f2) = true)
    (a3 : PySem.W.nsIn K mainGlobals "_law_shuffled" = some (some (.ref f3))) (l3 : K.lookup f3 = some ⟨oc3, od3, .func (PySem.W.fnOf "_law_shuffled" "_law_shuffled" (defArgs s__law_shuffled) (defBody s__law_shuffled) (defScope s__law_shuffled) .none kV3 dc3 pm3 an3 cd3 ct3), sl3⟩) (c3 : PySem.W.codeIn K cd3 "_law_shuffled" = true) (k3 : PySem.W.keepIn K (.ref f3) = true)
    (a4 : PySem.W.nsIn K mainGlobals "_law_ordered" = some (some (.ref f4))) (l4 : K.lookup f4 = some ⟨oc4, od4, .func (PySem.W.fnOf "_law_ordered" "_law_ordered" (defArgs s__law_ordered) (defBody s__law_ordered) (defScope s__law_ordered) .none kV4 dc4 pm4 an4 cd4 ct4), sl4⟩) (c4 : PySem.W.codeIn K cd4 "_law_ordered" = true) (k4 : PySem.W.keepIn K (.ref f4) = true)
    (a5 : PySem.W.nsIn K mainGlobals "_law_room" = some (some (.ref f5))) (l5 : K.lookup f5 = some ⟨oc5, od5, .func (PySem.W.fnOf "_law_room" "_law_room" (defArgs s__law_room) (defBody s__law_room) (defScope s__law_room) .none kV5 dc5 pm5 an5 cd5 ct5), sl5⟩) (c5 : PySem.W.codeIn K cd5 "_law_room" = true) (k5 : PySem.W.keepIn K (.ref f5) = true)
    (a6 : PySem.W.nsIn K mainGlobals "_law_rounded" = some (some (.ref f6))) (l6 : K.lookup f6 = some ⟨oc6, od6, .func (PySem.W.fnOf "_law_rounded" "_law_rounded" (defArgs s__law_rounded) (defBody s__law_rounded) (defScope s__law_rounded) .none kV6 dc6 pm6 an6 cd6 ct6), sl6⟩) (c6 : PySem.W.codeIn K cd6 "_law_rounded" = true) (k6 : PySem.W.keepIn K (.ref f6) = true)
    (a7 : PySem.W.nsIn K mainGlobals "_law_far" = some (some (.ref f7))) (l7 : K.lookup f7 = some ⟨oc7, od7, .func (PySem.W.fnOf "_law_far" "_law_far" (defArgs s__law_far) (defBody s__law_far) (defScope s__law_far) .none kV7 dc7 pm7 an7 cd7 ct7), sl7⟩) (c7 : PySem.W.codeIn K cd7 "_law_far" = true) (k7 : PySem.W.keepIn K (.ref f7) = true)
    (a8 : PySem.W.nsIn K mainGlobals "_law_wide" = some (some (.ref f8))) (l8 : K.lookup f8 = some ⟨oc8, od8, .func (PySem.W.fnOf "_law_wide" "_law_wide" (defArgs s__law_wide) (defBody s__law_wide) (defScope s__law_wide) .none kV8 dc8 pm8 an8 cd8 ct8), sl8⟩) (c8 : PySem.W.codeIn K cd8 "_law_wide" = true) (k8 : PySem.W.keepIn K (.ref f8) = true)
    (a9 : PySem.W.nsIn K mainGlobals "is_tuple_of" = some (some (.ref f9))) (l9 : K.lookup f9 = some ⟨oc9, od9, .func (PySem.W.fnOf "is_tuple_of" "is_tuple_of" (defArgs s_is_tuple_of) (defBody s_is_tuple_of) (defScope s_is_tuple_of) .none kV9 dc9 pm9 an9 cd9 ct9), sl9⟩) (c9 : PySem.W.codeIn K cd9 "is_tuple_of" = true) (k9 : PySem.W.keepIn K (.ref f9) = true)
    (a10 : PySem.W.nsIn K mainGlobals "is_number" = some (some (.ref f10))) (l10 : K.lookup f10 = some ⟨oc10, od10, .func (PySem.W.fnOf "is_number" "is_number" (defArgs s_is_number) (defBody s_is_number) (defScope s_is_number) .none kV10 dc10 pm10 an10 cd10 ct10), sl10⟩) (c10 : PySem.W.codeIn K cd10 "is_number" = true) (k10 : PySem.W.keepIn K (.ref f10) = true)
    (a11 : PySem.W.nsIn K mainGlobals "is_order" = some (some (.ref f11))) (l11 : K.lookup f11 = some ⟨oc11, od11, .func (PySem.W.fnOf "is_order" "is_order" (defArgs s_is_order) (defBody s_is_order) (defScope s_is_order) .none kV11 dc11 pm11 an11 cd11 ct11), sl11⟩) (c11 : PySem.W.codeIn K cd11 "is_order" = true) (k11 : PySem.W.keepIn K (.ref f11) = true)
    (a12 : PySem.W.nsIn K mainGlobals "order_fault" = some (some (.ref f12))) (l12 : K.lookup f12 = some ⟨oc12, od12, .func (PySem.W.fnOf "order_fault" "order_fault" (defArgs s_order_fault) (defBody s_order_fault) (defScope s_order_fault) .none kV12 dc12 pm12 an12 cd12 ct12), sl12⟩) (c12 : PySem.W.codeIn K cd12 "order_fault" = true) (k12 : PySem.W.keepIn K (.ref f12) = true)
    (a13 : PySem.W.nsIn K mainGlobals "is_number_to" = some (some (.ref f13))) (l13 : K.lookup f13 = some ⟨oc13, od13, .func (PySem.W.fnOf "is_number_to" "is_number_to" (defArgs s_is_number_to) (defBody s_is_number_to) (defScope s_is_number_to) .none kV13 dc13 pm13 an13 cd13 ct13), sl13⟩) (c13 : PySem.W.codeIn K cd13 "is_number_to" = true) (k13 : PySem.W.keepIn K (.ref f13) = true)
    (a14 : PySem.W.nsIn K mainGlobals "is_end" = some (some (.ref f14))) (l14 : K.lookup f14 = some ⟨oc14, od14, .func (PySem.W.fnOf "is_end" "is_end" (defArgs s_is_end) (defBody s_is_end) (defScope s_is_end) .none kV14 dc14 pm14 an14 cd14 ct14), sl14⟩) (c14 : PySem.W.codeIn K cd14 "is_end" = true) (k14 : PySem.W.keepIn K (.ref f14) = true)
    (a15 : PySem.W.nsIn K mainGlobals "road_fault" = some (some (.ref f15))) (l15 : K.lookup f15 = some ⟨oc15, od15, .func (PySem.W.fnOf "road_fault" "road_fault" (defArgs s_road_fault) (defBody s_road_fault) (defScope s_road_fault) .none kV15 dc15 pm15 an15 cd15 ct15), sl15⟩) (c15 : PySem.W.codeIn K cd15 "road_fault" = true) (k15 : PySem.W.keepIn K (.ref f15) = true)
    (a16 : PySem.W.nsIn K mainGlobals "webfault" = some (some (.ref f16))) (l16 : K.lookup f16 = some ⟨oc16, od16, .func (PySem.W.fnOf "webfault" "webfault" (defArgs s_webfault) (defBody s_webfault) (defScope s_webfault) .none kV16 dc16 pm16 an16 cd16 ct16), sl16⟩) (c16 : PySem.W.codeIn K cd16 "webfault" = true) (k16 : PySem.W.keepIn K (.ref f16) = true)
    (a17 : PySem.W.nsIn K mainGlobals "exchanged" = some (some (.ref f17))) (l17 : K.lookup f17 = some ⟨oc17, od17, .func (PySem.W.fnOf "exchanged" "exchanged" (defArgs s_exchanged) (defBody s_exchanged) (defScope s_exchanged) .none kV17 dc17 pm17 an17 cd17 ct17), sl17⟩) (c17 : PySem.W.codeIn K cd17 "exchanged" = true) (k17 : PySem.W.keepIn K (.ref f17) = true)
    (a18 : PySem.W.nsIn K mainGlobals "with_room" = some (some (.ref f18))) (l18 : K.lookup f18 = some ⟨oc18, od18, .func (PySem.W.fnOf "with_room" "with_room" (defArgs s_with_room) (defBody s_with_room) (defScope s_with_room) .none kV18 dc18 pm18 an18 cd18 ct18), sl18⟩) (c18 : PySem.W.codeIn K cd18 "with_room" = true) (k18 : PySem.W.keepIn K (.ref f18) = true)
    (a19 : PySem.W.nsIn K mainGlobals "law" = some (some (.ref f19))) (l19 : K.lookup f19 = some ⟨oc19, od19, .func (PySem.W.fnOf "law" "law" (defArgs s_law) (defBody s_law) (defScope s_law) .none kV19 dc19 pm19 an19 cd19 ct19), sl19⟩) (c19 : PySem.W.codeIn K cd19 "law" = true) (k19 : PySem.W.keepIn K (.ref f19) = true)
    (v_GREAT : PySem.W.nsIn K mainGlobals "GREAT" = some (some (.int 1000000000000 t_GREAT)))
    (v_HOUSES : PySem.W.nsIn K mainGlobals "HOUSES" = some (some (.int 8 t_HOUSES)))
    (v_ROADS : PySem.W.nsIn K mainGlobals "ROADS" = some (some (.int 20 t_ROADS)))
    (z_abs : PySem.W.nsIn K mainGlobals "abs" = some none)
    (z_all : PySem.W.nsIn K mainGlobals "all" = some none)
    (z_bool : PySem.W.nsIn K mainGlobals "bool" = some none)
    (z_enumerate : PySem.W.nsIn K mainGlobals "enumerate" = some none)
    (z_int : PySem.W.nsIn K mainGlobals "int" = some none)
    (z_isinstance : PySem.W.nsIn K mainGlobals "isinstance" = some none)
    (z_len : PySem.W.nsIn K mainGlobals "len" = some none)
    (z_list : PySem.W.nsIn K mainGlobals "list" = some none)
    (z_range : PySem.W.nsIn K mainGlobals "range" = some none)
    (z_repr : PySem.W.nsIn K mainGlobals "repr" = some none)
    (z_sorted : PySem.W.nsIn K mainGlobals "sorted" = some none)
    (z_tuple : PySem.W.nsIn K mainGlobals "tuple" = some none) :
    ∃ fd : FuncData, (∀ (s : Shared) (v : Value), BindsTo s fd ⟨[v], []⟩ [("_law_script", v)]) ∧ ∀ base : Heap, K.In base → base.Ns mainGlobals mg → FnG l.prog w K mg base 6 fa fd ["_law_script"] (@spF ⟨K⟩ F_law) := by
  letI : KK := ⟨K⟩
  have e := hfa.symm.trans (PySem.W.mg_of X G a19)
  cases e
  have B : Bm mg := ⟨PySem.W.mg_none_of X G z_abs, PySem.W.mg_none_of X G z_all, PySem.W.mg_none_of X G z_bool, PySem.W.mg_none_of X G z_enumerate, PySem.W.mg_none_of X G z_int, PySem.W.mg_none_of X G z_isinstance, PySem.W.mg_none_of X G z_len, PySem.W.mg_none_of X G z_list, PySem.W.mg_none_of X G z_range, PySem.W.mg_none_of X G z_repr, PySem.W.mg_none_of X G z_sorted, PySem.W.mg_none_of X G z_tuple⟩
  have D0 : Dfn K mg "_law_deck" s__law_deck ["_law_script"] := dfn_mk X G a0 l0 c0 k0 fun _ _ _ _ _ _ us hl => match us, hl with | [_], _ => rfl
  have D1 : Dfn K mg "_law_draw" s__law_draw ["_law_deck_here", "_law_many"] := dfn_mk X G a1 l1 c1 k1 fun _ _ _ _ _ _ us hl => match us, hl with | [_, _], _ => rfl
  have D2 : Dfn K mg "_law_ends" s__law_ends ["_law_deck_here", "_law_many"] := dfn_mk X G a2 l2 c2 k2 fun _ _ _ _ _ _ us hl => match us, hl with | [_, _], _ => rfl
  have D3 : Dfn K mg "_law_shuffled" s__law_shuffled ["_law_deck_here", "_law_some"] := dfn_mk X G a3 l3 c3 k3 fun _ _ _ _ _ _ us hl => match us, hl with | [_, _], _ => rfl
  have D4 : Dfn K mg "_law_ordered" s__law_ordered ["_law_deck_here", "_law_many", "_law_roads"] := dfn_mk X G a4 l4 c4 k4 fun _ _ _ _ _ _ us hl => match us, hl with | [_, _, _], _ => rfl
  have D5 : Dfn K mg "_law_room" s__law_room ["_law_deck_here"] := dfn_mk X G a5 l5 c5 k5 fun _ _ _ _ _ _ us hl => match us, hl with | [_], _ => rfl
  have D6 : Dfn K mg "_law_rounded" s__law_rounded ["_law_deck_here"] := dfn_mk X G a6 l6 c6 k6 fun _ _ _ _ _ _ us hl => match us, hl with | [_], _ => rfl
  have D7 : Dfn K mg "_law_far" s__law_far ["_law_deck_here"] := dfn_mk X G a7 l7 c7 k7 fun _ _ _ _ _ _ us hl => match us, hl with | [_], _ => rfl
  have D8 : Dfn K mg "_law_wide" s__law_wide ["_law_web", "_law_road", "_law_room_here"] := dfn_mk X G a8 l8 c8 k8 fun _ _ _ _ _ _ us hl => match us, hl with | [_, _, _], _ => rfl
  have D9 : Dfn K mg "is_tuple_of" s_is_tuple_of ["thing", "least", "most"] := dfn_mk X G a9 l9 c9 k9 fun _ _ _ _ _ _ us hl => match us, hl with | [_, _, _], _ => rfl
  have D10 : Dfn K mg "is_number" s_is_number ["thing"] := dfn_mk X G a10 l10 c10 k10 fun _ _ _ _ _ _ us hl => match us, hl with | [_], _ => rfl
  have D11 : Dfn K mg "is_order" s_is_order ["thing", "numbers"] := dfn_mk X G a11 l11 c11 k11 fun _ _ _ _ _ _ us hl => match us, hl with | [_, _], _ => rfl
  have D12 : Dfn K mg "order_fault" s_order_fault ["place", "orders", "ends"] := dfn_mk X G a12 l12 c12 k12 fun _ _ _ _ _ _ us hl => match us, hl with | [_, _, _], _ => rfl
  have D13 : Dfn K mg "is_number_to" s_is_number_to ["thing", "most"] := dfn_mk X G a13 l13 c13 k13 fun _ _ _ _ _ _ us hl => match us, hl with | [_, _], _ => rfl
  have D14 : Dfn K mg "is_end" s_is_end ["thing", "houses"] := dfn_mk X G a14 l14 c14 k14 fun _ _ _ _ _ _ us hl => match us, hl with | [_, _], _ => rfl
  have D15 : Dfn K mg "road_fault" s_road_fault ["number", "road", "houses"] := dfn_mk X G a15 l15 c15 k15 fun _ _ _ _ _ _ us hl => match us, hl with | [_, _, _], _ => rfl
  have D16 : Dfn K mg "webfault" s_webfault ["thing"] := dfn_mk X G a16 l16 c16 k16 fun _ _ _ _ _ _ us hl => match us, hl with | [_], _ => rfl
  have D17 : Dfn K mg "exchanged" s_exchanged ["things", "at", "thing"] := dfn_mk X G a17 l17 c17 k17 fun _ _ _ _ _ _ us hl => match us, hl with | [_, _, _], _ => rfl
  have D18 : Dfn K mg "with_room" s_with_room ["web", "road", "room"] := dfn_mk X G a18 l18 c18 k18 fun _ _ _ _ _ _ us hl => match us, hl with | [_, _, _], _ => rfl
  refine ⟨PySem.W.fnOf "law" "law" (defArgs s_law) (defBody s_law) (defScope s_law) .none kV19 dc19 pm19 an19 cd19 ct19, fun s v => .of_eq rfl, fun base _ _ => ?_⟩
  have C__law_deck := c__law_deck (P := l.prog) (w := w) (base := base) D0 B 
  have C__law_draw := c__law_draw (P := l.prog) (w := w) (base := base) D1 B 
  have C__law_ends := c__law_ends (P := l.prog) (w := w) (base := base) D2 B C__law_draw
  have C__law_shuffled := c__law_shuffled (P := l.prog) (w := w) (base := base) D3 B C__law_draw
  have C__law_ordered := c__law_ordered (P := l.prog) (w := w) (base := base) D4 B C__law_shuffled
  have C__law_room := c__law_room (P := l.prog) (w := w) (base := base) D5 B C__law_draw
  have C__law_rounded := c__law_rounded (P := l.prog) (w := w) (base := base) D6 B C__law_room C__law_shuffled
  have C__law_far := c__law_far (P := l.prog) (w := w) (base := base) D7 B C__law_draw C__law_ends C__law_ordered C__law_room C__law_rounded
  have C__law_wide := c__law_wide (P := l.prog) (w := w) (base := base) D8 B 
  have C_is_tuple_of := c_is_tuple_of (P := l.prog) (w := w) (base := base) D9 B 
  have C_is_number := c_is_number (P := l.prog) (w := w) (base := base) D10 B 
  have C_is_order := c_is_order (P := l.prog) (w := w) (base := base) D11 B C_is_number
  have C_order_fault := c_order_fault (P := l.prog) (w := w) (base := base) D12 B C_is_order
  have C_is_number_to := c_is_number_to (P := l.prog) (w := w) (base := base) D13 B C_is_number
  have C_is_end := c_is_end (P := l.prog) (w := w) (base := base) D14 B C_is_number_to
  have C_road_fault := c_road_fault (P := l.prog) (w := w) (base := base) D15 B (PySem.W.mg_of X G v_GREAT) C_is_end C_is_number_to C_is_tuple_of
  have C_webfault := c_webfault (P := l.prog) (w := w) (base := base) D16 B (PySem.W.mg_of X G v_HOUSES) (PySem.W.mg_of X G v_ROADS) C_is_tuple_of C_order_fault C_road_fault
  have C_exchanged := c_exchanged (P := l.prog) (w := w) (base := base) D17 B 
  have C_with_room := c_with_room (P := l.prog) (w := w) (base := base) D18 B C_exchanged
  exact ok_law (fun_mk (st := s_law) l19 c19 k19) B C__law_deck C__law_far C__law_room C__law_wide C_webfault C_with_room
end Row
open PySem PySem.W PyProof.Rows
set_option maxHeartbeats 0 in
theorem PySem.Challenge.cw_unturned_k45_another_room_holds : PySem.Challenge.rw_unturned_k45_another_room.Holds := by
  w_on; o_law; k_head; (case hw => w_witness2)
  k_fill
  refine Uv.walk_v (l := PySem.Challenge.rw_unturned_k45_another_room) (n := 63) (k := 6) (x := "_law_script") (f := K45.F_law) rfl (by decide) rfl ⟨rfl, by decide, by decide⟩ (fun w h Y => PySem.W.kIn_of Y) ?F K45.main
  case F =>
    intro w mg fa h KX G hmg
    refine' Row.all_mk KX G hmg ?a0 ?l0 ?c0 ?k0 ?a1 ?l1 ?c1 ?k1 ?a2 ?l2 ?c2 ?k2 ?a3 ?l3 ?c3 ?k3 ?a4 ?l4 ?c4 ?k4 ?a5 ?l5 ?c5 ?k5 ?a6 ?l6 ?c6 ?k6 ?a7 ?l7 ?c7 ?k7 ?a8 ?l8 ?c8 ?k8 ?a9 ?l9 ?c9 ?k9 ?a10 ?l10 ?c10 ?k10 ?a11 ?l11 ?c11 ?k11 ?a12 ?l12 ?c12 ?k12 ?a13 ?l13 ?c13 ?k13 ?a14 ?l14 ?c14 ?k14 ?a15 ?l15 ?c15 ?k15 ?a16 ?l16 ?c16 ?k16 ?a17 ?l17 ?c17 ?k17 ?a18 ?l18 ?c18 ?k18 ?a19 ?l19 ?c19 ?k19 ?v_GREAT ?v_HOUSES ?v_ROADS ?z_abs ?z_all ?z_bool ?z_enumerate ?z_int ?z_isinstance ?z_len ?z_list ?z_range ?z_repr ?z_sorted ?z_tuple
    (case a0 => k_is); (case l0 => k_is); (case c0 => k_is); (case k0 => k_is); (case a1 => k_is); (case l1 => k_is); (case c1 => k_is); (case k1 => k_is); (case a2 => k_is); (case l2 => k_is); (case c2 => k_is); (case k2 => k_is); (case a3 => k_is); (case l3 => k_is); (case c3 => k_is); (case k3 => k_is); (case a4 => k_is); (case l4 => k_is); (case c4 => k_is); (case k4 => k_is); (case a5 => k_is); (case l5 => k_is); (case c5 => k_is); (case k5 => k_is); (case a6 => k_is); (case l6 => k_is); (case c6 => k_is); (case k6 => k_is); (case a7 => k_is); (case l7 => k_is); (case c7 => k_is); (case k7 => k_is); (case a8 => k_is); (case l8 => k_is); (case c8 => k_is); (case k8 => k_is); (case a9 => k_is); (case l9 => k_is); (case c9 => k_is); (case k9 => k_is); (case a10 => k_is); (case l10 => k_is); (case c10 => k_is); (case k10 => k_is); (case a11 => k_is); (case l11 => k_is); (case c11 => k_is); (case k11 => k_is); (case a12 => k_is); (case l12 => k_is); (case c12 => k_is); (case k12 => k_is); (case a13 => k_is); (case l13 => k_is); (case c13 => k_is); (case k13 => k_is); (case a14 => k_is); (case l14 => k_is); (case c14 => k_is); (case k14 => k_is); (case a15 => k_is); (case l15 => k_is); (case c15 => k_is); (case k15 => k_is); (case a16 => k_is); (case l16 => k_is); (case c16 => k_is); (case k16 => k_is); (case a17 => k_is); (case l17 => k_is); (case c17 => k_is); (case k17 => k_is); (case a18 => k_is); (case l18 => k_is); (case c18 => k_is); (case k18 => k_is); (case a19 => k_is); (case l19 => k_is); (case c19 => k_is); (case k19 => k_is); (case v_GREAT => k_is); (case v_HOUSES => k_is); (case v_ROADS => k_is); (case z_abs => k_is); (case z_all => k_is); (case z_bool => k_is); (case z_enumerate => k_is); (case z_int => k_is); (case z_isinstance => k_is); (case z_len => k_is); (case z_list => k_is); (case z_range => k_is); (case z_repr => k_is); (case z_sorted => k_is); (case z_tuple => k_is)
