import PyProof.Rows.All
import Wide.All
import OpenK.AllK
import Wide.FinOn
import HandS.Iter
import KE.GoesEnum
import PyProof.ReprRoads
import HandS.Dict
import PyProof.EqKinds
import PyProof.FactsAll.dict_1
import HandS.ForMost
import HandS.Evl
import HandS.Walk
import HandS.IsInst
import HandS.Wide
import HandS.NoneIn
import HandS.EndBits
import HandS.Codes
import HandS.TupAny
import HandS.TupMul
import HandS.Deep
import PyProof.TupleOfSeq
import PyProof.SeqIndex
import KE.DatumIndex
import PyProof.CallFns
import HandS.SortInts
import HandS.Zip
import HandS.Star
import HandS.Conv
import KE.KRevSl
import HandS.Flt
import KE.DataCmp
import HandS.Zip0
import HandS.Strs
import HandS.SetFor
import HandS.DictComp
import HandS.Call
import HandS.RaiseMore
import PySem.Challenge.RW_unturned_k28_fairs_turned
set_option Elab.async false
set_option linter.all false
set_option maxRecDepth 100000
set_option maxHeartbeats 8000000
namespace Un
open PySem PySem.Spec PyProof.Rows L2
/-- enumerate's new pair of cells over whatever begins an iterator -/
theorem meets_enumB {u : Value} {ob : Obj} {Hh : Heap → Prop} (B : Begins u ob Hh) :
    Meets (Builtin.«enumerate.__new__» ⟨[.type "enumerate", u], []⟩) (fun _ R st => Hh st.heap ∧
      R (.ok (.ret (.ref (st.heap.push ob).objs.size))) { st with heap := (st.heap.push ob).push { cls := .type "enumerate", data := .fields #[.none, .bool false, .ref st.heap.objs.size, rawInt 0, .none, .none] } }) :=
  .of_wp fun prog w A R st hh => by
    obtain ⟨hp, gn, dr, tk, os⟩ := st
    obtain ⟨hu, hh⟩ := hh
    have hsub := sub_enumerate
    have it1 : ∀ {A' : Around} {E : Value → Shared → Prop} {Q : Value → Shared → Prop}, Q (.ref hp.objs.size) ⟨hp.push ob, gn, dr, tk, os⟩ → wpAny (model prog w) A' (pyIter u) Q E ⟨hp, gn, dr, tk, os⟩ :=
      fun q => B.iter prog w _ _ ⟨hp, gn, dr, tk, os⟩ _ hu q
    wp_walk using it1
    refine wpAny_stack_any fun stk => wpAny_pure ?_
    split
    · rename_i cc _ _ _ _ _
      cases (cc == Value.type "enumerate") <;> (wp_walk using it1; exact ⟨_, rfl, hh⟩)
    · wp_walk using it1
      exact ⟨_, rfl, hh⟩
section
variable {prog : Program} {w : World} {A : Around} {E : Value → Shared → Prop} {s : Shared}
theorem call_enumT {l : Addr} {its : Array Value} {Q : Value → Shared → Prop} (hT : s.heap.IsTuple l its)
    (k : ∀ h', IsEnum h' (s.heap.objs.size + 1) s.heap.objs.size 0 .none → h'.IsTupleIter s.heap.objs.size l 0 →
      (∀ b o, s.heap.get? b = some o → h'.get? b = some o) → Q (.ref (s.heap.objs.size + 1)) { s with heap := h' }) :
    wpAny (model prog w) A (call (.type "enumerate") [.ref l]) Q E s := by
  refine callType_new F.called_enumerate (by decide) (F.typeCall_enumerate_1 _) (F.newCall_enumerate_1 _) (fun obj => F.args_object_init_2 obj _) F.entry_enumerate_new
    (meets_enumB (begins_tuple l its)) ⟨hT, ?_⟩
  have sz : (s.heap.push { cls := .type "tuple_iterator", data := .fields #[.ref l, .int 0 0] }).objs.size = s.heap.objs.size + 1 := Heap.size_push ..
  show _ ∧ _
  rw [sz]
  have en : IsEnum ((s.heap.push { cls := .type "tuple_iterator", data := .fields #[.ref l, .int 0 0] }).push
      { cls := .type "enumerate", data := .fields #[.none, .bool false, .ref s.heap.objs.size, rawInt 0, .none, .none] }) (s.heap.objs.size + 1) s.heap.objs.size 0 .none := by
    have g := Heap.get?_push_size (s.heap.push { cls := .type "tuple_iterator", data := .fields #[.ref l, .int 0 0] })
      (o := { cls := .type "enumerate", data := .fields #[.none, .bool false, .ref s.heap.objs.size, rawInt 0, .none, .none] }) rfl
    rw [sz] at g
    exact g
  exact ⟨⟨_, en, rfl⟩, k _ en ⟨_, Heap.get?_push_of_some _ (Heap.get?_push_size _ rfl), rfl, rfl⟩ fun b o x => Heap.get?_push_of_some _ (Heap.get?_push_of_some _ x)⟩
end
/-- the tuple at a, each item in a new pair with its place -/
def IteT (K : PySem.W.Frag) (a : Addr) : It :=
  ⟨fun i H => ∃ (xs : List V) (x : V), SqT K H a xs ∧ xs[i]? = some x,
   fun i H v H' => ∃ T x, v = .ref T ∧ H T = none ∧ H' = upd H T (.tup [.int (i : Nat), x]) ∧ ∀ xs, SqT K H a xs → xs[i]? = some x,
   fun i H => ∃ xs : List V, SqT K H a xs ∧ xs.length = i⟩
theorem turn_enumT {P : Program} {w : World} {K : PySem.W.Frag} {elts : List Expr} {kk : Nat} {tpos : Pos} (a e it : Addr) (hai : a ≠ it) (hae : a ≠ e) :
    Turn P w K (.Tuple elts kk tpos) (IteT K a) [e, it] e (fun i h => (∃ old, IsEnum h e it ((i : Nat) : Int) old) ∧ h.IsTupleIter it a i ∧ e ≠ it) where
  mem := by simp
  obj := fun i h st b hb => by
    obtain ⟨⟨old, he⟩, ⟨o, ho, hc, hd⟩, _⟩ := st
    have eb : b = e ∨ b = it := by simpa using hb
    rcases eb with z | z
    · subst z
      exact ⟨_, he, fun v q => nomatch q⟩
    · subst z
      exact ⟨o, ho, fun v q => by rw [hd] at q; cases q⟩
  keep := fun i h h' st k => let ⟨⟨old, he⟩, ⟨o, ho, r⟩, hne⟩ := st; ⟨⟨old, k e (by simp) _ he⟩, ⟨o, k it (by simp) o ho, r⟩, hne⟩
  item := by
    intro X hP hw hK hc i pins s σ H E I hf st hg
    subst hP hw hK
    obtain ⟨⟨old, he⟩, hit, hne⟩ := st
    obtain ⟨xs, x, hq, hx⟩ := hg
    obtain ⟨its, rv, p, hz⟩ := I.tuple hq
    obtain ⟨u, hu, ru⟩ := rv.get hx
    have hlt : i < its.toArray.size := by
      have z := (List.getElem?_eq_some_iff.mp hu).1
      simpa using z
    have hel : e < s.heap.objs.size := Heap.lt_size he
    have hil : it < s.heap.objs.size := by
      obtain ⟨_, q, _⟩ := hit
      exact Heap.lt_size q
    have D := Draws.tuple (prog := X.prog) (w := X.w) (A := X.A.in1) (I.ok.hd hc) it a hai its.toArray
    refine wpAny_pyNext_enum_itemC D he ⟨hit, p⟩ hlt hne (by
      intro z
      have z' : e = it ∨ e = a := by simpa using z
      rcases z' with z1 | z1
      · exact hne z1
      · exact hae z1.symm) fun y h' tk hy ho hst' hT hsz hk => ?_
    have eu : y = u := by
      have z : its.toArray[i]? = some y := hy
      have z2 : its[i]? = some y := by simpa using z
      exact Option.some.inj (z2.symm.trans hu)
    subst eu
    refine ⟨_, rfl, wpAny_letOwnedTupleGo_enum (s := { s with heap := h', toks := tk + 1 }) ho fun h'' he' sb => ?_⟩
    have hT2 : h''.get? s.heap.objs.size = some { cls := .type "tuple", data := .seq #[.int i tk, y] } := (sb.2 _ (Nat.ne_of_gt hel)).trans hT
    have new : ObjOk X.prog X.w (upd H s.heap.objs.size (.tup [.int (i : Nat), x])) h'' s.heap.objs.size (.tup [.int (i : Nat), x]) :=
      ⟨by show 2 ≤ sizeLine; decide, [.int i tk, y], .cons ⟨_, rfl⟩ (.cons ru .nil), ⟨_, hT2, rfl, _, rfl⟩⟩
    have I1 : Inv X pins σ (upd H s.heap.objs.size (.tup [.int (i : Nat), x])) { s with heap := h'', toks := tk + 1 } :=
      I.turnedNew (ch := [e, it]) (fun b ob hb q => (sb.2 b (fun z => hb (by simp [z]))).trans (hk b ob (fun z => hb (by simp [z])) (fun z => hb (by simp [z])) q)) hf (Nat.le_refl _) new
    refine ⟨.ref s.heap.objs.size, _, I1, rfl, ⟨_, x, rfl, I.hok.fresh (Nat.le_refl _), rfl, fun ys hy => by rw [I.tuple_inj hy hq]; exact hx⟩, ⟨⟨y, ?_⟩, ?_, hne⟩, fun b hb => ?_⟩
    · have e1 : ((i + 1 : Nat) : Int) = (i : Int) + 1 := by omega
      rw [e1]
      exact he'
    · obtain ⟨⟨o, q, r⟩, _⟩ := hst'
      exact ⟨o, (sb.2 it (Ne.symm hne)).trans q, r⟩
    · have hb' : b < s.heap.objs.size := by
        have eb : b = e ∨ b = it := by simpa using hb
        rcases eb with z | z
        · rw [z]; exact hel
        · rw [z]; exact hil
      rw [upd_ne (Nat.ne_of_lt hb')]
      exact (hf b hb).1
  done := by
    intro X hP hw hK hc i pins s σ H E I hf st hg
    subst hP hw hK
    obtain ⟨⟨old, he⟩, hit, hne⟩ := st
    obtain ⟨xs, hq, hx⟩ := hg
    obtain ⟨its, rv, p, hz⟩ := I.tuple hq
    have hl := rv.length
    have D := Draws.tuple (prog := X.prog) (w := X.w) (A := X.A.in1) (I.ok.hd hc) it a hai its.toArray
    have en : its.toArray.size = i := by
      simp
      omega
    obtain ⟨f0, f1, f2, f3, f4, f5⟩ := hf it (by simp)
    refine wpAny_pyNext_enum_endD D he (en.symm ▸ ⟨hit, p⟩) fun h' eb => ⟨rfl, I.turned (t' := s.toks) (fun b o hb q => eb b o hb q) f0 f1 f3 f4 f5⟩
  self := fun A i s Q E st h => let ⟨⟨_, he⟩, _⟩ := st; wpAny_pyIter_enum he h
def iEnumT (K : PySem.W.Frag) (ta : TA) : TI := fun σ H R => ta σ H fun vs H1 => ∃ a xs, vs = [.ref a] ∧ SqT K H1 a xs ∧ R (IteT K a) H1
theorem pi_enumT {X : Cx} {e : Expr} {ta : TA} {p pos tpos : Pos} {elts : List Expr} {kk : Nat} (hg : Gl X "enumerate") (hm : X.mg "enumerate" = none) (ha : PA X [e] ta)
    (hs : starEach [e] X.env = [(false, eval e X.env)] := by rfl) : PI X (.Tuple elts kk tpos) (.Call (.Name "enumerate" p) [e] [] pos) (iEnumT X.K ta) := by
  refine ⟨fun pins s σ H R I h => ?_⟩
  refine Call_ (ld_blt I hg hm boot_enumerate (PyProof.Rows.callWith_type1 (thn (ha.run pos pins s σ H _ I h) fun us s1 ⟨vs, H1, I1, r1, q1⟩ => ?_) hs rfl))
  obtain ⟨a, xs, ex, hq, q⟩ := q1
  subst ex
  cases r1 with
  | cons r rr =>
    cases rr
    cases r
    obtain ⟨its, rv, pt, hz⟩ := I1.tuple hq
    have hal : a < s1.heap.objs.size := by
      obtain ⟨o, ho, _⟩ := (show s1.heap.IsTuple a its.toArray from pt)
      exact Heap.lt_size ho
    refine call_enumT pt fun h' he hit hk => wpAny_pyIter_enum he ?_
    have I2 : Inv X pins σ H1 { s1 with heap := h' } := I1.kept (t' := s1.toks) hk
    refine ⟨s1.heap.objs.size + 1, [s1.heap.objs.size + 1, s1.heap.objs.size], _, _, H1, rfl, I2,
      turn_enumT a (s1.heap.objs.size + 1) s1.heap.objs.size (Nat.ne_of_lt hal) (Nat.ne_of_lt (Nat.lt_succ_of_lt hal)), ⟨⟨.none, he⟩, hit, Nat.succ_ne_self _⟩, fun b hb => ?_, q⟩
    have hle : s1.heap.objs.size ≤ b := by
      have e' : b = s1.heap.objs.size + 1 ∨ b = s1.heap.objs.size := by simpa using hb
      rcases e' with z | z
      · rw [z]; exact Nat.le_add_right _ _
      · rw [z]; exact Nat.le_refl _
    exact I1.fpOk hle (I1.hok.fresh hle)
end Un

namespace Uv
open PySem PySem.Spec PyProof.Rows L2
/-! ### repr of data with dicts: only of a dict it matters that it isn't the modules' own -/
mutual
inductive Rm (h : Heap) : Value → PyData → Prop
  | non : Rm h .none .none
  | bl (b : Bool) : Rm h (.bool b) (.bool b)
  | int (i t) : Rm h (.int i t) (.int i)
  | str (x t) : Rm h (.str x t) (.str x)
  | lst {a o vs n xs} : h.get? a = some o → o.cls = .type "list" → o.data = .seq vs n → Rms h vs.toList xs → Rm h (.ref a) (.list xs)
  | tup {a o vs n xs} : h.get? a = some o → o.cls = .type "tuple" → o.data = .seq vs n → Rms h vs.toList xs → Rm h (.ref a) (.tuple xs)
  | dct {a o es n kvs} : h.get? a = some o → o.cls = .type "dict" → o.data = .dict es n → (a == sysModules) = false → Rms h (es.toList.map (·.key)) (kvs.map (·.1)) → Rms h (es.toList.map (·.val)) (kvs.map (·.2)) → Rm h (.ref a) (.dict kvs)
inductive Rms (h : Heap) : List Value → List PyData → Prop
  | nil : Rms h [] []
  | cons {v vs d ds} : Rm h v d → Rms h vs ds → Rms h (v :: vs) (d :: ds)
end
section
variable {P : Program} {w : World} {g : Heap}
mutual
theorem Rm.rd : ∀ {v : Value} {d : PyData}, Rm g v d → ∃ as, Reads g v d as
  | _, _, .non => ⟨_, .none⟩
  | _, _, .bl b => ⟨_, .bool b⟩
  | _, _, .int i t => ⟨_, .int i t⟩
  | _, _, .str x t => ⟨_, .str x t⟩
  | _, _, .lst a b c r => let ⟨_, q⟩ := Rms.rd r; ⟨_, .list a b c q⟩
  | _, _, .tup a b c r => let ⟨_, q⟩ := Rms.rd r; ⟨_, .tuple a b c q⟩
  | _, _, .dct a b c _ r s => let ⟨_, q⟩ := Rms.rd r; let ⟨_, t⟩ := Rms.rd s; ⟨_, .dict a b c q t⟩
theorem Rms.rd : ∀ {vs : List Value} {ds : List PyData}, Rms g vs ds → ∃ as, ReadsAll g vs ds as
  | _, _, .nil => ⟨_, .nil⟩
  | _, _, .cons r s => let ⟨_, q⟩ := Rm.rd r; let ⟨_, t⟩ := Rms.rd s; ⟨_, .cons q t⟩
end
mutual
theorem Rm.rk : ∀ {v : Value} {d : PyData}, Rm g v d → d.showable = true → d.shown.length ≤ sizeLine → ∃ l, ReadAtMost g d.depth l ∧ ReprK P w l g d.depth v d.shown
  | _, _, .non, _, _ => ⟨[], nofun, by rw [PyData.shown]; exact .of_is ReprIs.none _ _ _⟩
  | _, _, .bl b, _, _ => ⟨[], nofun, by rw [PyData.shown]; exact .of_is (ReprIs.bool b) _ _ _⟩
  | _, _, .int i t, e, _ => ⟨[], nofun, by rw [PyData.shown]; exact .of_is (ReprIs.int t (by simpa [PyData.showable] using e)) _ _ _⟩
  | _, _, .str x t, _, z => ⟨[], nofun, by rw [PyData.shown] at z ⊢; exact .of_is (ReprIs.str x t z) _ _ _⟩
  | _, _, .lst (a := p) (vs := vs) (xs := ds) o1 o2 o3 q, e, z => by
    rw [PyData.shown] at z
    obtain ⟨_, full⟩ := Rm.rd (.lst o1 o2 o3 q)
    obtain ⟨l, l1, l2⟩ := Rms.rk q (by simpa [PyData.showable] using e) fun t m => Nat.le_trans (listText_mem_le m) z
    have off : p ∉ l := not_mem_of_deeper full (by rw [PyData.depth]; omega) l1
    refine ⟨p :: l, l1.cons full (by rw [PyData.depth]; omega), ?_⟩
    rw [PyData.depth, PyData.shown]
    obtain ⟨v⟩ := vs
    cases v with
    | cons x v => exact ReprK.list o1 o2 o3 off (by simpa using l2.length_eq) fun i y m => l2.item i y (by simpa using m)
    | nil =>
      have q' : Rms g [] ds := q
      cases q'
      rw [PyData.shownAll, listText_nil]
      exact ReprK.listEmpty o1 o2 o3
  | _, _, .tup (a := p) (xs := ds) o1 o2 o3 q, e, z => by
    rw [PyData.shown] at z
    obtain ⟨_, full⟩ := Rm.rd (.tup o1 o2 o3 q)
    obtain ⟨l, l1, l2⟩ := Rms.rk q (by simpa [PyData.showable] using e) fun t m => Nat.le_trans (tupleText_mem_le m) z
    have off : p ∉ l := not_mem_of_deeper full (by rw [PyData.depth]; omega) l1
    refine ⟨p :: l, l1.cons full (by rw [PyData.depth]; omega), ?_⟩
    rw [PyData.depth, PyData.shown]
    exact ReprK.tuple o1 o2 o3 off l2
  | _, _, .dct (a := p) (es := es) (kvs := ps) o1 o2 o3 o4 q1 q2, e, z => by
    rw [PyData.shown] at z
    obtain ⟨_, full⟩ := Rm.rd (.dct o1 o2 o3 o4 q1 q2)
    obtain ⟨e1, e2⟩ := PyData.showableKv_split ps (by simpa [PyData.showable] using e)
    obtain ⟨l, l1, l2⟩ := Rms.rk q1 e1 fun t m => let ⟨_, u1, u2⟩ := PyData.shownKv_key_le ps t m; Nat.le_trans u2 (Nat.le_trans (dictText_mem_le u1) z)
    obtain ⟨k, k1, k2⟩ := Rms.rk q2 e2 fun t m => let ⟨_, u1, u2⟩ := PyData.shownKv_val_le ps t m; Nat.le_trans u2 (Nat.le_trans (dictText_mem_le u1) z)
    have lk : ReadAtMost g (PyData.depthKv ps) (l ++ k) := (l1.mono (PyData.depthAll_keys_le ps)).append (k1.mono (PyData.depthAll_vals_le ps))
    have off : p ∉ l ++ k := not_mem_of_deeper full (by rw [PyData.depth]; omega) lk
    refine ⟨p :: (l ++ k), lk.cons full (by rw [PyData.depth]; omega), ?_⟩
    rw [PyData.depth, PyData.shown, PyData.shownKv_eq]
    exact ReprK.dict o1 o2 o3 o4 off (ReprEntriesK.of_two es.toList _ _ (l2.more_le (fun _ => List.mem_append_left _) (PyData.depthAll_keys_le ps)) (k2.more_le (fun _ => List.mem_append_right _) (PyData.depthAll_vals_le ps)))
theorem Rms.rk : ∀ {vs : List Value} {ds : List PyData}, Rms g vs ds → PyData.showableAll ds = true → (∀ t ∈ PyData.shownAll ds, t.length ≤ sizeLine) → ∃ l, ReadAtMost g (PyData.depthAll ds) l ∧ ReprAllK P w l g (PyData.depthAll ds) vs (PyData.shownAll ds)
  | _, _, .nil, _, _ => ⟨[], nofun, by rw [PyData.shownAll]; exact .nil⟩
  | _, _, .cons (d := d) (ds := ds) q r, e, z => by
    obtain ⟨e1, e2⟩ : d.showable = true ∧ PyData.showableAll ds = true := by simpa [PyData.showableAll] using e
    rw [PyData.shownAll] at z
    obtain ⟨l, l1, l2⟩ := Rm.rk q e1 (z _ (List.mem_cons_self ..))
    obtain ⟨k, k1, k2⟩ := Rms.rk r e2 fun t m => z t (List.mem_cons_of_mem _ m)
    rw [PyData.depthAll, PyData.shownAll]
    exact ⟨l ++ k, (l1.mono (Nat.le_max_left _ _)).append (k1.mono (Nat.le_max_right _ _)), .cons ((l2.more fun _ => List.mem_append_left _).level_le (Nat.le_max_left _ _)) (k2.more_le (fun _ => List.mem_append_right _) (Nat.le_max_right _ _))⟩
end
theorem Rm.shows {a : Addr} {d : PyData} (r : Rm g (.ref a) d) (e : d.showable = true) (z : d.shown.length ≤ sizeLine) : ∃ T i, ShowsBy P w g a d T i := by
  obtain ⟨_, full⟩ := r.rd
  cases r with
  | lst o1 o2 o3 q =>
    rename_i o vs n ds
    rw [PyData.shown] at z
    obtain ⟨l, l1, l2⟩ := Rms.rk (P := P) (w := w) q (by simpa [PyData.showable] using e) fun t m => Nat.le_trans (listText_mem_le m) z
    have off : a ∉ l := not_mem_of_deeper full (by rw [PyData.depth]; omega) l1
    refine ⟨"list", "list.__repr__", F.slot_list_repr.toG, F.slot_list_str, F.slot_list_format, fun s k => ⟨o, k _ _ o1, o2⟩, fun A E s Q ag au k hq => ?_⟩
    rw [PyData.depth] at au
    rw [PyData.shown] at hq
    obtain ⟨v⟩ := vs
    cases v with
    | cons x v => exact call_list_reprK o1 o2 o3 off (by simpa using l2.length_eq) (fun i y m => l2.item i y (by simpa using m)) ag (fun b _ => Clear.nil b) au k hq z
    | nil =>
      have q' : Rms g [] ds := q
      cases q'
      rw [PyData.shownAll, listText_nil] at hq
      exact call_list_repr_empty ⟨o, k _ _ o1, o2⟩ (k _ _ o1) o3 (hq s.heap _ _ fun _ _ y => y)
  | tup o1 o2 o3 q =>
    rename_i o vs n ds
    rw [PyData.shown] at z
    obtain ⟨l, l1, l2⟩ := Rms.rk (P := P) (w := w) q (by simpa [PyData.showable] using e) fun t m => Nat.le_trans (tupleText_mem_le m) z
    have off : a ∉ l := not_mem_of_deeper full (by rw [PyData.depth]; omega) l1
    refine ⟨"tuple", "tuple.__repr__", F.slot_tuple_repr, F.slot_tuple_str, F.slot_tuple_format, fun s k => ⟨o, k _ _ o1, o2⟩, fun A E s Q ag au k hq => ?_⟩
    rw [PyData.depth] at au
    rw [PyData.shown] at hq
    exact call_tuple_reprK o1 o2 o3 off l2 ag (fun b _ => Clear.nil b) au k hq z
  | dct o1 o2 o3 o4 q1 q2 =>
    rename_i o es n ps
    rw [PyData.shown] at z
    obtain ⟨e1, e2⟩ := PyData.showableKv_split ps (by simpa [PyData.showable] using e)
    obtain ⟨l, l1, l2⟩ := Rms.rk (P := P) (w := w) q1 e1 fun t m => let ⟨_, u1, u2⟩ := PyData.shownKv_key_le ps t m; Nat.le_trans u2 (Nat.le_trans (dictText_mem_le u1) z)
    obtain ⟨k, k1, k2⟩ := Rms.rk (P := P) (w := w) q2 e2 fun t m => let ⟨_, u1, u2⟩ := PyData.shownKv_val_le ps t m; Nat.le_trans u2 (Nat.le_trans (dictText_mem_le u1) z)
    have lk : ReadAtMost g (PyData.depthKv ps) (l ++ k) := (l1.mono (PyData.depthAll_keys_le ps)).append (k1.mono (PyData.depthAll_vals_le ps))
    have off : a ∉ l ++ k := not_mem_of_deeper full (by rw [PyData.depth]; omega) lk
    refine ⟨"dict", "dict.__repr__", F.slot_dict_repr, F.slot_dict_str, F.slot_dict_format, fun s k => ⟨o, k _ _ o1, o2⟩, fun A E s Q ag au kk hq => ?_⟩
    rw [PyData.depth] at au
    rw [PyData.shown, PyData.shownKv_eq] at hq
    exact call_dict_reprK o1 o2 o3 o4 off (ReprEntriesK.of_two es.toList _ _ (l2.more_le (fun _ => List.mem_append_left _) (PyData.depthAll_keys_le ps)) (k2.more_le (fun _ => List.mem_append_right _) (PyData.depthAll_vals_le ps))) ag (fun b _ => Clear.nil b) au kk hq (by rw [← PyData.shownKv_eq]; exact z)
theorem Rm.repr {A : Around} {E : Value → Shared → Prop} {s : Shared} {Q : Value → Shared → Prop} {a : Addr} {d : PyData} (r : Rm s.heap (.ref a) d) (e : d.showable = true) (ag : A.guards = some []) (au : A.units + (d.depth + 1) < cLine) (hq : ∀ h' u tk, (∀ b o, s.heap.get? b = some o → h'.get? b = some o) → Q (.str d.shown u) { s with heap := h', toks := tk }) (z : d.shown.length ≤ sizeLine) : wpAny (model P w) A (call (.builtin "repr") [.ref a]) Q E s := by
  obtain ⟨T, i, S⟩ := r.shows (P := P) (w := w) e z
  have k0 : ∀ (b : Addr) (o : Obj), s.heap.get? b = some o → s.heap.get? b = some o := fun _ _ y => y
  exact call_repr_slot (by omega) (S.typeIs s k0) S.slotRepr (S.call A.in1 E s _ ag (by show A.units + 1 + d.depth < cLine; omega) k0 fun h' u tk k => ⟨_, _, rfl, hq h' u tk k⟩)
end
end Uv

namespace Uv
open PySem PySem.Spec PyProof.Rows L2
/-! ### a dict is never a text -/
theorem dct_no (a : Addr) (es : Array DictEntry) (n : Nat) (p : Option Addr) (c : Array (Option Value)) (x : Str) (t : Tok) : Meets (Builtin.«dict.__eq__» ⟨[.ref a, .str x t], []⟩) (fun _ R s => s.heap.get? a = some { cls := .type "dict", dict := p, data := .dict es n, slots := c } ∧ R (.ok (.ret .notImplemented)) s) :=
  .of_wp fun pr w A R s h => by
    obtain ⟨hp, g, d, tk, os⟩ := s
    obtain ⟨ho, h⟩ := h
    have no := F.sub_str_dict
    wp_walk using wpAny_loadPart' ho
    exact ⟨_, rfl, h⟩
theorem str_no (a : Addr) (k : Value) (es : Array DictEntry) (n : Nat) (p : Option Addr) (c : Array (Option Value)) (x : Str) (t : Tok) : Meets (Builtin.«str.__eq__» ⟨[.str x t, .ref a], []⟩) (fun _ R s => s.heap.get? a = some { cls := k, dict := p, data := .dict es n, slots := c } ∧ R (.ok (.ret .notImplemented)) s) :=
  .of_wp fun pr w A R s h => by
    obtain ⟨hp, g, d, tk, os⟩ := s
    obtain ⟨ho, h⟩ := h
    wp_walk using wpAny_loadPart' ho, wpAny_load ho
    exact ⟨_, rfl, h⟩
theorem dct_str {A : Around} {s : Shared} {a : Addr} {es : Array DictEntry} {n : Nat} {p : Option Addr} {c : Array (Option Value)} (x : Str) (t : Tok) (ho : s.heap.get? a = some { cls := .type "dict", dict := p, data := .dict es n, slots := c }) (hu : A.units < cLine) : SeqAt.RcAt A s (.ref a) (.str x t) false := fun pr w E Q h =>
  SeqAt.rc_eq_decline_or (k := false) ⟨_, ho, rfl⟩ (typeIs_str s x t) (by decide) F.sub_str_dict F.slot_dict_eq F.slot_str_eq_refl
    (fun _ q => call_meets F.slot_dict_eq ⟨_, ho, rfl⟩ F.entry_dict_eq (F.args_dict_eq_2 _ _) (dct_no a es n p c x t) ⟨ho, q⟩)
    (fun _ q => call_meets F.slot_str_eq_refl (typeIs_str s x t) F.entry_str_eq (F.args_str_eq_2 _ _) (str_no a (.type "dict") es n p c x t) ⟨ho, q⟩)
    (fun _ q => wpAny_of_eq (rfl : isSame (.ref a) (.str x t) = pure false) q) (.inr hu) h
end Uv

namespace Uv
open PySem PySem.Spec PyProof.Rows L2
open Evl (Ex)
/-! ### tuples whose object is known -/
def Plain (o : Obj) : Prop := o.cls = .type "tuple" ∧ o.dict = none
abbrev fz (o : Obj) (xs : List V) : HO := .frz o (.tup xs)
def tTupF (t : TA) : TE := fun σ H Q => t σ H fun xs H1 => xs.length ≤ sizeLine ∧ ∀ p o, H1 p = none → Plain o → Q (.ref p) (upd H1 p (fz o xs))
theorem pe_tupF {X : Cx} {es : List Expr} {t : TA} {pos : Pos} {x1} (h : PA X es t) : PE X (.Tuple es x1 pos) (tTupF t) := by
  refine ⟨fun pins s σ H Q I hq => ?_⟩
  refine wpAny_Tuple_spliced (thn (h.run pos pins s σ H _ I hq) fun us s1 ⟨xs, H1, I1, r, z, q⟩ => ⟨by rw [← r.length]; exact z, ?_⟩)
  have I2 : Inv X pins σ (upd H1 s1.heap.objs.size (fz { cls := .type "tuple", data := .seq us.toArray } xs)) { s1 with heap := s1.heap.push { cls := .type "tuple", data := .seq us.toArray }, toks := s1.toks } :=
    I1.laid (t' := s1.toks) (fun b u e => Heap.get?_push_of_some _ e) (Nat.le_refl _) (show ObjOk X.prog X.w _ _ _ (.frz _ (.tup xs)) from ⟨Heap.get?_push_size _ rfl, z, us, r, IsTup.new _ _⟩)
  exact ⟨.ref s1.heap.objs.size, _, I2, rfl, q _ _ (I1.hok.fresh (Nat.le_refl _)) ⟨rfl, rfl⟩⟩
/-- tuple(xs) of a list: a new one; of a tuple: itself -/
def rTupF (K : PySem.W.Frag) : List V → Hp → VK → Prop := fun xs H Q => ∃ p ys, xs = [.ref p] ∧ ((SqL K H p ys ∧ ∀ l o, H l = none → Plain o → Q (.ref l) (upd H l (fz o ys))) ∨ (SqT K H p ys ∧ Q (.ref p) H))
theorem cr_tupF {X : Cx} : CallR X (.type "tuple") (rTupF X.K) := by
  intro pins s σ H xs us Q I r h
  obtain ⟨p, ys, rfl, h⟩ := h
  rcases h with ⟨hq, q⟩ | ⟨ht, q⟩
  · obtain ⟨u, rfl, rx⟩ := vals1 r
    cases rx
    obtain ⟨its, r', pl, hz⟩ := I.list hq
    have hlen := r'.length
    refine call_tuple_list pl.isList (fun h' kp => ?_) (by simp only [List.size_toArray] <;> omega)
    have I1 : Inv X pins σ H { s with heap := h' } := I.kept (t' := s.toks) kp
    have I2 : Inv X pins σ (upd H h'.objs.size (fz { cls := .type "tuple", data := .seq its.toArray } ys)) { s with heap := h'.push { cls := .type "tuple", data := .seq its.toArray } } :=
      I1.laid (t' := s.toks) (fun b o e => Heap.get?_push_of_some _ e) (Nat.le_refl _) (show ObjOk X.prog X.w _ _ _ (.frz _ (.tup ys)) from ⟨Heap.get?_push_size _ rfl, hz, its, r', IsTup.new _ _⟩)
    exact ⟨.ref h'.objs.size, _, I2, rfl, q _ _ (I1.hok.fresh (Nat.le_refl _)) ⟨rfl, rfl⟩⟩
  · exact call_tupleT pins s σ H _ us Q I r ⟨p, ys, rfl, ht, q⟩
/-- t + u -/
def rCatF (K : PySem.W.Frag) : R2 := fun x y H Q => ∃ a b xs ys, x = .ref a ∧ y = .ref b ∧ SqT K H a xs ∧ SqT K H b ys ∧ xs.length + ys.length ≤ sizeLine ∧
  (xs = [] → Q (.ref b) H) ∧ (xs ≠ [] → ys = [] → Q (.ref a) H) ∧ (xs ≠ [] → ys ≠ [] → ∀ p o, H p = none → Plain o → Q (.ref p) (upd H p (fz o (xs ++ ys))))
theorem op_catF {X : Cx} : OpR X (binaryOp .Add) (rCatF X.K) := by
  intro pins s σ H x y v u Q I rx ry h
  obtain ⟨a, b, xs, ys, rfl, rfl, ha, hb, hz, q0, q1, q2⟩ := h
  cases rx
  cases ry
  obtain ⟨its, r1, p1, _⟩ := I.tuple ha
  obtain ⟨its2, r2, p2, _⟩ := I.tuple hb
  by_cases hx : xs = []
  · subst hx
    cases r1
    exact cat_tup0 p1 p2 ⟨.ref b, H, I, rfl, q0 rfl⟩
  · refine HT.cat_tup p1 p2 (fun z => hx (r1.nil_iff.mp z)) (fun z => ⟨.ref a, H, I, rfl, q1 hx (r2.nil_iff.mp z)⟩) (fun z => ?_) (by rw [← r1.length, ← r2.length]; exact hz)
    have hy : ys ≠ [] := fun w => z (r2.nil_iff.mpr w)
    have ok := I.laid (t' := s.toks) (o := fz _ (xs ++ ys)) (fun b ob q => Heap.get?_push_of_some _ q) (Nat.le_refl _) (show ObjOk X.prog X.w _ _ _ (.frz _ (.tup (xs ++ ys))) from ⟨Heap.get?_push_size _ rfl, by rw [List.length_append]; exact hz, _, r1.append r2, IsTup.new _ _⟩)
    exact ⟨.ref s.heap.objs.size, _, ok, rfl, q2 hx hy _ _ (I.hok.fresh (Nat.le_refl _)) ⟨rfl, rfl⟩⟩
/-- t[lo:hi] -/
def rSlF (K : PySem.W.Frag) : V → Option Int → Option Int → Hp → VK → Prop := fun x lo hi H Q => ∃ a xs, x = .ref a ∧ SqT K H a xs ∧
  (HT.sIx xs.length 0 lo = 0 ∧ HT.sIx xs.length xs.length hi = xs.length → Q (.ref a) H) ∧ (¬ (HT.sIx xs.length 0 lo = 0 ∧ HT.sIx xs.length xs.length hi = xs.length) → ∀ p o, H p = none → Plain o → Q (.ref p) (upd H p (fz o (cutV xs lo hi))))
theorem sl_tupF {X : Cx} : SlR X (rSlF X.K) := by
  intro pins s σ H x v vl vu lo hi sl Q I rx hs pl pu h
  obtain ⟨a, xs, rfl, hx, q1, q2⟩ := h
  cases rx
  obtain ⟨its, r, ht, hz⟩ := I.tuple hx
  have hlen : its.toArray.size = xs.length := by rw [List.size_toArray]; exact r.length.symm
  refine ⟨"tuple", _, PyProof.Rows.slot_tuple_getitem.lookup, ht.typeIs, ?_⟩
  by_cases hw : HT.sIx xs.length 0 lo = 0 ∧ HT.sIx xs.length xs.length hi = xs.length
  · exact getItem_tuple_whole ht hs pl pu (by rw [hlen]; exact hw) ⟨.ref a, H, I, rfl, q1 hw⟩
  · refine HT.getItem_tuple_cut ht hs pl pu (by rw [hlen]; exact hw) ?_ (by rw [hlen]; exact hz)
    rw [hlen]
    have ok := I.laid (t' := s.toks) (o := fz _ (cutV xs lo hi)) (fun b ob q => Heap.get?_push_of_some _ q) (Nat.le_refl _) (show ObjOk X.prog X.w _ _ _ (.frz _ (.tup (cutV xs lo hi))) from ⟨Heap.get?_push_size _ rfl, Nat.le_trans (cutV_length xs lo hi) hz, _, (r.drop (HT.sIx xs.length 0 lo)).take (HT.sIx xs.length xs.length hi - HT.sIx xs.length 0 lo), IsTup.new _ _⟩)
    exact ⟨.ref s.heap.objs.size, _, ok, rfl, q2 hw _ _ (I.hok.fresh (Nat.le_refl _)) ⟨rfl, rfl⟩⟩
/-- t.index(x) of a tuple of ints or Nones: x in t -/
def rIndexF (K : PySem.W.Frag) : V → List V → Hp → VK → Prop := fun x xs H Q => ∃ (a : Addr) (ns : List Int) (m : Int), x = .ref a ∧ xs = [.int m] ∧ SqT K H a (ns.map V.int) ∧ m ∈ ns ∧ Q (.int (ns.idxOf m : Nat)) H
theorem mt_indexF {X : Cx} (hu : X.A.units + 65 < cLine) : MtR X "tuple.index" (rIndexF X.K) := by
  intro pins s σ H x xs v us Q I rx rxs h
  obtain ⟨a, ns, m, rfl, rfl, hs, hm, q⟩ := h
  cases rx
  obtain ⟨u, rfl, t, rfl⟩ := vals1 rxs
  obtain ⟨its, rv, p, _⟩ := I.tuple hs
  refine PySem.W.index_tuple_datum (xs := ns) (x := m) p ⟨[], rv.ints.reads s.heap⟩ ⟨[], .int m t⟩ (by show X.A.units + 1 + 0 < cLine; omega) hm ?_
  exact ⟨.int _, H, I.tok _, ⟨_, rfl⟩, q⟩
def tBMF (r : V → List V → Hp → VK → Prop) (to : TE) (t : TA) : TE := fun σ H Q => to σ H fun x H1 => (∃ p o u, x = .ref p ∧ H1 p = some (.frz o u) ∧ Plain o) ∧ t σ H1 fun xs H2 => r x xs H2 Q
theorem pe_bmF {X : Cx} {o e : Expr} {es : List Expr} {to : TE} {t : TA} {name : Str} {apos cpos : Pos} {id : String} {r : V → List V → Hp → VK → Prop} (slot : Slot "tuple" name id) (hty : typeOf (.builtin id) = pure (.type "method_descriptor")) (hm : MtR X id r) (ho : PE X o to) (ha : PA X (e :: es) t)
    (hbase : attributeBase o name X.env (eval o X.env) = eval o X.env := by rfl)
    (hfew : ((backTo cpos (starEach (e :: es) X.env)).all (fun x => !x.1) && (backToKw cpos (keywordEach [] X.env)).all (fun x => x.1.isSome)
      && decide ((e :: es).length + ([] : List Keyword).length + (if ([] : List Keyword).isEmpty then 0 else 1) < 30)) = true := by rfl)
    (hline : (apos.endLine == cpos.line) = true := by rfl) (hs : starEach (e :: es) X.env = (false, eval e X.env) :: starEach es X.env := by rfl) (hplain : (backTo cpos (starEach es X.env)).any (·.1) = false := by rfl) :
    PE X (.Call (.Attribute o name apos) (e :: es) [] cpos) (tBMF r to t) := by
  refine ⟨fun pins s σ H Q I h => wpAny_Call_method_late hbase hfew hline rfl (thn (ho.run pins s σ H _ I h) fun v s1 ⟨x, H1, I1, r1, ty, q1⟩ => ?_)⟩
  obtain ⟨p, ob, u, rfl, hp, hc, hd⟩ := ty
  cases r1
  have hg := (I1.hok p _ hp).1
  refine ⟨"tuple", id, PySem.F.plainAttrs_tuple, slot, hty, ⟨ob, hg, hc⟩, fun a e => by cases e; exact ⟨ob, hg, hd⟩, ?_⟩
  have hA := ha.run cpos pins s1 σ H1 _ I1 q1
  rw [hs] at hA ⊢
  refine Calls.callWith_builtin (by show (false || (backTo cpos (starEach es X.env)).any (·.1)) = false; rw [hplain] <;> rfl) (Calls.evalArgs_plain ?_)
  exact thn hA fun us s2 ⟨vs, H2, I2, r2, q2⟩ => hm pins s2 σ H2 (.ref p) vs (.ref p) us Q I2 (show L2.RelV (.ref p) (.ref p) from rfl) r2 q2
theorem u65 {k : Nat} {A : Around} (r : Room k A) : A.units + 65 < cLine := by have := r.un; omega
end Uv

namespace Uv
open PySem PySem.Spec PyProof.Rows L2
open Evl (Ex)
/-- the written part that is in force -/
class KK where
  fr : PySem.W.Frag
abbrev K [kk : KK] : PySem.W.Frag := kk.fr
variable [kk : KK]
abbrev PD := PyData
/-- the script, as data: only len, an index, a slice and a walk are asked of it -/
abbrev scrD (ds : List PD) : PD := .dict [(.none, .list ds)]
theorem sqx {K : PySem.W.Frag} {H H' : Hp} {a : Addr} {xs : List V} (e : Ex H H') (h : SqL K H a xs) : SqL K H' a xs := h.elim (fun r => .inl (r.elim (fun r => .inl (e _ _ r)) fun ⟨o, r⟩ => .inr ⟨o, e _ _ r⟩)) .inr
abbrev Hs := Addr → Prop
/-! ### what is hidden -/
open Classical in
noncomputable def hid (S : Hs) (H : Hp) : Hp := fun x => if S x then none else H x
section
variable {S S' : Hs} {H H' : Hp} {x p : Addr} {o : HO}
theorem hid_in (h : S x) : hid S H x = none := by unfold hid; rw [if_pos h]
theorem hid_out (h : ¬ S x) : hid S H x = H x := by unfold hid; rw [if_neg h]
theorem hid_some (h : hid S H x = some o) : ¬ S x ∧ H x = some o := by
  by_cases c : S x
  · rw [hid_in c] at h; cases h
  · rw [hid_out c] at h; exact ⟨c, h⟩
theorem hid_ex (e : Ex H H') : Ex (hid S H) (hid S H') := fun x o h => by
  obtain ⟨c, h⟩ := hid_some h
  rw [hid_out c]; exact e x o h
theorem hid_le : Ex (hid S H) H := fun x o h => (hid_some h).2
theorem hid_sub (h : ∀ x, S' x → S x) : Ex (hid S H) (hid S' H) := fun x o q => by
  obtain ⟨c, q⟩ := hid_some q
  rw [hid_out fun z => c (h x z)]; exact q
theorem hid_eq (h : ∀ x, S x ↔ S' x) : hid S H = hid S' H := by
  funext x
  by_cases c : S x
  · rw [hid_in c, hid_in ((h x).mp c)]
  · rw [hid_out c, hid_out fun z => c ((h x).mpr z)]
def Al (S : Hs) (H : Hp) : Prop := ∀ x, S x → H x ≠ none
theorem Al.ex (a : Al S H) (e : Ex H H') : Al S H' := fun x hx z => by
  cases q : H x with
  | none => exact a x hx q
  | some o => rw [e x o q] at z; cases z
theorem Al.new (a : Al S H) (hp : H p = none) : ¬ S p := fun z => a p z hp
theorem new_ok (al : Al S H) (hp : H p = none) : hid S (upd H p o) p = some o := by rw [hid_out (al.new hp), upd_same]
theorem hid_cons (e : Ex H H') (hp : H p = none) : Ex (hid S H) (hid (fun x => x = p ∨ S x) H') := fun x o h => by
  obtain ⟨c, h⟩ := hid_some h
  have n : ¬ (x = p ∨ S x) := fun z => z.elim (fun z => by subst z; rw [hp] at h; cases h) c
  rw [hid_out n]; exact e x o h
end
/-! ### data as they stand on the heap -/
mutual
inductive Rp (H : Hp) : V → PD → Prop
  | non : Rp H .non .none
  | bl (b : Bool) : Rp H (.bl b) (.bool b)
  | int (i : Int) : Rp H (.int i) (.int i)
  | str (x : Str) : Rp H (.str x) (.str x)
  | lst {a : Addr} {xs : List V} {ds : List PD} : H a = some (.lst xs) → RpAll H xs ds → Rp H (.ref a) (.list ds)
  | tup {a : Addr} {o : Obj} {xs : List V} {ds : List PD} : H a = some (fz o xs) → Plain o → RpAll H xs ds → Rp H (.ref a) (.tuple ds)
  | dct {a : Addr} {ks : List Str} {xs : List V} {ds : List PD} {ps : List (PD × PD)} : H a = some (.dK ((ks.map Sum.inr).zip xs)) → ks.length = xs.length → ps = (ks.map PyData.str).zip ds → RpAll H xs ds → Rp H (.ref a) (.dict ps)
  | scr {a : Addr} {xs : List V} {ds : List PD} : SqL K H a xs → RpAll H xs ds → Rp H (.ref a) (scrD ds)
inductive RpAll (H : Hp) : List V → List PD → Prop
  | nil : RpAll H [] []
  | cons {v : V} {vs : List V} {d : PD} {ds : List PD} : Rp H v d → RpAll H vs ds → RpAll H (v :: vs) (d :: ds)
end
mutual
theorem Rp.ex {H H' : Hp} (e : Ex H H') : ∀ {v : V} {d : PD}, Rp H v d → Rp H' v d
  | _, _, .non => .non
  | _, _, .bl b => .bl b
  | _, _, .int i => .int i
  | _, _, .str x => .str x
  | _, _, .lst h r => .lst (e _ _ h) (RpAll.ex e r)
  | _, _, .tup h p r => .tup (e _ _ h) p (RpAll.ex e r)
  | _, _, .dct h l q r => .dct (e _ _ h) l q (RpAll.ex e r)
  | _, _, .scr h r => .scr (sqx e h) (RpAll.ex e r)
theorem RpAll.ex {H H' : Hp} (e : Ex H H') : ∀ {vs : List V} {ds : List PD}, RpAll H vs ds → RpAll H' vs ds
  | _, _, .nil => .nil
  | _, _, .cons h r => .cons (Rp.ex e h) (RpAll.ex e r)
end
mutual
theorem Rp.dp {H : Hp} : ∀ {v : V} {d : PD}, Rp H v d → d.hasDict = false → Dp K H v d
  | _, _, .non, _ => .non
  | _, _, .bl b, _ => .bl b
  | _, _, .int i, _ => .int i
  | _, _, .str x, _ => .str x
  | _, _, .lst h r, n => .lst (.inl (.inl h)) (RpAll.dp r (by simpa [PyData.hasDict] using n))
  | _, _, .tup h _ r, n => .tup (.inl (.inr ⟨_, h⟩)) (RpAll.dp r (by simpa [PyData.hasDict] using n))
  | _, _, .dct h _ _ _, n => by simp [PyData.hasDict] at n
  | _, _, .scr h r, n => by simp [PyData.hasDict] at n
theorem RpAll.dp {H : Hp} : ∀ {vs : List V} {ds : List PD}, RpAll H vs ds → PyData.hasDictAll ds = false → DpAll K H vs ds
  | _, _, .nil, _ => .nil
  | _, _, .cons h r, n => by
    simp only [PyData.hasDictAll, Bool.or_eq_false_iff] at n
    exact .cons (Rp.dp h n.1) (RpAll.dp r n.2)
end
section
variable {H : Hp}
theorem RpAll.length : ∀ {vs : List V} {ds : List PD}, RpAll H vs ds → vs.length = ds.length
  | _, _, .nil => rfl
  | _, _, .cons _ r => by rw [List.length_cons, List.length_cons, RpAll.length r]
theorem RpAll.get : ∀ {vs : List V} {ds : List PD} {i : Nat} {d : PD}, RpAll H vs ds → ds[i]? = some d → ∃ v, vs[i]? = some v ∧ Rp H v d
  | _, _, _, _, .nil, e => by simp at e
  | _, _, 0, _, .cons h _, e => by
    simp at e
    subst e
    exact ⟨_, rfl, h⟩
  | _, _, i + 1, d, .cons _ r, e => by
    obtain ⟨v, h1, h2⟩ := RpAll.get (i := i) (d := d) r (by simpa using e)
    exact ⟨v, by simpa using h1, h2⟩
theorem RpAll.append : ∀ {vs ws : List V} {ds es : List PD}, RpAll H vs ds → RpAll H ws es → RpAll H (vs ++ ws) (ds ++ es)
  | _, _, _, _, .nil, s => s
  | _, _, _, _, .cons h r, s => .cons h (RpAll.append r s)
theorem RpAll.drop : ∀ {vs : List V} {ds : List PD} (n : Nat), RpAll H vs ds → RpAll H (vs.drop n) (ds.drop n)
  | _, _, 0, r => by simpa using r
  | _, _, n + 1, .nil => by simpa using RpAll.nil
  | _, _, n + 1, .cons _ r => by simpa using RpAll.drop n r
theorem RpAll.take : ∀ {vs : List V} {ds : List PD} (n : Nat), RpAll H vs ds → RpAll H (vs.take n) (ds.take n)
  | _, _, 0, r => by simpa using RpAll.nil
  | _, _, n + 1, .nil => by simpa using RpAll.nil
  | _, _, n + 1, .cons h r => by simpa using RpAll.cons h (RpAll.take n r)
theorem RpAll.at {vs : List V} {ds : List PD} {i : Int} {d : PD} (r : RpAll H vs ds) (h : atI ds i = some d) : ∃ v, atI vs i = some v ∧ Rp H v d := by
  unfold atI at h ⊢
  rw [r.length]
  cases e : ixN ds.length i with
  | none => rw [e] at h; cases h
  | some j =>
    rw [e] at h
    exact r.get (i := j) h
theorem RpAll.set : ∀ {vs : List V} {ds : List PD} {v : V} {d : PD} (n : Nat), RpAll H vs ds → Rp H v d → RpAll H (vs.set n v) (ds.set n d)
  | _, _, _, _, _, .nil, _ => by simpa using RpAll.nil
  | _, _, _, _, 0, .cons _ r, h => by simpa using RpAll.cons h r
  | _, _, _, _, n + 1, .cons h0 r, h => by simpa using RpAll.cons h0 (RpAll.set n r h)
theorem RpAll.rep {vs : List V} {ds : List PD} (r : RpAll H vs ds) : ∀ n, RpAll H (List.replicate n vs).flatten (List.replicate n ds).flatten
  | 0 => .nil
  | n + 1 => by
    rw [List.replicate_succ, List.replicate_succ, List.flatten_cons, List.flatten_cons]
    exact r.append (RpAll.rep r n)
/-- ints as data -/
def unI : List PD → Option (List Int)
  | [] => some []
  | .int i :: r => (unI r).map (i :: ·)
  | _ => none
def unB : List PD → Option (List Bool)
  | [] => some []
  | .bool b :: r => (unB r).map (b :: ·)
  | _ => none
theorem unI_map : ∀ ns : List Int, unI (ns.map PyData.int) = some ns
  | [] => rfl
  | n :: ns => by rw [List.map_cons, unI, unI_map ns]; rfl
theorem unB_map : ∀ ns : List Bool, unB (ns.map PyData.bool) = some ns
  | [] => rfl
  | n :: ns => by rw [List.map_cons, unB, unB_map ns]; rfl
theorem unI_eq : ∀ {ds : List PD} {ns : List Int}, unI ds = some ns → ds = ns.map PyData.int
  | [], ns, h => by cases h; rfl
  | .int i :: r, ns, h => by
    unfold unI at h
    cases q : unI r with
    | none => rw [q] at h; cases h
    | some ms =>
      rw [q] at h
      cases h
      rw [unI_eq q]
      rfl
  | .none :: _, _, h => by cases h
  | .bool _ :: _, _, h => by cases h
  | .str _ :: _, _, h => by cases h
  | .list _ :: _, _, h => by cases h
  | .tuple _ :: _, _, h => by cases h
  | .dict _ :: _, _, h => by cases h
theorem unB_eq : ∀ {ds : List PD} {ns : List Bool}, unB ds = some ns → ds = ns.map PyData.bool
  | [], ns, h => by cases h; rfl
  | .bool i :: r, ns, h => by
    unfold unB at h
    cases q : unB r with
    | none => rw [q] at h; cases h
    | some ms =>
      rw [q] at h
      cases h
      rw [unB_eq q]
      rfl
  | .none :: _, _, h => by cases h
  | .int _ :: _, _, h => by cases h
  | .str _ :: _, _, h => by cases h
  | .list _ :: _, _, h => by cases h
  | .tuple _ :: _, _, h => by cases h
  | .dict _ :: _, _, h => by cases h
theorem RpAll.ints : ∀ {vs : List V} {ns : List Int}, RpAll H vs (ns.map PyData.int) → vs = ns.map V.int
  | _, [], .nil => rfl
  | _, n :: ns, .cons (.int _) r => by rw [RpAll.ints r]; rfl
theorem RpAll.bools : ∀ {vs : List V} {bs : List Bool}, RpAll H vs (bs.map PyData.bool) → vs = bs.map V.bl
  | _, [], .nil => rfl
  | _, n :: ns, .cons (.bl _) r => by rw [RpAll.bools r]; rfl
theorem RpAll.ofInts : ∀ (ns : List Int), RpAll H (ns.map V.int) (ns.map PyData.int)
  | [] => .nil
  | n :: ns => .cons (.int n) (RpAll.ofInts ns)
end
/-! ### data with dicts, as repr reads them -/
omit kk in
theorem zip_str {ks : List Str} {ds : List PD} {ps : List (PD × PD)} (h : ps = (ks.map PyData.str).zip ds) : ps = [] ∨ ∃ k d r, ps = (PyData.str k, d) :: r := by
  subst h
  cases ks with
  | nil => exact .inl rfl
  | cons k ks => cases ds with
    | nil => exact .inl rfl
    | cons d ds => exact .inr ⟨k, d, _, rfl⟩
mutual
def scrF : PD → Bool
  | .none | .bool _ | .int _ | .str _ => true
  | .list xs | .tuple xs => scrFs xs
  | .dict kvs => scrFk kvs
def scrFs : List PD → Bool
  | [] => true
  | x :: xs => scrF x && scrFs xs
def scrFk : List (PD × PD) → Bool
  | [] => true
  | (k, v) :: r => (match k with | .str _ => true | _ => false) && scrF v && scrFk r
end
theorem scrFk_zip : ∀ {ks : List Str} {ds : List PD}, ks.length = ds.length → scrFk ((ks.map PyData.str).zip ds) = scrFs ds
  | [], [], _ => rfl
  | k :: ks, d :: ds, h => by
    show (true && scrF d && scrFk ((ks.map PyData.str).zip ds)) = (scrF d && scrFs ds)
    rw [scrFk_zip (by simpa using h), Bool.true_and]
section
variable {X : Cx} {pins : List (Addr × Obj)} {σ : L2.St} {H : Hp} {s : Shared}
theorem rm_keys {P : Program} {w : World} {g : Heap} : ∀ {ks : List Str} {xs : List V} {vs : List (Key × Value)} {es : List DictEntry}, ks.length = xs.length → KV ((ks.map Sum.inr).zip xs) vs → Pairs (mixKind P w) es vs → Rms g (es.map (·.key)) (ks.map PyData.str) ∧ Vals xs (es.map (·.val))
  | [], [], _, _, _, r, p => by
    cases r
    cases p
    exact ⟨.nil, .nil⟩
  | k :: ks, x :: xs, _, _, hl, r, p => by
    have r : KV ((Sum.inr k, x) :: (ks.map Sum.inr).zip xs) _ := r
    cases r with
    | cons h t =>
      cases p with
      | cons p1 p2 p3 =>
        obtain ⟨h1, h2⟩ := h
        obtain ⟨q1, q2⟩ := rm_keys (g := g) (by simpa using hl) t p3
        rcases keyIs_shape p1 with ⟨i, u, e, _⟩ | ⟨y, u, e, e2⟩
        · rw [← h1] at e; exact nomatch e
        · rw [← h1] at e
          have e : k = y := Sum.inr.inj e
          subst e
          refine ⟨?_, ?_⟩
          · refine Rms.cons (ds := ks.map PyData.str) ?_ q1
            show Rm g _ (PyData.str k)
            have z := Rm.str (h := g) k u
            rw [← e2] at z
            exact z
          · refine Paired.cons ?_ q2
            show RelV x _
            have z : RelV x _ := h2
            rw [← p2] at z
            exact z
mutual
theorem Rp.rm (I : L2.Inv X pins σ H s) : ∀ {v : V} {d : PD}, Rp H v d → scrF d = true → ∀ {u : Value}, RelV v u → Rm s.heap u d
  | _, _, .non, _, _, r => by cases r; exact .non
  | _, _, .bl b, _, _, r => by cases r; exact .bl b
  | _, _, .int i, _, _, r => by obtain ⟨t, rfl⟩ := r; exact .int i t
  | _, _, .str x, _, _, r => by obtain ⟨t, rfl⟩ := r; exact .str x t
  | _, _, .lst h ra, f, _, r => by
    cases r
    obtain ⟨its, rv, ⟨o, n, ho, hc, _, hd⟩, _⟩ := I.list (show SqL X.K H _ _ from .inl (.inl h))
    exact .lst ho hc hd (RpAll.rm I ra (by simpa [scrF] using f) rv)
  | _, _, .tup h _ ra, f, _, r => by
    cases r
    obtain ⟨its, rv, ⟨o, ho, hc, n, hd⟩, _⟩ := I.tuple (show SqT X.K H _ _ from .inl (.inr ⟨_, h⟩))
    exact .tup ho hc hd (RpAll.rm I ra (by simpa [scrF] using f) rv)
  | _, _, .dct (ks := ks) (xs := xs) (ds := ds) h hl hp ra, f, _, r => by
    cases r
    subst hp
    have ld : xs.length = ds.length := ra.length
    obtain ⟨_, sm, vs, rel, o, es, ep, h1, h2, h3, _, h5, _⟩ := dk_of I.hok h
    obtain ⟨k1, k2⟩ := rm_keys (g := s.heap) hl rel h5
    refine .dct h1 h2.1 h3 sm ?_ ?_
    · rw [List.map_fst_zip (by simp; omega)]; exact k1
    · rw [List.map_snd_zip (by simp; omega)]
      refine RpAll.rm I ra ?_ k2
      rw [← scrFk_zip (ks := ks) (by omega)]
      simpa [scrF] using f
  | _, _, .scr _ _, f, _, _ => by simp [scrF, scrFk] at f
theorem RpAll.rm (I : L2.Inv X pins σ H s) : ∀ {vs : List V} {ds : List PD}, RpAll H vs ds → scrFs ds = true → ∀ {us : List Value}, Vals vs us → Rms s.heap us ds
  | _, _, .nil, _, _, r => by cases r; exact .nil
  | _, _, .cons h t, f, _, r => by
    simp only [scrFs, Bool.and_eq_true] at f
    cases r with
    | cons r1 r2 => exact .cons (Rp.rm I h f.1 r1) (RpAll.rm I t f.2 r2)
end
end
/-! ### slots -/
abbrev VE := List (Option PD)
def En (H : Hp) (σ : L2.St) (ρ : VE) : Prop := σ.length = ρ.length ∧ ∀ (i : Nat) (d : PD), ρ[i]? = some (some d) → ∃ v, σ[i]? = some (some v) ∧ Rp H v d
section
variable {H H' : Hp} {σ : L2.St} {ρ : VE}
theorem En.ex (h : En H σ ρ) (e : Ex H H') : En H' σ ρ := ⟨h.1, fun i d hi => let ⟨v, h1, h2⟩ := h.2 i d hi; ⟨v, h1, h2.ex e⟩⟩
theorem En.set (h : En H σ ρ) (j : Nat) {v : V} {d : PD} (hr : Rp H v d) : En H (σ.set j (some v)) (ρ.set j (some d)) := by
  refine ⟨by rw [List.length_set, List.length_set]; exact h.1, fun i q hi => ?_⟩
  by_cases c : j = i
  · subst c
    have hl : j < ρ.length := by
      have := (List.getElem?_eq_some_iff.mp hi).1
      simpa using this
    rw [List.getElem?_set_self hl] at hi
    cases hi
    exact ⟨v, List.getElem?_set_self (by rw [h.1]; exact hl), hr⟩
  · rw [List.getElem?_set_ne c] at hi
    rw [List.getElem?_set_ne c]
    exact h.2 i q hi
theorem En.clear (h : En H σ ρ) (j : Nat) (o : Option V) : En H (σ.set j o) (ρ.set j none) := by
  refine ⟨by rw [List.length_set, List.length_set]; exact h.1, fun i q hi => ?_⟩
  by_cases c : j = i
  · subst c
    have hl : j < ρ.length := by
      have := (List.getElem?_eq_some_iff.mp hi).1
      simpa using this
    rw [List.getElem?_set_self hl] at hi
    cases hi
  · rw [List.getElem?_set_ne c] at hi
    rw [List.getElem?_set_ne c]
    exact h.2 i q hi
theorem en_nil : En H [] [] := ⟨rfl, fun i r h => by simp at h⟩
theorem en_cons {o : Option V} {r : Option PD} (h : ∀ d, r = some d → ∃ v, o = some v ∧ Rp H v d) (t : En H σ ρ) : En H (o :: σ) (r :: ρ) := by
  refine ⟨by rw [List.length_cons, List.length_cons, t.1], fun i q hi => ?_⟩
  cases i with
  | zero =>
    have e : r = some q := by simpa using hi
    obtain ⟨v, e2, rv⟩ := h q e
    exact ⟨v, by rw [e2]; rfl, rv⟩
  | succ i => exact t.2 i q (by simpa using hi)
theorem en_none : ∀ n : Nat, En H (List.replicate n none) (List.replicate n none)
  | 0 => en_nil
  | n + 1 => by
    rw [List.replicate_succ, List.replicate_succ]
    exact en_cons (fun d h => nomatch h) (en_none n)
theorem en_args {n : Nat} : ∀ {vs : List V} {ds : List PD}, RpAll H vs ds → En H (vs.map some ++ List.replicate n none) (ds.map some ++ List.replicate n none)
  | _, _, .nil => en_none n
  | _, _, .cons h t => en_cons (fun d e => by cases e; exact ⟨_, rfl, h⟩) (en_args t)
end
/-! ### pure readings -/
def Ed (te : TE) (ρ : VE) (d : PD) : Prop := ∀ S σ H, Al S H → En (hid S H) σ ρ → ∀ Q : VK, (∀ v H2, Ex H H2 → Rp (hid S H2) v d → Q v H2) → te σ H Q
def Et (tt : TT) (ρ : VE) (b : Bool) : Prop := ∀ S σ H, Al S H → En (hid S H) σ ρ → ∀ Q : Bool → Hp → Prop, (∀ H2, Ex H H2 → Q b H2) → tt σ H Q
def Ea (ta : TA) (ρ : VE) (ds : List PD) : Prop := ∀ S σ H, Al S H → En (hid S H) σ ρ → ∀ Q : List V → Hp → Prop, (∀ vs H2, Ex H H2 → RpAll (hid S H2) vs ds → Q vs H2) → ta σ H Q
def Ro (r : R2) (x y z : PD) : Prop := ∀ S H vx vy, Al S H → Rp (hid S H) vx x → Rp (hid S H) vy y → ∀ Q : VK, (∀ v H2, Ex H H2 → Rp (hid S H2) v z → Q v H2) → r vx vy H Q
def Ru (r : V → Hp → VK → Prop) (x z : PD) : Prop := ∀ S H vx, Al S H → Rp (hid S H) vx x → ∀ Q : VK, (∀ v H2, Ex H H2 → Rp (hid S H2) v z → Q v H2) → r vx H Q
def Rc (r : List V → Hp → VK → Prop) (xs : List PD) (z : PD) : Prop := ∀ S H vs, Al S H → RpAll (hid S H) vs xs → ∀ Q : VK, (∀ v H2, Ex H H2 → Rp (hid S H2) v z → Q v H2) → r vs H Q
abbrev XE := VE → Option PD
abbrev XT := VE → Option Bool
abbrev XA := VE → Option (List PD)
def SE (te : TE) (x : XE) : Prop := ∀ ρ d, x ρ = some d → Ed te ρ d
def ST (tt : TT) (x : XT) : Prop := ∀ ρ b, x ρ = some b → Et tt ρ b
def SA (ta : TA) (x : XA) : Prop := ∀ ρ ds, x ρ = some ds → Ea ta ρ ds
def SO (r : R2) (f : PD → PD → Option PD) : Prop := ∀ x y z, f x y = some z → Ro r x y z
def SU (r : V → Hp → VK → Prop) (f : PD → Option PD) : Prop := ∀ x z, f x = some z → Ru r x z
def SC (r : List V → Hp → VK → Prop) (f : List PD → Option PD) : Prop := ∀ xs z, f xs = some z → Rc r xs z
theorem bind_some {α β : Type} {a : Option α} {f : α → Option β} {z : β} (h : a.bind f = some z) : ∃ x, a = some x ∧ f x = some z := by
  cases a with
  | none => cases h
  | some x => exact ⟨x, rfl, h⟩
def xVar (i : Nat) : XE := fun ρ => (ρ[i]?).bind id
def xC (d : PD) : XE := fun _ => some d
def xOp (f : PD → PD → Option PD) (a b : XE) : XE := fun ρ => (a ρ).bind fun x => (b ρ).bind fun y => f x y
def xUn (f : PD → Option PD) (a : XE) : XE := fun ρ => (a ρ).bind f
def xNil : XA := fun _ => some []
def xCons (a : XE) (as : XA) : XA := fun ρ => (a ρ).bind fun x => (as ρ).bind fun xs => some (x :: xs)
def xTup (as : XA) : XE := fun ρ => (as ρ).bind fun ds => if ds.length ≤ 100000 then some (.tuple ds) else none
def xLst (as : XA) : XE := fun ρ => (as ρ).bind fun ds => if ds.length ≤ 100000 then some (.list ds) else none
def xCB (f : List PD → Option PD) (as : XA) : XE := fun ρ => (as ρ).bind f
def isB : PD → Option Bool
  | .bool b => some b
  | _ => none
theorem isB_eq {d : PD} {b : Bool} (h : isB d = some b) : d = .bool b := by
  cases d with
  | bool c => cases h; rfl
  | _ => cases h
def xB (a : XE) : XT := fun ρ => (a ρ).bind isB
def xTAnd (a b : XT) : XT := fun ρ => (a ρ).bind fun c => if c = true then b ρ else some false
def xTOr (a b : XT) : XT := fun ρ => (a ρ).bind fun c => if c = true then some true else b ρ
def xTNot (a : XT) : XT := fun ρ => (a ρ).bind fun c => some (!c)
def xYes : XT := fun _ => some true
def xAnd (a b : XE) : XE := fun ρ => ((a ρ).bind isB).bind fun c => if c = true then b ρ else some (.bool false)
def xOr (a b : XE) : XE := fun ρ => ((a ρ).bind isB).bind fun c => if c = true then some (.bool true) else b ρ
def xNot (a : XE) : XE := fun ρ => ((a ρ).bind isB).bind fun c => some (.bool (!c))
def xIf (c : XT) (a b : XE) : XE := fun ρ => (c ρ).bind fun k => if k = true then a ρ else b ρ
def xChain (f g : PD → PD → Option PD) (a b c : XE) : XE := fun ρ => (a ρ).bind fun x => (b ρ).bind fun y => ((f x y).bind isB).bind fun k => if k = true then (c ρ).bind fun z => g y z else some (.bool false)
section
variable {ta tb tc te : TE} {t u : TT} {ts : TA} {a b c x : XE} {p q : XT} {as : XA} {r r' : R2} {f g : PD → PD → Option PD}
theorem se_var {i : Nat} : SE (tVar i) (xVar i) := fun ρ d h S σ H _ en Q q => by
  obtain ⟨o, h1, h2⟩ := bind_some h
  cases h2
  obtain ⟨v, e, rv⟩ := en.2 i d h1
  exact ⟨v, e, q v H (Ex.refl H) rv⟩
theorem se_int {i : Int} : SE (tC (.int i)) (xC (.int i)) := fun ρ d h S σ H _ _ Q q => by cases h; exact q _ H (Ex.refl H) (.int i)
theorem se_bl {b : Bool} : SE (tC (.bl b)) (xC (.bool b)) := fun ρ d h S σ H _ _ Q q => by cases h; exact q _ H (Ex.refl H) (.bl b)
theorem se_non : SE (tC .non) (xC .none) := fun ρ d h S σ H _ _ Q q => by cases h; exact q _ H (Ex.refl H) .non
theorem se_str {s : Str} : SE (tC (.str s)) (xC (.str s)) := fun ρ d h S σ H _ _ Q q => by cases h; exact q _ H (Ex.refl H) (.str s)
theorem se_d0 : SE tDNewK (xC (.dict [])) := fun ρ d h S σ H al _ Q q => by
  cases h
  intro p hp
  exact q _ _ (Ex.new hp) (.dct (ks := []) (xs := []) (ds := []) (new_ok al hp) rfl rfl .nil)
def xD1 (k : Str) (a : XE) : XE := fun ρ => (a ρ).bind fun d => some (.dict [(.str k, d)])
theorem se_d1 {k : Str} (ha : SE ta a) : SE (tDisp [(tC (.str k), ta)]) (xD1 k a) := fun ρ d h S σ H al en Q q => by
  obtain ⟨x, h1, h⟩ := bind_some h
  cases h
  intro p hp
  have e0 : Ex H (upd H p (.dK [])) := Ex.new hp
  have al1 := al.ex e0
  -- the new dict is hidden while the value is made
  have al2 : Al (fun y => y = p ∨ S y) (upd H p (.dK [])) := fun y hy z => by
    rcases hy with rfl | hy
    · rw [upd_same] at z; cases z
    · exact al1 y hy z
  have en2 : En (hid (fun y => y = p ∨ S y) (upd H p (.dK []))) σ ρ := en.ex (hid_cons e0 hp)
  refine ha ρ x h1 _ σ _ al2 en2 _ fun v H1 e1 rv => ?_
  have hp1 : H1 p = some (.dK []) := e1 p _ upd_same
  refine ⟨hp1, [(Sum.inr k, v)], rfl, by simp, ?_⟩
  have np : ¬ S p := al.new hp
  have eq1 : Ex H (upd H1 p (.dK (mergeK [] [(Sum.inr k, v)]))) := fun y o hy => by
    have ne : y ≠ p := fun z => by rw [z, hp] at hy; cases hy
    rw [upd_ne ne]
    exact e1 y o (by rw [upd_ne ne]; exact hy)
  refine q _ _ eq1 (.dct (ks := [k]) (xs := [v]) (ds := [x]) ?_ rfl rfl (.cons (rv.ex fun y o hy => ?_) .nil))
  · rw [hid_out np, upd_same]
    rfl
  · obtain ⟨c, hy⟩ := hid_some hy
    have c1 : y ≠ p := fun z => c (.inl z)
    rw [hid_out fun z => c (.inr z), upd_ne c1]
    exact hy
theorem se_op (hr : SO r f) (ha : SE ta a) (hb : SE tb b) : SE (tOp r ta tb) (xOp f a b) := fun ρ d h S σ H al en Q q => by
  obtain ⟨x, h1, h⟩ := bind_some h
  obtain ⟨y, h2, h⟩ := bind_some h
  exact ha ρ x h1 S σ H al en _ fun vx H1 e1 rx => hb ρ y h2 S σ H1 (al.ex e1) (en.ex (hid_ex e1)) _ fun vy H2 e2 ry =>
    hr x y d h S H2 vx vy ((al.ex e1).ex e2) (rx.ex (hid_ex e2)) ry Q fun v H3 e3 rv => q v H3 ((e1.trans e2).trans e3) rv
theorem se_un {r : V → Hp → VK → Prop} {f : PD → Option PD} (hr : SU r f) (ha : SE ta a) : SE (tUn r ta) (xUn f a) := fun ρ d h S σ H al en Q q => by
  obtain ⟨x, h1, h⟩ := bind_some h
  exact ha ρ x h1 S σ H al en _ fun vx H1 e1 rx => hr x d h S H1 vx (al.ex e1) rx Q fun v H3 e3 rv => q v H3 (e1.trans e3) rv
theorem sa_nil : SA tNil xNil := fun ρ ds h S σ H _ _ Q q => by cases h; exact q [] H (Ex.refl H) .nil
theorem sa_cons (ha : SE ta a) (hs : SA ts as) : SA (tCons ta ts) (xCons a as) := fun ρ ds h S σ H al en Q q => by
  obtain ⟨x, h1, h⟩ := bind_some h
  obtain ⟨xs, h2, h⟩ := bind_some h
  cases h
  exact ha ρ x h1 S σ H al en _ fun v H1 e1 rv => hs ρ xs h2 S σ H1 (al.ex e1) (en.ex (hid_ex e1)) _ fun vs H2 e2 rs => q (v :: vs) H2 (e1.trans e2) (.cons (rv.ex (hid_ex e2)) rs)
theorem se_tup (hs : SA ts as) : SE (tTupF ts) (xTup as) := fun ρ d h S σ H al en Q q => by
  obtain ⟨ds, h1, h⟩ := bind_some h
  by_cases hl : ds.length ≤ 100000
  · rw [if_pos hl] at h
    cases h
    refine hs ρ ds h1 S σ H al en _ fun vs H1 e1 ra => ⟨by rw [ra.length]; exact Evl.sz_of hl, fun p o hp pl => q _ _ (e1.trans (Ex.new hp)) (.tup (new_ok (al.ex e1) hp) pl (ra.ex (hid_ex (Ex.new hp))))⟩
  · rw [if_neg hl] at h; cases h
theorem se_lst (hs : SA ts as) : SE (tLst ts) (xLst as) := fun ρ d h S σ H al en Q q => by
  obtain ⟨ds, h1, h⟩ := bind_some h
  by_cases hl : ds.length ≤ 100000
  · rw [if_pos hl] at h
    cases h
    refine hs ρ ds h1 S σ H al en _ fun vs H1 e1 ra => ⟨by rw [ra.length]; exact Evl.sz_of hl, fun p hp => q _ _ (e1.trans (Ex.new hp)) (.lst (new_ok (al.ex e1) hp) (ra.ex (hid_ex (Ex.new hp))))⟩
  · rw [if_neg hl] at h; cases h
theorem se_cb {r : List V → Hp → VK → Prop} {f : List PD → Option PD} (hr : SC r f) (hs : SA ts as) : SE (tCB r ts) (xCB f as) := fun ρ d h S σ H al en Q q => by
  obtain ⟨ds, h1, h⟩ := bind_some h
  exact hs ρ ds h1 S σ H al en _ fun vs H1 e1 rv => hr ds d h S H1 vs (al.ex e1) rv Q fun v H2 e2 r2 => q v H2 (e1.trans e2) r2
theorem st_B (ha : SE ta a) : ST (tB ta) (xB a) := fun ρ b h S σ H al en Q q => by
  obtain ⟨x, h1, h⟩ := bind_some h
  have e := isB_eq h
  subst e
  exact ha ρ _ h1 S σ H al en _ fun v H1 e1 rv => by cases rv; exact ⟨b, rfl, q H1 e1⟩
theorem st_test (ha : SE ta a) : ST (tTest ta) (xB a) := fun ρ b h S σ H al en Q q => by
  obtain ⟨x, h1, h⟩ := bind_some h
  have e := isB_eq h
  subst e
  exact ha ρ _ h1 S σ H al en _ fun v H1 e1 rv => by cases rv; exact ⟨b, rfl, q H1 e1⟩
theorem st_yes : ST tYes xYes := fun ρ b h S σ H al en Q q => by cases h; exact q H (Ex.refl H)
theorem st_not (ht : ST t p) : ST (tNot t) (xTNot p) := fun ρ b h S σ H al en Q q => by
  obtain ⟨c, h1, h⟩ := bind_some h
  cases h
  exact ht ρ c h1 S σ H al en _ fun H1 e1 => q H1 e1
theorem st_and (ht : ST t p) (hu : ST u q) : ST (tAnd t u) (xTAnd p q) := fun ρ b h S σ H al en Q k => by
  obtain ⟨c, h1, h⟩ := bind_some h
  refine ht ρ c h1 S σ H al en _ fun H1 e1 => ?_
  cases c with
  | true => exact hu ρ b h S σ H1 (al.ex e1) (en.ex (hid_ex e1)) Q fun H2 e2 => k H2 (e1.trans e2)
  | false => cases h; exact k H1 e1
theorem st_or (ht : ST t p) (hu : ST u q) : ST (tOr t u) (xTOr p q) := fun ρ b h S σ H al en Q k => by
  obtain ⟨c, h1, h⟩ := bind_some h
  refine ht ρ c h1 S σ H al en _ fun H1 e1 => ?_
  cases c with
  | true => cases h; exact k H1 e1
  | false => exact hu ρ b h S σ H1 (al.ex e1) (en.ex (hid_ex e1)) Q fun H2 e2 => k H2 (e1.trans e2)
theorem se_and (ha : SE ta a) (hb : SE tb b) : SE (tAndV ta tb) (xAnd a b) := fun ρ d h S σ H al en Q q => by
  obtain ⟨c, h1, h⟩ := bind_some h
  obtain ⟨x, h0, h1⟩ := bind_some h1
  have e := isB_eq h1
  subst e
  refine ha ρ _ h0 S σ H al en _ fun v H1 e1 rv => ?_
  cases rv
  refine ⟨c, rfl, ?_⟩
  cases c with
  | true => exact hb ρ d h S σ H1 (al.ex e1) (en.ex (hid_ex e1)) Q fun v H2 e2 r2 => q v H2 (e1.trans e2) r2
  | false => cases h; exact q _ H1 e1 (.bl false)
theorem se_or (ha : SE ta a) (hb : SE tb b) : SE (tOrV ta tb) (xOr a b) := fun ρ d h S σ H al en Q q => by
  obtain ⟨c, h1, h⟩ := bind_some h
  obtain ⟨x, h0, h1⟩ := bind_some h1
  have e := isB_eq h1
  subst e
  refine ha ρ _ h0 S σ H al en _ fun v H1 e1 rv => ?_
  cases rv
  refine ⟨c, rfl, ?_⟩
  cases c with
  | true => cases h; exact q _ H1 e1 (.bl true)
  | false => exact hb ρ d h S σ H1 (al.ex e1) (en.ex (hid_ex e1)) Q fun v H2 e2 r2 => q v H2 (e1.trans e2) r2
theorem se_not (ha : SE ta a) : SE (tNotV ta) (xNot a) := fun ρ d h S σ H al en Q q => by
  obtain ⟨c, h1, h⟩ := bind_some h
  obtain ⟨x, h0, h1⟩ := bind_some h1
  have e := isB_eq h1
  subst e
  cases h
  refine ha ρ _ h0 S σ H al en _ fun v H1 e1 rv => ?_
  cases rv
  exact ⟨c, rfl, q _ H1 e1 (.bl _)⟩
theorem se_if (ht : ST t p) (ha : SE ta a) (hb : SE tb b) : SE (tIf t ta tb) (xIf p a b) := fun ρ d h S σ H al en Q q => by
  obtain ⟨c, h1, h⟩ := bind_some h
  refine ht ρ c h1 S σ H al en _ fun H1 e1 => ?_
  cases c with
  | true => exact ha ρ d h S σ H1 (al.ex e1) (en.ex (hid_ex e1)) Q fun v H2 e2 r2 => q v H2 (e1.trans e2) r2
  | false => exact hb ρ d h S σ H1 (al.ex e1) (en.ex (hid_ex e1)) Q fun v H2 e2 r2 => q v H2 (e1.trans e2) r2
theorem se_chain (hr : SO r f) (hr' : SO r' g) (ha : SE ta a) (hb : SE tb b) (hc : SE tc c) : SE (tChain r r' ta tb tc) (xChain f g a b c) := fun ρ d h S σ H al en Q q => by
  obtain ⟨x, h1, h⟩ := bind_some h
  obtain ⟨y, h2, h⟩ := bind_some h
  obtain ⟨k, h3, h⟩ := bind_some h
  obtain ⟨w, h3, h4⟩ := bind_some h3
  have e := isB_eq h4
  subst e
  refine ha ρ x h1 S σ H al en _ fun vx H1 e1 rx => hb ρ y h2 S σ H1 (al.ex e1) (en.ex (hid_ex e1)) _ fun vy H2 e2 ry => hr x y _ h3 S H2 vx vy ((al.ex e1).ex e2) (rx.ex (hid_ex e2)) ry _ fun v H3 e3 rv => ?_
  cases rv
  refine ⟨k, rfl, ?_⟩
  have e13 := (e1.trans e2).trans e3
  cases k with
  | true =>
    obtain ⟨z, h5, h⟩ := bind_some h
    refine iteT (hc ρ z h5 S σ H3 (al.ex e13) (en.ex (hid_ex e13)) _ fun vz H4 e4 rz => ?_)
    exact hr' y z d h S H4 vy vz ((al.ex e13).ex e4) (ry.ex ((hid_ex e3).trans (hid_ex e4))) rz Q fun w H5 e5 rw' => q w H5 ((e13.trans e4).trans e5) rw'
  | false => cases h; exact iteF (q _ H3 e13 (.bl false))
/-! a weaker reading: one of two -/
theorem se_inl {ta tb : TE} (h : SE ta a) : SE (fun σ H Q => ta σ H Q ∨ tb σ H Q) a := fun ρ d e S σ H al en Q q => .inl (h ρ d e S σ H al en Q q)
end
end Uv

namespace Uv
open PySem PySem.Spec PyProof.Rows L2
open Evl (Ex)
variable [kk : KK]
/-! ### one rule of two -/
theorem OpR.or {X : Cx} {f : Value → Value → Sem Value} {r r' : R2} (h : OpR X f r) (h' : OpR X f r') : OpR X f (fun x y H Q => r x y H Q ∨ r' x y H Q) := fun pins s σ H x y v u Q I rx ry q =>
  q.elim (h pins s σ H x y v u Q I rx ry) (h' pins s σ H x y v u Q I rx ry)
theorem CallR.or {X : Cx} {f : Value} {r r' : List V → Hp → VK → Prop} (h : CallR X f r) (h' : CallR X f r') : CallR X f (fun xs H Q => r xs H Q ∨ r' xs H Q) := fun pins s σ H xs us Q I rx q =>
  q.elim (h pins s σ H xs us Q I rx) (h' pins s σ H xs us Q I rx)
theorem SlR.or {X : Cx} {r r' : V → Option Int → Option Int → Hp → VK → Prop} (h : SlR X r) (h' : SlR X r') : SlR X (fun x lo hi H Q => r x lo hi H Q ∨ r' x lo hi H Q) := fun pins s σ H x v vl vu lo hi sl Q I rx hs pl pu q =>
  q.elim (h pins s σ H x v vl vu lo hi sl Q I rx hs pl pu) (h' pins s σ H x v vl vu lo hi sl Q I rx hs pl pu)
theorem PE.or {X : Cx} {e : Expr} {t u : TE} (h : PE X e t) (h' : PE X e u) : PE X e (fun σ H Q => t σ H Q ∨ u σ H Q) := ⟨fun pins s σ H Q I q => q.elim (h.run pins s σ H Q I) (h'.run pins s σ H Q I)⟩
theorem PI.or {X : Cx} {tg e : Expr} {t u : TI} (h : PI X tg e t) (h' : PI X tg e u) : PI X tg e (fun σ H Q => t σ H Q ∨ u σ H Q) := ⟨fun pins s σ H Q I q => q.elim (h.run pins s σ H Q I) (h'.run pins s σ H Q I)⟩
/-! ### short names -/
abbrev oSub : R2 := rI0 fun i j => .int (i - j)
abbrev oDivW : R2 := rI CDivW fun i j => .int (i / j)
abbrev oMod : R2 := rI (fun _ j => 0 < j) fun i j => .int (i % j)
abbrev oPow : R2 := rI CPow fun i j => .int (i ^ j.toNat)
abbrev oLt : R2 := rI0 fun i j => .bl (decide (i < j))
abbrev oLe : R2 := rI0 fun i j => .bl (decide (i ≤ j))
abbrev oGt : R2 := rI0 fun i j => .bl (decide (j < i))
abbrev oGe : R2 := rI0 fun i j => .bl (decide (j ≤ i))
abbrev oIsN : R2 := fun x y H Q => y = .non ∧ Q (.bl (decide (x = .non))) H
abbrev oNotN : R2 := fun x y H Q => y = .non ∧ Q (.bl (!decide (x = .non))) H
abbrev oNeg : V → Hp → VK → Prop := rU fun i => .int (-i)
abbrev rAbsQ : List V → Hp → VK → Prop := fun xs H Q => ∃ i, xs = [.int i] ∧ Q (.int (if i < 0 then -i else i)) H
abbrev rIntQ : List V → Hp → VK → Prop := fun xs H Q => (∃ i, xs = [.int i] ∧ Q (.int i) H) ∨ ∃ k, xs = [.bl k] ∧ Q (.int (if k then 1 else 0)) H
section
/-! ### + -/
def addP : PD → PD → Option PD
  | .int i, .int j => some (.int (i + j))
  | .list xs, .list ys => if xs.length + ys.length ≤ 100000 then some (.list (xs ++ ys)) else none
  | .tuple xs, .tuple ys => if xs.length + ys.length ≤ 100000 then some (.tuple (xs ++ ys)) else none
  | _, _ => none
def rAddU (K : PySem.W.Frag) : R2 := fun x y H Q => rI0 (fun i j => .int (i + j)) x y H Q ∨ (rCat x y H Q ∨ rCatF K x y H Q)
theorem op_addU {X : Cx} : OpR X (binaryOp .Add) (rAddU X.K) := OpR.or op_add (OpR.or op_cat op_catF)
theorem so_add : SO (rAddU K) addP := fun x y z h S H vx vy al rx ry Q q => by
  cases rx with
  | int i =>
    cases ry with
    | int j =>
      cases h
      exact .inl ⟨i, j, rfl, rfl, q _ H (Ex.refl H) (.int _)⟩
    | _ => cases h
  | @lst a xs ds ha ra =>
    cases ry with
    | @lst b ys es hb rb =>
      have h : (if ds.length + es.length ≤ 100000 then some (PyData.list (ds ++ es)) else none) = some z := h
      by_cases c : ds.length + es.length ≤ 100000
      · rw [if_pos c] at h
        cases h
        refine .inr (.inl ⟨a, b, xs, ys, rfl, rfl, hid_le _ _ ha, hid_le _ _ hb, by rw [ra.length, rb.length]; exact Evl.sz_of c, fun p hp => q _ _ (Ex.new hp) (.lst (new_ok al hp) ((ra.append rb).ex (hid_ex (Ex.new hp))))⟩)
      · rw [if_neg c] at h; cases h
    | _ => cases h
  | @tup a o xs ds ha pa ra =>
    cases ry with
    | @tup b o' ys es hb pb rb =>
      have h : (if ds.length + es.length ≤ 100000 then some (PyData.tuple (ds ++ es)) else none) = some z := h
      by_cases c : ds.length + es.length ≤ 100000
      · rw [if_pos c] at h
        cases h
        refine .inr (.inr ⟨a, b, xs, ys, rfl, rfl, .inl (.inr ⟨_, hid_le _ _ ha⟩), .inl (.inr ⟨_, hid_le _ _ hb⟩), by rw [ra.length, rb.length]; exact Evl.sz_of c, fun e => ?_, fun _ e => ?_, fun _ _ p o hp pl => q _ _ (Ex.new hp) (.tup (new_ok al hp) pl ((ra.append rb).ex (hid_ex (Ex.new hp))))⟩)
        · subst e
          cases ra
          exact q _ H (Ex.refl H) (.tup hb pb rb)
        · subst e
          cases rb
          exact q _ H (Ex.refl H) (by rw [List.append_nil]; exact .tup ha pa ra)
      · rw [if_neg c] at h; cases h
    | _ => cases h
  | _ => cases h
/-! ### numbers -/
def intF (f : Int → Int → Option PD) : PD → PD → Option PD
  | .int i, .int j => f i j
  | _, _ => none
theorem intF_eq {f : Int → Int → Option PD} {x y z : PD} (h : intF f x y = some z) : ∃ i j, x = .int i ∧ y = .int j ∧ f i j = some z := by
  cases x with
  | int i =>
    cases y with
    | int j => exact ⟨i, j, rfl, rfl, h⟩
    | _ => cases h
  | _ => cases h
theorem so_rI {C : Int → Int → Prop} {g : Int → Int → Int} {f : Int → Int → Option PD} (hf : ∀ i j z, f i j = some z → C i j ∧ z = .int (g i j)) : SO (rI C fun i j => .int (g i j)) (intF f) := fun x y z h S H vx vy al rx ry Q q => by
  obtain ⟨i, j, rfl, rfl, h⟩ := intF_eq h
  obtain ⟨h1, rfl⟩ := hf i j z h
  cases rx; cases ry
  exact ⟨i, j, rfl, rfl, h1, q _ H (Ex.refl H) (.int _)⟩
theorem so_rI0 {g : Int → Int → Int} : SO (rI0 fun i j => .int (g i j)) (intF fun i j => some (.int (g i j))) := fun x y z h S H vx vy al rx ry Q q => by
  obtain ⟨i, j, rfl, rfl, h⟩ := intF_eq h
  cases h
  cases rx; cases ry
  exact ⟨i, j, rfl, rfl, q _ H (Ex.refl H) (.int _)⟩
theorem so_rIb {g : Int → Int → Bool} : SO (rI0 fun i j => .bl (g i j)) (intF fun i j => some (.bool (g i j))) := fun x y z h S H vx vy al rx ry Q q => by
  obtain ⟨i, j, rfl, rfl, h⟩ := intF_eq h
  cases h
  cases rx; cases ry
  exact ⟨i, j, rfl, rfl, q _ H (Ex.refl H) (.bl _)⟩
def subP : PD → PD → Option PD := intF fun i j => some (.int (i - j))
def divP : PD → PD → Option PD := intF fun i j => if 0 < j ∧ j < 2 ^ 64 then some (.int (i / j)) else none
def modP : PD → PD → Option PD := intF fun i j => if 0 < j then some (.int (i % j)) else none
def powP : PD → PD → Option PD := intF fun i j => if 0 ≤ j ∧ j ≤ 1000 ∧ -(2 ^ 63) < i ∧ i < 2 ^ 63 then some (.int (i ^ j.toNat)) else none
def ltP : PD → PD → Option PD := intF fun i j => some (.bool (decide (i < j)))
def leP : PD → PD → Option PD := intF fun i j => some (.bool (decide (i ≤ j)))
def gtP : PD → PD → Option PD := intF fun i j => some (.bool (decide (j < i)))
def geP : PD → PD → Option PD := intF fun i j => some (.bool (decide (j ≤ i)))
theorem so_sub : SO oSub subP := so_rI0
theorem so_lt : SO oLt ltP := so_rIb
theorem so_le : SO oLe leP := so_rIb
theorem so_gt : SO oGt gtP := so_rIb
theorem so_ge : SO oGe geP := so_rIb
theorem so_div : SO oDivW divP := so_rI fun i j z h => by
  by_cases c : 0 < j ∧ j < 2 ^ 64
  · rw [if_pos c] at h
    cases h
    exact ⟨⟨c.1, Nat.lt_of_lt_of_le (PySem.Flt.log2_lt_of (k := 64) (by decide) (by omega)) (by decide)⟩, rfl⟩
  · rw [if_neg c] at h; cases h
theorem so_mod : SO oMod modP := so_rI fun i j z h => by
  by_cases c : 0 < j
  · rw [if_pos c] at h
    cases h
    exact ⟨c, rfl⟩
  · rw [if_neg c] at h; cases h
theorem so_pow : SO oPow powP := so_rI fun i j z h => by
  by_cases c : 0 ≤ j ∧ j ≤ 1000 ∧ -(2 ^ 63) < i ∧ i < 2 ^ 63
  · rw [if_pos c] at h
    cases h
    exact ⟨⟨c.1, by omega, by omega⟩, rfl⟩
  · rw [if_neg c] at h; cases h
def mulP : PD → PD → Option PD
  | .int i, .int j => if (-(2 ^ 64) < i ∧ i < 2 ^ 64) ∨ (-(2 ^ 64) < j ∧ j < 2 ^ 64) then some (.int (i * j)) else none
  | .list xs, .int j => if 0 ≤ j ∧ j ≤ 100000 ∧ xs.length * j.toNat ≤ 100000 then some (.list (List.replicate j.toNat xs).flatten) else none
  | _, _ => none
def rMulU : R2 := fun x y H Q => rI CMul (fun i j => .int (i * j)) x y H Q ∨ rRep x y H Q
theorem op_mulU {X : Cx} : OpR X (binaryOp .Mult) rMulU := OpR.or op_mul op_rep
theorem so_mul : SO rMulU mulP := fun x y z h S H vx vy al rx ry Q q => by
  cases rx with
  | int i =>
    cases ry with
    | int j =>
      have h : (if (-(2 ^ 64) < i ∧ i < 2 ^ 64) ∨ (-(2 ^ 64) < j ∧ j < 2 ^ 64) then some (PyData.int (i * j)) else none) = some z := h
      by_cases c : (-(2 ^ 64) < i ∧ i < 2 ^ 64) ∨ (-(2 ^ 64) < j ∧ j < 2 ^ 64)
      · rw [if_pos c] at h
        cases h
        exact .inl ⟨i, j, rfl, rfl, c, q _ H (Ex.refl H) (.int _)⟩
      · rw [if_neg c] at h; cases h
    | _ => cases h
  | @lst a xs ds ha ra =>
    cases ry with
    | int j =>
      have h : (if 0 ≤ j ∧ j ≤ 100000 ∧ ds.length * j.toNat ≤ 100000 then some (PyData.list (List.replicate j.toNat ds).flatten) else none) = some z := h
      by_cases c : 0 ≤ j ∧ j ≤ 100000 ∧ ds.length * j.toNat ≤ 100000
      · rw [if_pos c] at h
        cases h
        refine .inr ⟨_, _, _, rfl, rfl, hid_le _ _ ha, by omega, by omega, ?_, fun p hp => q _ _ (Ex.new hp) (.lst (new_ok al hp) ((ra.rep j.toNat).ex (hid_ex (Ex.new hp))))⟩
        rw [ra.length]
        exact Evl.sz_of c.2.2
      · rw [if_neg c] at h; cases h
    | _ => cases h
  | _ => cases h
def negP : PD → Option PD
  | .int i => some (.int (-i))
  | _ => none
theorem su_neg : SU oNeg negP := fun x z h S H vx al rx Q q => by
  cases rx with
  | int i => cases h; exact ⟨i, rfl, q _ H (Ex.refl H) (.int _)⟩
  | _ => cases h
/-! ### equality, None, membership -/
/-- with nothing in the second tuple it doesn't matter what is in the first -/
def eqE : PD → PD → Option PD
  | .tuple ds, .tuple [] => some (.bool ds.isEmpty)
  | .dict [], .str _ => some (.bool false)
  | .dict ((.str _, _) :: _), .str _ => some (.bool false)
  | _, _ => none
def eqP (x y : PD) : Option PD := if SeqAt.shaped x = true ∧ SeqAt.shaped y = true then some (.bool (PyData.eqv x y)) else eqE x y
def rEqX (K : PySem.W.Frag) : R2 := fun x y H Q => rEqD K x y H Q ∨ (∃ a b xs, x = .ref a ∧ y = .ref b ∧ SqT K H a xs ∧ SqT K H b [] ∧ Q (.bl xs.isEmpty) H) ∨ ∃ a kvs t, x = .ref a ∧ y = .str t ∧ H a = some (.dK kvs) ∧ Q (.bl false) H
theorem op_eqX {X : Cx} (hu : X.A.units + 64 < cLine) : OpR X (compareOp .Eq) (rEqX X.K) := by
  intro pins s σ H x y v u Q I rx ry h
  rcases h with h | ⟨a, b, xs, rfl, rfl, ha, hb, q⟩ | ⟨a, kvs, t, rfl, rfl, ha, q⟩
  · exact op_eqD hu pins s σ H x y v u Q I rx ry h
  · cases rx
    cases ry
    obtain ⟨its, rv, ht, _⟩ := I.tuple ha
    obtain ⟨its2, rv2, ht2, _⟩ := I.tuple hb
    cases rv2
    refine SeqAt.RcAt.tuples (e := fun _ => true) ht ht2 (by omega) (fun j _ h2 => absurd h2 (by simp)) X.prog X.w X.xe _ ⟨.bl _, H, I, ?_, q⟩
    show Value.bool _ = Value.bool _
    cases rv with
    | nil => rfl
    | cons h t => simp
  · cases rx
    obtain ⟨tk, rfl⟩ := ry
    obtain ⟨_, _, vs, _, o, es, ep, h1, h2, h3, _⟩ := dk_of I.hok ha
    obtain ⟨cls, dd, data, sl⟩ := o
    obtain ⟨c1, c2, c3⟩ := h2
    simp only at c1 h3
    subst c1 h3
    exact dct_str t tk h1 (by omega) X.prog X.w X.xe _ ⟨.bl false, H, I, rfl, q⟩
def neP (x y : PD) : Option PD := if SeqAt.shaped x = true ∧ SeqAt.shaped y = true then some (.bool (!PyData.eqv x y)) else none
theorem nodict {d : PD} (h : SeqAt.shaped d = true) : d.hasDict = false := by
  unfold SeqAt.shaped at h
  rw [Bool.and_eq_true] at h
  exact PyData.hasDict_of_canLay d h.1
theorem so_eq : SO (rEqX K) eqP := fun x y z h S H vx vy al rx ry Q q => by
  unfold eqP at h
  by_cases c : SeqAt.shaped x = true ∧ SeqAt.shaped y = true
  · rw [if_pos c] at h
    cases h
    exact .inl ⟨x, y, (rx.ex hid_le).dp (nodict c.1), (ry.ex hid_le).dp (nodict c.2), c.1, c.2, q _ H (Ex.refl H) (.bl _)⟩
  · rw [if_neg c] at h
    unfold eqE at h
    split at h
    · cases h
      cases rx with
      | @tup a o xs _ hx _ ra =>
        cases ry with
        | @tup b o2 ys ds2 hy _ rb =>
          cases rb
          have qq := q (.bl xs.isEmpty) H (Ex.refl H)
          refine .inr (.inl ⟨a, b, xs, rfl, rfl, .inl (.inr ⟨_, hid_le _ _ hx⟩), .inl (.inr ⟨_, hid_le _ _ hy⟩), qq ?_⟩)
          cases ra with
          | nil => exact .bl _
          | cons _ _ => exact .bl _
    · cases h
      cases ry
      cases rx with
      | dct hx _ _ _ => exact .inr (.inr ⟨_, _, _, rfl, rfl, hid_le _ _ hx, q _ H (Ex.refl H) (.bl _)⟩)
    · cases h
      cases ry
      cases rx with
      | dct hx _ _ _ => exact .inr (.inr ⟨_, _, _, rfl, rfl, hid_le _ _ hx, q _ H (Ex.refl H) (.bl _)⟩)
    · cases h
theorem so_ne : SO (rNeD K) neP := fun x y z h S H vx vy al rx ry Q q => by
  unfold neP at h
  by_cases c : SeqAt.shaped x = true ∧ SeqAt.shaped y = true
  · rw [if_pos c] at h
    cases h
    exact ⟨x, y, (rx.ex hid_le).dp (nodict c.1), (ry.ex hid_le).dp (nodict c.2), c.1, c.2, q _ H (Ex.refl H) (.bl _)⟩
  · rw [if_neg c] at h; cases h
def isNone : PD → Bool
  | .none => true
  | _ => false
def isP : PD → PD → Option PD
  | x, .none => some (.bool (isNone x))
  | _, _ => none
def isntP : PD → PD → Option PD
  | x, .none => some (.bool (!isNone x))
  | _, _ => none
theorem isNone_of {H : Hp} {v : V} {d : PD} (r : Rp H v d) : decide (v = .non) = isNone d := by cases r <;> rfl
theorem so_is : SO oIsN isP := fun x y z h S H vx vy al rx ry Q q => by
  cases ry with
  | non =>
    cases h
    exact ⟨rfl, q _ H (Ex.refl H) (by rw [isNone_of rx]; exact .bl _)⟩
  | _ => cases h
theorem so_isnt : SO oNotN isntP := fun x y z h S H vx vy al rx ry Q q => by
  cases ry with
  | non =>
    cases h
    exact ⟨rfl, q _ H (Ex.refl H) (by rw [isNone_of rx]; exact .bl _)⟩
  | _ => cases h
/-- x in a tuple whose items are data of any depth -/
def rInTu (K : PySem.W.Frag) : R2 := fun x y H Q => ∃ d ds, Dp K H x d ∧ Dp K H y (.tuple ds) ∧ SeqAt.shaped d = true ∧ SeqAt.shaped (.tuple ds) = true ∧ Q (.bl (ds.any fun z => PyData.eqv z d)) H
theorem op_inTu {X : Cx} (hu : X.A.units + 65 < cLine) : OpR X (compareOp .In) (rInTu X.K) := by
  intro pins s σ H x y v u Q I rx ry h
  obtain ⟨d, ds, h1, h2, s1, s2, q⟩ := h
  obtain ⟨as, r1⟩ := Dp.reads I d x v h1 rx
  obtain ⟨bs, r2⟩ := Dp.reads I (.tuple ds) y u h2 ry
  exact SeqAt.in_tuple_reads r2 r1 (SeqAt.canLay_of_shaped s2) (SeqAt.canLay_of_shaped s1) (room_in_shaped s1 hu) ⟨.bl _, H, I, rfl, q⟩
def rNotInTu (K : PySem.W.Frag) : R2 := fun x y H Q => ∃ d ds, Dp K H x d ∧ Dp K H y (.tuple ds) ∧ SeqAt.shaped d = true ∧ SeqAt.shaped (.tuple ds) = true ∧ Q (.bl (!ds.any fun z => PyData.eqv z d)) H
def rInU (K : PySem.W.Frag) : R2 := fun x y H Q => rInD K x y H Q ∨ rInTu K x y H Q
theorem op_inU {X : Cx} (hu : X.A.units + 65 < cLine) : OpR X (compareOp .In) (rInU X.K) := OpR.or (op_inD hu) (op_inTu hu)
def inP (x y : PD) : Option PD := if SeqAt.shaped x = true ∧ SeqAt.shaped y = true then match y with
  | .list ds => some (.bool (ds.any fun z => PyData.eqv z x))
  | .tuple ds => some (.bool (ds.any fun z => PyData.eqv z x))
  | _ => none else none
theorem so_in : SO (rInU K) inP := fun x y z h S H vx vy al rx ry Q q => by
  unfold inP at h
  by_cases c : SeqAt.shaped x = true ∧ SeqAt.shaped y = true
  · rw [if_pos c] at h
    cases y with
    | list ds =>
      cases h
      exact .inl ⟨x, ds, (rx.ex hid_le).dp (nodict c.1), (ry.ex hid_le).dp (nodict c.2), c.1, c.2, q _ H (Ex.refl H) (.bl _)⟩
    | tuple ds =>
      cases h
      exact .inr ⟨x, ds, (rx.ex hid_le).dp (nodict c.1), (ry.ex hid_le).dp (nodict c.2), c.1, c.2, q _ H (Ex.refl H) (.bl _)⟩
    | _ => cases h
  · rw [if_neg c] at h; cases h
/-! ### index, slice -/
def ixP : PD → PD → Option PD
  | .tuple ds, .int i => atI ds i
  | .list ds, .int i => atI ds i
  | .dict [(.none, .list ds)], .int i => atI ds i
  | _, _ => none
theorem so_ix : SO (rIx K) ixP := fun x y z h S H vx vy al rx ry Q q => by
  cases rx with
  | lst ha ra =>
    cases ry with
    | int i =>
      obtain ⟨v, h1, h2⟩ := ra.at h
      exact .inl ⟨_, _, i, v, rfl, rfl, .inl (.inl (hid_le _ _ ha)), h1, q v H (Ex.refl H) h2⟩
    | _ => cases h
  | tup ha _ ra =>
    cases ry with
    | int i =>
      obtain ⟨v, h1, h2⟩ := ra.at h
      exact .inr (.inl ⟨_, _, i, v, rfl, rfl, .inl (.inr ⟨_, hid_le _ _ ha⟩), h1, q v H (Ex.refl H) h2⟩)
    | _ => cases h
  | scr hs ra =>
    cases ry with
    | int i =>
      obtain ⟨v, h1, h2⟩ := ra.at h
      exact .inl ⟨_, _, i, v, rfl, rfl, sqx hid_le hs, h1, q v H (Ex.refl H) h2⟩
    | _ => cases h
  | dct _ _ hp _ => rcases zip_str hp with e | ⟨k, d, r, e⟩ <;> (subst e; cases h)
  | _ => cases h
abbrev XO := VE → Option (Option Int)
def Eo (to : TO) (ρ : VE) (o : Option Int) : Prop := ∀ S σ H, Al S H → En (hid S H) σ ρ → ∀ Q : Option Int → Hp → Prop, (∀ H2, Ex H H2 → Q o H2) → to σ H Q
def SP (to : TO) (x : XO) : Prop := ∀ ρ o, x ρ = some o → Eo to ρ o
def xNoPart : XO := fun _ => some none
def xPart (a : XE) : XO := fun ρ => (a ρ).bind fun d => match d with
  | .int i => some (some i)
  | _ => none
theorem sp_none : SP tNoPart xNoPart := fun ρ o h S σ H al en Q q => by cases h; exact q H (Ex.refl H)
theorem sp_some {ta : TE} {a : XE} (ha : SE ta a) : SP (tPart ta) (xPart a) := fun ρ o h S σ H al en Q q => by
  obtain ⟨d, h1, h⟩ := bind_some h
  cases d with
  | int i =>
    cases h
    exact ha ρ _ h1 S σ H al en _ fun v H1 e1 rv => by cases rv; exact ⟨i, rfl, q H1 e1⟩
  | _ => cases h
def cutD (ds : List PD) (lo hi : Option Int) : List PD := (ds.drop (HT.sIx ds.length 0 lo)).take (HT.sIx ds.length ds.length hi - HT.sIx ds.length 0 lo)
def slP : PD → Option Int → Option Int → Option PD
  | .list ds, lo, hi => some (.list (cutD ds lo hi))
  | .tuple ds, lo, hi => some (.tuple (cutD ds lo hi))
  | .dict [(.none, .list ds)], lo, hi => some (.list (cutD ds lo hi))
  | _, _, _ => none
def rSlU (K : PySem.W.Frag) : V → Option Int → Option Int → Hp → VK → Prop := fun x lo hi H Q => rSlL K x lo hi H Q ∨ rSlF K x lo hi H Q
theorem sl_U {X : Cx} : SlR X (rSlU X.K) := SlR.or sl_list sl_tupF
def xSl (a : XE) (lo hi : XO) : XE := fun ρ => (a ρ).bind fun d => (lo ρ).bind fun l => (hi ρ).bind fun h => slP d l h
theorem RpAll.cut {H : Hp} {vs : List V} {ds : List PD} (r : RpAll H vs ds) (lo hi : Option Int) : RpAll H (cutV vs lo hi) (cutD ds lo hi) := by
  unfold cutV cutD
  rw [r.length]
  exact (r.drop _).take _
theorem se_sl {ta : TE} {tl th : TO} {a : XE} {lo hi : XO} (ha : SE ta a) (hl : SP tl lo) (hh : SP th hi) : SE (tSl (rSlU K) ta tl th) (xSl a lo hi) := fun ρ d h S σ H al en Q q => by
  obtain ⟨x, h1, h⟩ := bind_some h
  obtain ⟨l, h2, h⟩ := bind_some h
  obtain ⟨u, h3, h⟩ := bind_some h
  refine ha ρ x h1 S σ H al en _ fun v H1 e1 rv => hl ρ l h2 S σ H1 (al.ex e1) (en.ex (hid_ex e1)) _ fun H2 e2 => hh ρ u h3 S σ H2 ((al.ex e1).ex e2) ((en.ex (hid_ex e1)).ex (hid_ex e2)) _ fun H3 e3 => ?_
  have e23 := e2.trans e3
  have e13 := e1.trans e23
  have rv3 := rv.ex (hid_ex (S := S) e23)
  cases rv3 with
  | lst ha3 ra3 =>
    cases h
    exact .inl ⟨_, _, rfl, .inl (.inl (hid_le _ _ ha3)), fun p hp => q _ _ (e13.trans (Ex.new hp)) (.lst (new_ok (al.ex e13) hp) ((ra3.cut l u).ex (hid_ex (Ex.new hp))))⟩
  | @tup a o xs ds ha3 pl ra3 =>
    cases h
    refine .inr ⟨_, _, rfl, .inl (.inr ⟨_, hid_le _ _ ha3⟩), fun c => ?_, fun _ p o hp pl => q _ _ (e13.trans (Ex.new hp)) (.tup (new_ok (al.ex e13) hp) pl ((ra3.cut l u).ex (hid_ex (Ex.new hp))))⟩
    have e : cutD ds l u = ds := by
      unfold cutD
      rw [ra3.length] at c
      rw [c.1, c.2, List.drop_zero, Nat.sub_zero, List.take_length]
    exact q _ H3 e13 (by rw [e]; exact .tup ha3 pl ra3)
  | scr hs ra3 =>
    cases h
    exact .inl ⟨_, _, rfl, sqx hid_le hs, fun p hp => q _ _ (e13.trans (Ex.new hp)) (.lst (new_ok (al.ex e13) hp) ((ra3.cut l u).ex (hid_ex (Ex.new hp))))⟩
  | dct _ _ hp _ => rcases zip_str hp with e | ⟨k, d, r, e⟩ <;> (subst e; cases h)
  | _ => cases h
end
end Uv

namespace Uv
open PySem PySem.Spec PyProof.Rows L2
open Evl (Ex)
variable [kk : KK]
/-! ### not in -/
theorem op_notInTu {X : Cx} (hu : X.A.units + 65 < cLine) : OpR X (compareOp .NotIn) (rNotInTu X.K) := by
  intro pins s σ H x y v u Q I rx ry ⟨d, ds, h1, h2, s1, s2, q⟩
  obtain ⟨as, r1⟩ := Dp.reads I d x v h1 rx
  obtain ⟨bs, r2⟩ := Dp.reads I (.tuple ds) y u h2 ry
  exact SeqAt.notIn_tuple_reads r2 r1 (SeqAt.canLay_of_shaped s2) (SeqAt.canLay_of_shaped s1) (room_in_shaped s1 hu) ⟨.bl _, H, I, rfl, q⟩
def rNotInU (K : PySem.W.Frag) : R2 := fun x y H Q => rNotInD K x y H Q ∨ rNotInTu K x y H Q
theorem op_notInU {X : Cx} (hu : X.A.units + 65 < cLine) : OpR X (compareOp .NotIn) (rNotInU X.K) := OpR.or (op_notInD hu) (op_notInTu hu)
def notinP (x y : PD) : Option PD := if SeqAt.shaped x = true ∧ SeqAt.shaped y = true then match y with
  | .list ds => some (.bool (!ds.any fun z => PyData.eqv z x))
  | .tuple ds => some (.bool (!ds.any fun z => PyData.eqv z x))
  | _ => none else none
section
theorem so_notin : SO (rNotInU K) notinP := fun x y z h S H vx vy al rx ry Q q => by
  unfold notinP at h
  by_cases c : SeqAt.shaped x = true ∧ SeqAt.shaped y = true
  · rw [if_pos c] at h
    cases y with
    | list ds =>
      cases h
      exact .inl ⟨x, ds, (rx.ex hid_le).dp (nodict c.1), (ry.ex hid_le).dp (nodict c.2), c.1, c.2, q _ H (Ex.refl H) (.bl _)⟩
    | tuple ds =>
      cases h
      exact .inr ⟨x, ds, (rx.ex hid_le).dp (nodict c.1), (ry.ex hid_le).dp (nodict c.2), c.1, c.2, q _ H (Ex.refl H) (.bl _)⟩
    | _ => cases h
  · rw [if_neg c] at h; cases h
/-! ### arguments one by one -/
def on1 (f : PD → Option PD) : List PD → Option PD
  | [x] => f x
  | _ => none
def on2 (f : PD → PD → Option PD) : List PD → Option PD
  | [x, y] => f x y
  | _ => none
theorem on1_eq {f : PD → Option PD} {xs : List PD} {z : PD} (h : on1 f xs = some z) : ∃ x, xs = [x] ∧ f x = some z := by
  match xs, h with
  | [x], h => exact ⟨x, rfl, h⟩
  | [], h => cases h
  | _ :: _ :: _, h => cases h
theorem on2_eq {f : PD → PD → Option PD} {xs : List PD} {z : PD} (h : on2 f xs = some z) : ∃ x y, xs = [x, y] ∧ f x y = some z := by
  match xs, h with
  | [x, y], h => exact ⟨x, y, rfl, h⟩
  | [], h => cases h
  | [_], h => cases h
  | _ :: _ :: _ :: _, h => cases h
theorem sc_on1 {r : List V → Hp → VK → Prop} {f : PD → Option PD} (hf : ∀ x z, f x = some z → ∀ S H v, Al S H → Rp (hid S H) v x → ∀ Q : VK, (∀ v H2, Ex H H2 → Rp (hid S H2) v z → Q v H2) → r [v] H Q) : SC r (on1 f) := fun xs z h S H vs al rv Q q => by
  obtain ⟨x, rfl, h⟩ := on1_eq h
  cases rv with
  | cons h1 t => cases t; exact hf x z h S H _ al h1 Q q
theorem sc_on2 {r : List V → Hp → VK → Prop} {f : PD → PD → Option PD} (hf : ∀ x y z, f x y = some z → ∀ S H v w, Al S H → Rp (hid S H) v x → Rp (hid S H) w y → ∀ Q : VK, (∀ v H2, Ex H H2 → Rp (hid S H2) v z → Q v H2) → r [v, w] H Q) : SC r (on2 f) := fun xs z h S H vs al rv Q q => by
  obtain ⟨x, y, rfl, h⟩ := on2_eq h
  cases rv with
  | cons h1 t =>
    cases t with
    | cons h2 t => cases t; exact hf x y z h S H _ _ al h1 h2 Q q
/-! ### len, abs, int -/
def rLenQ (K : PySem.W.Frag) : List V → Hp → VK → Prop := fun xs H Q => ∃ p ys, xs = [.ref p] ∧ (SqL K H p ys ∨ SqT K H p ys) ∧ Q (.int ys.length) H
def lenP : PD → Option PD
  | .list ds => some (.int (ds.length : Nat))
  | .tuple ds => some (.int (ds.length : Nat))
  | .dict [(.none, .list ds)] => some (.int (ds.length : Nat))
  | _ => none
theorem sc_len : SC (rLenQ K) (on1 lenP) := sc_on1 fun x z h S H v al rv Q q => by
  cases rv with
  | lst ha ra => cases h; exact ⟨_, _, rfl, .inl (.inl (.inl (hid_le _ _ ha))), q _ H (Ex.refl H) (ra.length ▸ .int _)⟩
  | tup ha _ ra => cases h; exact ⟨_, _, rfl, .inr (.inl (.inr ⟨_, hid_le _ _ ha⟩)), q _ H (Ex.refl H) (ra.length ▸ .int _)⟩
  | scr hs ra => cases h; exact ⟨_, _, rfl, .inl (sqx hid_le hs), q _ H (Ex.refl H) (ra.length ▸ .int _)⟩
  | dct _ _ hp _ => rcases zip_str hp with e | ⟨k, d, r, e⟩ <;> (subst e; cases h)
  | _ => cases h
def absP : PD → Option PD
  | .int i => some (.int (if i < 0 then -i else i))
  | _ => none
theorem sc_abs : SC rAbsQ (on1 absP) := sc_on1 fun x z h S H v al rv Q q => by
  cases rv with
  | int i => cases h; exact ⟨i, rfl, q _ H (Ex.refl H) (.int _)⟩
  | _ => cases h
def toIntP : PD → Option PD
  | .int i => some (.int i)
  | .bool b => some (.int (if b then 1 else 0))
  | _ => none
theorem sc_int : SC rIntQ (on1 toIntP) := sc_on1 fun x z h S H v al rv Q q => by
  cases rv with
  | int i => cases h; exact .inl ⟨i, rfl, q _ H (Ex.refl H) (.int _)⟩
  | bl b => cases h; exact .inr ⟨b, rfl, q _ H (Ex.refl H) (.int _)⟩
  | _ => cases h
/-! ### sum, all, any, min, max -/
def intsP (f : List Int → Option PD) : PD → Option PD
  | .list ds => (unI ds).bind f
  | _ => none
def boolsP (f : List Bool → PD) : PD → Option PD
  | .list ds => (unB ds).bind fun bs => some (f bs)
  | _ => none
def sumP : PD → Option PD := intsP fun ns => some (.int ns.sum)
theorem sc_sum : SC (rSum K) (on1 sumP) := sc_on1 fun x z h S H v al rv Q q => by
  cases rv with
  | lst ha ra =>
    obtain ⟨ns, h1, h2⟩ := bind_some h
    have e := unI_eq h1
    subst e
    have e := ra.ints
    subst e
    cases h2
    exact ⟨_, ns, rfl, .inl (.inl (hid_le _ _ ha)), q _ H (Ex.refl H) (.int _)⟩
  | _ => cases h
def allP : PD → Option PD := boolsP fun bs => .bool (bs.all id)
def anyP : PD → Option PD := boolsP fun bs => .bool (bs.any id)
theorem sc_all : SC (rAll K) (on1 allP) := sc_on1 fun x z h S H v al rv Q q => by
  cases rv with
  | lst ha ra =>
    obtain ⟨ns, h1, h2⟩ := bind_some h
    have e := unB_eq h1
    subst e
    have e := ra.bools
    subst e
    cases h2
    exact ⟨_, ns, rfl, .inl (.inl (hid_le _ _ ha)), q _ H (Ex.refl H) (.bl _)⟩
  | _ => cases h
theorem sc_any : SC (rAny K) (on1 anyP) := sc_on1 fun x z h S H v al rv Q q => by
  cases rv with
  | lst ha ra =>
    obtain ⟨ns, h1, h2⟩ := bind_some h
    have e := unB_eq h1
    subst e
    have e := ra.bools
    subst e
    cases h2
    exact ⟨_, ns, rfl, .inl (.inl (hid_le _ _ ha)), q _ H (Ex.refl H) (.bl _)⟩
  | _ => cases h
def leastI : Int → List Int → Int
  | x, [] => x
  | x, y :: ys => leastI (if y < x then y else x) ys
def mostI : Int → List Int → Int
  | x, [] => x
  | x, y :: ys => mostI (if y > x then y else x) ys
theorem leastI_mem : ∀ (ys : List Int) (x : Int), leastI x ys ∈ x :: ys
  | [], x => List.mem_cons_self ..
  | y :: ys, x => by
    have z := leastI_mem ys (if y < x then y else x)
    unfold leastI
    by_cases c : y < x
    · rw [if_pos c] at z ⊢
      exact List.mem_cons_of_mem _ z
    · rw [if_neg c] at z ⊢
      rcases List.mem_cons.mp z with e | e
      · rw [e]; exact List.mem_cons_self ..
      · exact List.mem_cons_of_mem _ (List.mem_cons_of_mem _ e)
theorem leastI_le : ∀ (ys : List Int) (x : Int), ∀ y ∈ x :: ys, leastI x ys ≤ y
  | [], x, y, h => by
    have e : y = x := by simpa using h
    rw [e]
    exact Int.le_refl _
  | z :: ys, x, y, h => by
    unfold leastI
    have ih := leastI_le ys (if z < x then z else x)
    have i0 := ih _ (List.mem_cons_self ..)
    rcases List.mem_cons.mp h with e | h
    · subst e
      refine Int.le_trans i0 ?_
      split <;> omega
    · rcases List.mem_cons.mp h with e | h
      · subst e
        refine Int.le_trans i0 ?_
        split <;> omega
      · exact ih y (List.mem_cons_of_mem _ h)
theorem mostI_mem : ∀ (ys : List Int) (x : Int), mostI x ys ∈ x :: ys
  | [], x => List.mem_cons_self ..
  | y :: ys, x => by
    have z := mostI_mem ys (if y > x then y else x)
    unfold mostI
    by_cases c : y > x
    · rw [if_pos c] at z ⊢
      exact List.mem_cons_of_mem _ z
    · rw [if_neg c] at z ⊢
      rcases List.mem_cons.mp z with e | e
      · rw [e]; exact List.mem_cons_self ..
      · exact List.mem_cons_of_mem _ (List.mem_cons_of_mem _ e)
theorem mostI_ge : ∀ (ys : List Int) (x : Int), ∀ y ∈ x :: ys, y ≤ mostI x ys
  | [], x, y, h => by
    have e : y = x := by simpa using h
    rw [e]
    exact Int.le_refl _
  | z :: ys, x, y, h => by
    unfold mostI
    have ih := mostI_ge ys (if z > x then z else x)
    have i0 := ih _ (List.mem_cons_self ..)
    rcases List.mem_cons.mp h with e | h
    · subst e
      refine Int.le_trans ?_ i0
      split <;> omega
    · rcases List.mem_cons.mp h with e | h
      · subst e
        refine Int.le_trans ?_ i0
        split <;> omega
      · exact ih y (List.mem_cons_of_mem _ h)
def minL : List Int → Option PD
  | x :: xs => some (.int (leastI x xs))
  | [] => none
def maxL : List Int → Option PD
  | x :: xs => some (.int (mostI x xs))
  | [] => none
def minP : List PD → Option PD
  | [.list ds] => (unI ds).bind minL
  | [.int i, .int j] => some (.int (if j < i then j else i))
  | _ => none
def maxP : List PD → Option PD
  | [.list ds] => (unI ds).bind maxL
  | [.int i, .int j] => some (.int (if j > i then j else i))
  | _ => none
def rMinU (K : PySem.W.Frag) : List V → Hp → VK → Prop := fun xs H Q => rMin K xs H Q ∨ ∃ i j, xs = [.int i, .int j] ∧ Q (.int (if j < i then j else i)) H
def rMaxU (K : PySem.W.Frag) : List V → Hp → VK → Prop := fun xs H Q => rMax K xs H Q ∨ ∃ i j, xs = [.int i, .int j] ∧ Q (.int (if j > i then j else i)) H
theorem cr_minU {X : Cx} (hc : X.calm = true) : CallR X (.builtin "min") (rMinU X.K) := CallR.or (cr_min hc) (call_min2 hc)
theorem cr_maxU {X : Cx} (hc : X.calm = true) : CallR X (.builtin "max") (rMaxU X.K) := CallR.or (cr_max hc) (call_max2 hc)
theorem sc_min : SC (rMinU K) minP := fun xs z h S H vs al rv Q q => by
  unfold minP at h
  split at h
  · cases rv with
    | cons h1 t =>
      cases t
      cases h1 with
      | lst ha ra =>
        obtain ⟨ns, h1, h2⟩ := bind_some h
        have e := unI_eq h1
        subst e
        have e := ra.ints
        subst e
        cases ns with
        | nil => cases h2
        | cons n ns =>
          cases h2
          refine .inl ⟨_, n :: ns, rfl, .inl (.inl (hid_le _ _ ha)), Nat.succ_pos _, fun m m1 m2 => ?_⟩
          have e : m = leastI n ns := Int.le_antisymm (m2 _ (leastI_mem ns n)) (leastI_le ns n m m1)
          rw [e]
          exact q _ H (Ex.refl H) (.int _)
  · cases rv with
    | cons h1 t =>
      cases t with
      | cons h2 t =>
        cases t
        cases h1; cases h2; cases h
        exact .inr ⟨_, _, rfl, q _ H (Ex.refl H) (.int _)⟩
  · cases h
theorem sc_max : SC (rMaxU K) maxP := fun xs z h S H vs al rv Q q => by
  unfold maxP at h
  split at h
  · cases rv with
    | cons h1 t =>
      cases t
      cases h1 with
      | lst ha ra =>
        obtain ⟨ns, h1, h2⟩ := bind_some h
        have e := unI_eq h1
        subst e
        have e := ra.ints
        subst e
        cases ns with
        | nil => cases h2
        | cons n ns =>
          cases h2
          refine .inl ⟨_, n :: ns, rfl, .inl (.inl (hid_le _ _ ha)), Nat.succ_pos _, fun m m1 m2 => ?_⟩
          have e : m = mostI n ns := Int.le_antisymm (mostI_ge ns n m m1) (m2 _ (mostI_mem ns n))
          rw [e]
          exact q _ H (Ex.refl H) (.int _)
  · cases rv with
    | cons h1 t =>
      cases t with
      | cons h2 t =>
        cases t
        cases h1; cases h2; cases h
        exact .inr ⟨_, _, rfl, q _ H (Ex.refl H) (.int _)⟩
  · cases h
/-! ### tuple, list -/
def tupP : PD → Option PD
  | .list ds => some (.tuple ds)
  | .tuple ds => some (.tuple ds)
  | _ => none
theorem sc_tup : SC (rTupF K) (on1 tupP) := sc_on1 fun x z h S H v al rv Q q => by
  cases rv with
  | lst ha ra => cases h; exact ⟨_, _, rfl, .inl ⟨.inl (.inl (hid_le _ _ ha)), fun l o hl pl => q _ _ (Ex.new hl) (.tup (new_ok al hl) pl (ra.ex (hid_ex (Ex.new hl))))⟩⟩
  | tup ha p ra => cases h; exact ⟨_, _, rfl, .inr ⟨.inl (.inr ⟨_, hid_le _ _ ha⟩), q _ H (Ex.refl H) (.tup ha p ra)⟩⟩
  | _ => cases h
def rListQ (K : PySem.W.Frag) : List V → Hp → VK → Prop := fun xs H Q => ∃ p ys, xs = [.ref p] ∧ (SqL K H p ys ∨ SqT K H p ys) ∧ ∀ l, H l = none → Q (.ref l) (upd H l (.lst ys))
def listP : PD → Option PD
  | .list ds => some (.list ds)
  | .tuple ds => some (.list ds)
  | _ => none
theorem sc_list : SC (rListQ K) (on1 listP) := sc_on1 fun x z h S H v al rv Q q => by
  cases rv with
  | lst ha ra => cases h; exact ⟨_, _, rfl, .inl (.inl (.inl (hid_le _ _ ha))), fun l hl => q _ _ (Ex.new hl) (.lst (new_ok al hl) (ra.ex (hid_ex (Ex.new hl))))⟩
  | tup ha p ra => cases h; exact ⟨_, _, rfl, .inr (.inl (.inr ⟨_, hid_le _ _ ha⟩)), fun l hl => q _ _ (Ex.new hl) (.lst (new_ok al hl) (ra.ex (hid_ex (Ex.new hl))))⟩
  | _ => cases h
/-! ### isinstance -/
def tyN : PD → String
  | .none => "NoneType"
  | .bool _ => "bool"
  | .int _ => "int"
  | .str _ => "str"
  | .list _ => "list"
  | .tuple _ => "tuple"
  | .dict _ => "dict"
def full : PD → Bool
  | .dict ((.none, _) :: _) => true
  | _ => false
theorem Rp.ty {H : Hp} {v : V} {d : PD} (r : Rp H v d) (nf : full d = false) : TyX K H v (.type (tyN d)) := by
  cases r with
  | non => exact .base .non
  | bl b => exact .base (.bl b)
  | int i => exact .base (.int i)
  | str x => exact .base (.str x)
  | lst h _ => exact .base (.lst h)
  | tup h _ _ => exact .fTuple h
  | dct h _ _ _ => exact .base (.dK h)
  | scr _ _ => cases nf
inductive Ty | int | bool | str | list | tuple | dict
def Ty.nm : Ty → String
  | .int => "int" | .bool => "bool" | .str => "str" | .list => "list" | .tuple => "tuple" | .dict => "dict"
def isTy : Ty → PD → Bool
  | .int, .int _ => true
  | .int, .bool _ => true
  | .bool, .bool _ => true
  | .str, .str _ => true
  | .list, .list _ => true
  | .tuple, .tuple _ => true
  | .dict, .dict _ => true
  | _, _ => false
theorem kit_c : ∀ t : Ty, kitB "NoneType" t.nm = some (isTy t .none) ∧ kitB "bool" t.nm = some (isTy t (.bool true)) ∧ kitB "int" t.nm = some (isTy t (.int 0)) ∧ kitB "str" t.nm = some (isTy t (.str (Str.ofString ""))) ∧ kitB "list" t.nm = some (isTy t (.list [])) ∧ kitB "tuple" t.nm = some (isTy t (.tuple [])) ∧ kitB "dict" t.nm = some (isTy t (.dict [])) := by
  intro t
  cases t <;> decide +kernel
theorem kit_of : ∀ (t : Ty) (d : PD), kitB (tyN d) t.nm = some (isTy t d) := by
  intro t d
  obtain ⟨h1, h2, h3, h4, h5, h6, h7⟩ := kit_c t
  cases d with
  | none => exact h1
  | bool b => exact h2.trans (by cases t <;> rfl)
  | int i => exact h3.trans (by cases t <;> rfl)
  | str x => exact h4.trans (by cases t <;> rfl)
  | list xs => exact h5.trans (by cases t <;> rfl)
  | tuple xs => exact h6.trans (by cases t <;> rfl)
  | dict xs => exact h7.trans (by cases t <;> rfl)
def xIsi (t : Ty) (a : XE) : XE := fun ρ => (a ρ).bind fun d => if full d = true then none else some (.bool (isTy t d))
theorem se_isi {ta : TE} {a : XE} {n : String} (t : Ty) (hn : t.nm = n) (ha : SE ta a) : SE (tCB (rIsi K) (tCons ta (tCons (tC (.ty n)) tNil))) (xIsi t a) := fun ρ d h S σ H al en Q q => by
  obtain ⟨x, h1, h⟩ := bind_some h
  have nf : full x = false := by
    cases q : full x with
    | true => rw [if_pos q] at h; cases h
    | false => rfl
  rw [if_neg (by rw [nf]; exact Bool.false_ne_true)] at h
  cases h
  subst hn
  exact ha ρ x h1 S σ H al en _ fun v H1 e1 rv => ⟨_, .ty t.nm, _, .type t.nm, isTy t x, rfl, .ty t.nm, (rv.ex hid_le).ty nf, kit_ty (kit_of t x), q _ H1 e1 (.bl _)⟩
/-! ### repr -/
def rRepr (K : PySem.W.Frag) : List V → Hp → VK → Prop := fun vs H Q => ∃ v d, vs = [v] ∧ Rp H v d ∧ d.showable = true ∧ scrF d = true ∧ d.depth ≤ 60 ∧ d.shown.length ≤ sizeLine ∧ Q (.str d.shown) H
theorem cr_repr {X : Cx} (hg : X.A.guards = some []) (hu : X.A.units + 65 < cLine) : CallR X (.builtin "repr") (rRepr X.K) := by
  intro pins s σ H vs us Q I r h
  obtain ⟨v, d, rfl, hd, sh, nd, dp, sz, q⟩ := h
  obtain ⟨u, rfl, ru⟩ : ∃ u, us = [u] ∧ RelV v u := by
    cases r with
    | cons p t => cases t; exact ⟨_, rfl, p⟩
  have rd := Rp.rm I hd nd ru
  have fin : ∀ h' tk t, (∀ b o, s.heap.get? b = some o → h'.get? b = some o) → ∃ v H', L2.Inv X pins σ H' { s with heap := h', toks := tk } ∧ RelV v (.str d.shown t) ∧ Q v H' := fun h' tk t hk => ⟨.str _, H, I.kept hk, ⟨_, rfl⟩, q⟩
  cases rd with
  | non => exact P.repr_of_none (fin s.heap _ _ fun _ _ e => e)
  | bl b => exact P.repr_of_bool (by cases b <;> exact fin s.heap _ _ fun _ _ e => e)
  | int i t => exact P.repr_of_int (by simpa [PyData.showable] using sh) (fin s.heap _ _ fun _ _ e => e)
  | str x t => exact P.repr_of_str (fin s.heap _ _ fun _ _ e => e) sz
  | lst h1 h2 h3 h4 => exact Rm.repr (.lst h1 h2 h3 h4) sh hg (by omega) (fun h' u tk hk => fin h' tk u hk) sz
  | tup h1 h2 h3 h4 => exact Rm.repr (.tup h1 h2 h3 h4) sh hg (by omega) (fun h' u tk hk => fin h' tk u hk) sz
  | dct h1 h2 h3 h4 h5 h6 => exact Rm.repr (.dct h1 h2 h3 h4 h5 h6) sh hg (by omega) (fun h' u tk hk => fin h' tk u hk) sz
def CanShow (d : PD) : Prop := d.showable = true ∧ scrF d = true ∧ d.depth ≤ 60 ∧ d.shown.length ≤ sizeLine
instance {d : PD} : Decidable (CanShow d) := inferInstanceAs (Decidable (_ ∧ _))
def reprP (d : PD) : Option PD := if CanShow d then some (.str d.shown) else none
theorem sc_repr : SC (rRepr K) (on1 reprP) := sc_on1 fun x z h S H v al rv Q q => by
  unfold reprP at h
  by_cases c : CanShow x
  · rw [if_pos c] at h
    cases h
    exact ⟨v, x, rfl, rv.ex hid_le, c.1, c.2.1, c.2.2.1, c.2.2.2, q _ H (Ex.refl H) (.str _)⟩
  · rw [if_neg c] at h; cases h
/-! ### index -/
def idxP (x y : PD) : Option PD := match x, y with
  | .tuple ds, .int m => (unI ds).bind fun ns => if m ∈ ns then some (.int (ns.idxOf m : Nat)) else none
  | .list ds, y => if SeqAt.shaped (.list ds) = true ∧ SeqAt.shaped y = true then match ds.findIdx? fun z => PyData.eqv z y with
    | some j => some (.int (j : Nat))
    | none => none
    else none
  | _, _ => none
def tIdx (K : PySem.W.Frag) (to : TE) (t : TA) : TE := fun σ H Q => tBMF (rIndexF K) to t σ H Q ∨ tBM K "list" (rIndexD K) to t σ H Q
def xIdx (a b : XE) : XE := xOp idxP a b
theorem se_idx {ta tb : TE} {a b : XE} (ha : SE ta a) (hb : SE tb b) : SE (tIdx K ta (tCons tb tNil)) (xIdx a b) := fun ρ d h S σ H al en Q q => by
  obtain ⟨x, h1, h⟩ := bind_some h
  obtain ⟨y, h2, h⟩ := bind_some h
  cases x with
  | tuple ds =>
    cases y with
    | int m =>
      obtain ⟨ns, h3, h4⟩ := bind_some h
      have e := unI_eq h3
      subst e
      by_cases c : m ∈ ns
      · rw [if_pos c] at h4
        cases h4
        refine .inl (ha ρ _ h1 S σ H al en _ fun v H1 e1 rv => ?_)
        generalize ed : PyData.tuple (ns.map PyData.int) = dd at rv
        cases rv with
        | tup hx pl ra =>
          cases ed
          refine ⟨⟨_, _, _, rfl, hid_le _ _ hx, pl⟩, hb ρ _ h2 S σ H1 (al.ex e1) (en.ex (hid_ex e1)) _ fun w H2 e2 rw' => ?_⟩
          cases rw'
          have e := ra.ints
          subst e
          exact ⟨_, ns, m, rfl, rfl, .inl (.inr ⟨_, hid_le _ _ (hid_ex e2 _ _ hx)⟩), c, q _ H2 (e1.trans e2) (.int _)⟩
        | _ => cases ed
      · rw [if_neg c] at h4; cases h4
    | _ => cases h
  | list ds =>
    have h : (if SeqAt.shaped (.list ds) = true ∧ SeqAt.shaped y = true then match ds.findIdx? fun z => PyData.eqv z y with
      | some j => some (PyData.int (j : Nat))
      | none => none
      else none) = some d := by cases y <;> exact h
    by_cases c : SeqAt.shaped (.list ds) = true ∧ SeqAt.shaped y = true
    · rw [if_pos c] at h
      cases hj : ds.findIdx? fun z => PyData.eqv z y with
      | none => rw [hj] at h; cases h
      | some j =>
        rw [hj] at h
        cases h
        obtain ⟨hlt, hy, hn⟩ := List.findIdx?_eq_some_iff_getElem.mp hj
        refine .inr (ha ρ _ h1 S σ H al en _ fun v H1 e1 rv => ?_)
        cases rv with
        | lst hx ra =>
          refine ⟨.inl ⟨rfl, _, .inl (.inl (hid_le _ _ hx))⟩, hb ρ _ h2 S σ H1 (al.ex e1) (en.ex (hid_ex e1)) _ fun w H2 e2 rw' => ?_⟩
          have hx2 := hid_ex (S := S) e2 _ _ hx
          refine ⟨_, w, y, ds, j, ds[j], rfl, rfl, ((Rp.lst hx2 (ra.ex (hid_ex e2))).ex hid_le).dp (nodict c.1), (rw'.ex hid_le).dp (nodict c.2), c.1, c.2, List.getElem?_eq_getElem hlt, hy, fun m z' hm hz => ?_, q _ H2 (e1.trans e2) (.int _)⟩
          obtain ⟨hm2, ez⟩ := List.getElem?_eq_some_iff.mp hz
          have hz2 := hn m hm
          subst ez
          simpa using hz2
    · rw [if_neg c] at h; cases h
  | _ => cases h
end
end Uv

namespace Uv
open PySem PySem.Spec PyProof.Rows L2
open Evl (Ex)
variable [kk : KK]
/-! ### slots that own lists -/
inductive Cel | dat (d : PD) | sub (ds : List PD)
def Cel.pd : Cel → PD
  | .dat d => d
  | .sub ds => .list ds
inductive Sl | un | dat (d : PD) | own (cs : List Cel) | dic (kvs : List (Int × PD))
abbrev Env := List Sl
def Sl.vw : Sl → Option PD
  | .un => none
  | .dat d => some d
  | .own cs => some (.list (cs.map Cel.pd))
  | .dic _ => none
def Sl.mk : Sl → Option PD
  | .dat d => some d
  | _ => none
def vw (ρ : Env) : VE := ρ.map Sl.vw
def mk (ρ : Env) : VE := ρ.map Sl.mk
abbrev Trs := Nat → List Addr
def SF (F : Hs) (T : Trs) : Hs := fun x => F x ∨ ∃ i, x ∈ T i
def FL (F : Hs) (L : List Addr) : Hs := fun x => F x ∨ x ∈ L
/-- the items of an owned list: data, or lists of data that are owned too (at the addresses) -/
inductive Cels (G H : Hp) : List V → List Cel → List Addr → Prop
  | nil : Cels G H [] [] []
  | dat {v : V} {d : PD} {vs : List V} {cs : List Cel} {B : List Addr} : Rp G v d → Cels G H vs cs B → Cels G H (v :: vs) (.dat d :: cs) B
  | sub {b : Addr} {ws : List V} {ds : List PD} {vs : List V} {cs : List Cel} {B : List Addr} : H b = some (.lst ws) → RpAll G ws ds → Cels G H vs cs B → Cels G H (.ref b :: vs) (.sub ds :: cs) (b :: B)
def Own (G H : Hp) (v : V) (cs : List Cel) (A : List Addr) : Prop := ∃ a vs B, v = .ref a ∧ H a = some (.lst vs) ∧ Cels G H vs cs B ∧ A = a :: B
/-- a dict with whole numbers for keys, and data -/
inductive Kvs (G : Hp) : List (Key × V) → List (Int × PD) → Prop
  | nil : Kvs G [] []
  | cons {k : Int} {v : V} {d : PD} {ks : List (Key × V)} {l : List (Int × PD)} : Rp G v d → Kvs G ks l → Kvs G ((.inl k, v) :: ks) ((k, d) :: l)
theorem Kvs.ex {G G' : Hp} (e : Ex G G') : ∀ {ks : List (Key × V)} {l : List (Int × PD)}, Kvs G ks l → Kvs G' ks l
  | _, _, .nil => .nil
  | _, _, .cons r c => .cons (r.ex e) (c.ex e)
def Dc (G H : Hp) (v : V) (l : List (Int × PD)) (A : List Addr) : Prop := ∃ a ks, v = .ref a ∧ H a = some (.dK ks) ∧ Kvs G ks l ∧ A = [a]
theorem Dc.mv {G G' H H' : Hp} (e : Ex G G') {v : V} {l : List (Int × PD)} {A : List Addr} (h : ∀ x ∈ A, H' x = H x) (o : Dc G H v l A) : Dc G' H' v l A := by
  obtain ⟨a, ks, rfl, ha, c, rfl⟩ := o
  exact ⟨a, ks, rfl, (h a (List.mem_cons_self ..)).trans ha, c.ex e, rfl⟩
def SlOk (G H : Hp) (o : Option V) (s : Sl) (A : List Addr) : Prop := match s with
  | .un => A = []
  | .dat d => A = [] ∧ ∃ v, o = some v ∧ Rp G v d
  | .own cs => ∃ v, o = some v ∧ Own G H v cs A
  | .dic l => ∃ v, o = some v ∧ Dc G H v l A
structure StOk (pn : Option V) (F : Hs) (T : Trs) (H : Hp) (σ : L2.St) (ρ : Env) : Prop where
  len : σ.length = ρ.length
  al : Al F H
  off : ∀ i x, x ∈ T i → ¬ F x
  dis : ∀ i j x, x ∈ T i → x ∈ T j → i = j
  nd : ∀ i, (T i).Nodup
  out : ∀ i, ρ.length ≤ i → T i = []
  sl : ∀ i s, ρ[i]? = some s → ∃ o, σ[i]? = some o ∧ SlOk (hid (SF F T) H) H o s (T i)
  pin : ∀ v, pn = some v → σ[0]? = some (some v)
structure Stp (F : Hs) (T : Trs) (H : Hp) (T' : Trs) (H' : Hp) : Prop where
  fr : ∀ x, F x → H' x = H x
  vis : Ex (hid (SF F T) H) (hid (SF F T') H')
section
variable {pn : Option V} {F : Hs} {T T' T'' : Trs} {G G' H H' H'' : Hp} {σ : L2.St} {ρ : Env}
theorem Stp.refl : Stp F T H T H := ⟨fun _ _ => rfl, Ex.refl _⟩
theorem Stp.trans (a : Stp F T H T' H') (b : Stp F T' H' T'' H'') : Stp F T H T'' H'' := ⟨fun x h => (b.fr x h).trans (a.fr x h), a.vis.trans b.vis⟩
theorem Stp.ex (al : Al F H) (e : Ex H H') : Stp F T H T H' := ⟨fun x h => by
  cases q : H x with
  | none => exact absurd q (al x h)
  | some o => exact e x o q, hid_ex e⟩
theorem Cels.mv (e : Ex G G') : ∀ {vs : List V} {cs : List Cel} {B : List Addr}, (∀ x ∈ B, H' x = H x) → Cels G H vs cs B → Cels G' H' vs cs B
  | _, _, _, _, .nil => .nil
  | _, _, _, h, .dat r c => .dat (r.ex e) (Cels.mv e h c)
  | _, _, _, h, .sub hb r c => .sub ((h _ (List.mem_cons_self ..)).trans hb) (r.ex e) (Cels.mv e (fun x hx => h x (List.mem_cons_of_mem _ hx)) c)
theorem Own.mv (e : Ex G G') {v : V} {cs : List Cel} {A : List Addr} (h : ∀ x ∈ A, H' x = H x) (o : Own G H v cs A) : Own G' H' v cs A := by
  obtain ⟨a, vs, B, rfl, ha, c, rfl⟩ := o
  exact ⟨a, vs, B, rfl, (h a (List.mem_cons_self ..)).trans ha, c.mv e fun x hx => h x (List.mem_cons_of_mem _ hx), rfl⟩
theorem SlOk.mv (e : Ex G G') {o : Option V} {s : Sl} {A : List Addr} (h : ∀ x ∈ A, H' x = H x) (q : SlOk G H o s A) : SlOk G' H' o s A := by
  cases s with
  | un => exact q
  | dat d => obtain ⟨z, v, e1, r⟩ := q; exact ⟨z, v, e1, r.ex e⟩
  | own cs => obtain ⟨v, e1, r⟩ := q; exact ⟨v, e1, r.mv e h⟩
  | dic l => obtain ⟨v, e1, r⟩ := q; exact ⟨v, e1, r.mv e h⟩
theorem Cels.lst : ∀ {vs : List V} {cs : List Cel} {B : List Addr}, Cels G H vs cs B → ∀ x ∈ B, ∃ ws, H x = some (.lst ws)
  | _, _, _, .nil, x, h => nomatch h
  | _, _, _, .dat _ c, x, h => c.lst x h
  | _, _, _, .sub hb _ c, x, h => by
    rcases List.mem_cons.mp h with z | z
    · subst z; exact ⟨_, hb⟩
    · exact c.lst x z
theorem Own.lst {v : V} {cs : List Cel} {A : List Addr} (o : Own G H v cs A) : ∀ x ∈ A, ∃ ws, H x = some (.lst ws) := fun x h => by
  obtain ⟨a, vs, B, rfl, ha, c, rfl⟩ := o
  rcases List.mem_cons.mp h with z | z
  · subst z; exact ⟨_, ha⟩
  · exact c.lst x z
theorem Cels.length : ∀ {vs : List V} {cs : List Cel} {B : List Addr}, Cels G H vs cs B → vs.length = cs.length
  | _, _, _, .nil => rfl
  | _, _, _, .dat _ c => by rw [List.length_cons, List.length_cons, c.length]
  | _, _, _, .sub _ _ c => by rw [List.length_cons, List.length_cons, c.length]
/-- seen as data, where the addresses show -/
theorem Cels.rp (e : Ex G G') (hs : ∀ x ∈ B, G' x = H x) : ∀ {vs : List V} {cs : List Cel}, Cels G H vs cs B → RpAll G' vs (cs.map Cel.pd)
  | _, _, .nil => .nil
  | _, _, .dat r c => .cons (r.ex e) (c.rp e hs)
  | _, _, .sub hb r c => .cons (.lst ((hs _ (List.mem_cons_self ..)).trans hb) (r.ex e)) (c.rp e fun x hx => hs x (List.mem_cons_of_mem _ hx))
theorem Own.rp (e : Ex G G') {v : V} {cs : List Cel} {A : List Addr} (hs : ∀ x ∈ A, G' x = H x) (o : Own G H v cs A) : Rp G' v (.list (cs.map Cel.pd)) := by
  obtain ⟨a, vs, B, rfl, ha, c, rfl⟩ := o
  exact .lst ((hs a (List.mem_cons_self ..)).trans ha) (c.rp e fun x hx => hs x (List.mem_cons_of_mem _ hx))
theorem StOk.lst (st : StOk pn F T H σ ρ) {i : Nat} {x : Addr} (h : x ∈ T i) : ∃ ob, H x = some ob ∧ ∀ o u, ob ≠ .frz o u := by
  by_cases c : i < ρ.length
  · obtain ⟨o, _, q⟩ := st.sl i _ (List.getElem?_eq_getElem c)
    cases e : ρ[i] with
    | un => rw [e] at q; rw [show T i = [] from q] at h; cases h
    | dat d => rw [e] at q; rw [q.1] at h; cases h
    | own cs => rw [e] at q; obtain ⟨v, _, q⟩ := q; obtain ⟨ws, g⟩ := q.lst x h; exact ⟨_, g, fun o u z => nomatch z⟩
    | dic l =>
      rw [e] at q
      obtain ⟨v, _, a, ks, _, ha, _, hA⟩ := q
      rw [hA] at h
      have : x = a := by simpa using h
      rw [this]
      exact ⟨_, ha, fun o u z => nomatch z⟩
  · rw [st.out i (by omega)] at h; cases h
theorem StOk.als (st : StOk pn F T H σ ρ) : Al (SF F T) H := fun x h z => h.elim (fun h => st.al x h z) fun ⟨i, h⟩ => by
  obtain ⟨vs, e, _⟩ := st.lst h
  rw [z] at e
  cases e
theorem StOk.mv (st : StOk pn F T H σ ρ) (e : Ex (hid (SF F T) H) (hid (SF F T) H')) (h : ∀ i x, x ∈ T i → H' x = H x) (al : Al F H') : StOk pn F T H' σ ρ :=
  ⟨st.len, al, st.off, st.dis, st.nd, st.out, fun i s hi => let ⟨o, h1, h2⟩ := st.sl i s hi; ⟨o, h1, h2.mv e (h i)⟩, st.pin⟩
theorem StOk.ex (st : StOk pn F T H σ ρ) (e : Ex H H') : StOk pn F T H' σ ρ := st.mv (hid_ex e) (fun i x hx => by
  obtain ⟨vs, q, _⟩ := st.lst hx
  rw [q, e x _ q]) (st.al.ex e)
theorem StOk.vw (st : StOk pn F T H σ ρ) : En (hid F H) σ (vw ρ) := by
  refine ⟨by rw [st.len]; unfold Uv.vw; rw [List.length_map], fun i d hi => ?_⟩
  unfold Uv.vw at hi
  rw [List.getElem?_map] at hi
  cases q : ρ[i]? with
  | none => rw [q] at hi; cases hi
  | some s =>
    rw [q] at hi
    have hi : s.vw = some d := Option.some.inj hi
    obtain ⟨o, h1, h2⟩ := st.sl i s q
    cases s with
    | un => cases hi
    | dat d' =>
      cases hi
      obtain ⟨_, v, rfl, r⟩ := h2
      exact ⟨v, h1, r.ex (hid_sub fun x h => .inl h)⟩
    | own cs =>
      cases hi
      obtain ⟨v, rfl, r⟩ := h2
      exact ⟨v, h1, r.rp (hid_sub fun x h => .inl h) fun x hx => hid_out (st.off i x hx)⟩
    | dic l => cases hi
theorem StOk.mkd (st : StOk pn F T H σ ρ) : En (hid (SF F T) H) σ (Uv.mk ρ) := by
  refine ⟨by rw [st.len]; unfold Uv.mk; rw [List.length_map], fun i d hi => ?_⟩
  unfold Uv.mk at hi
  rw [List.getElem?_map] at hi
  cases q : ρ[i]? with
  | none => rw [q] at hi; cases hi
  | some s =>
    rw [q] at hi
    have hi : s.mk = some d := Option.some.inj hi
    obtain ⟨o, h1, h2⟩ := st.sl i s q
    cases s with
    | dat d' =>
      cases hi
      obtain ⟨_, v, rfl, r⟩ := h2
      exact ⟨v, h1, r⟩
    | _ => cases hi
/-! setting a slot -/
def setT (T : Trs) (i : Nat) (A : List Addr) : Trs := fun j => if j = i then A else T j
theorem setT_same {i : Nat} {A : List Addr} : setT T i A i = A := if_pos rfl
theorem setT_ne {i j : Nat} {A : List Addr} (h : j ≠ i) : setT T i A j = T j := if_neg h
theorem SF_setT_nil {i : Nat} : ∀ x, SF F (setT T i []) x → SF F T x := fun x h => h.elim .inl fun ⟨j, hj⟩ => .inr (by
  by_cases c : j = i
  · subst c; rw [setT_same] at hj; cases hj
  · rw [setT_ne c] at hj; exact ⟨j, hj⟩)
theorem StOk.drop (st : StOk pn F T H σ ρ) {i : Nat} {o : Option V} {s : Sl} (hi0 : i ≠ 0) (hs : SlOk (hid (SF F (setT T i [])) H) H o s []) : StOk pn F (setT T i []) H (σ.set i o) (ρ.set i s) ∧ Stp F T H (setT T i []) H := by
  have sub : Ex (hid (SF F T) H) (hid (SF F (setT T i [])) H) := hid_sub SF_setT_nil
  have mem : ∀ j x, x ∈ setT T i [] j → x ∈ T j ∧ j ≠ i := fun j x h => by
    by_cases c : j = i
    · subst c; rw [setT_same] at h; cases h
    · rw [setT_ne c] at h; exact ⟨h, c⟩
  refine ⟨⟨by rw [List.length_set, List.length_set]; exact st.len, st.al, fun j x h => st.off j x (mem j x h).1, fun j k x h h' => st.dis j k x (mem j x h).1 (mem k x h').1, fun j => ?_, fun j hj => ?_, fun j q hq => ?_, fun v hv => ?_⟩, ⟨fun _ _ => rfl, sub⟩⟩
  · by_cases c : j = i
    · subst c; rw [setT_same]; exact List.nodup_nil
    · rw [setT_ne c]; exact st.nd j
  · rw [List.length_set] at hj
    by_cases c : j = i
    · subst c; rw [setT_same]
    · rw [setT_ne c]; exact st.out j hj
  · by_cases c : i = j
    · subst c
      have hl : i < ρ.length := by
        have := (List.getElem?_eq_some_iff.mp hq).1
        simpa using this
      rw [List.getElem?_set_self hl] at hq
      cases hq
      rw [setT_same]
      exact ⟨o, List.getElem?_set_self (by rw [st.len]; exact hl), hs⟩
    · rw [List.getElem?_set_ne c] at hq
      obtain ⟨o', h1, h2⟩ := st.sl j q hq
      rw [List.getElem?_set_ne c, setT_ne (fun z => c z.symm)]
      exact ⟨o', h1, h2.mv sub fun _ _ => rfl⟩
  · rw [List.getElem?_set_ne hi0]
    exact st.pin v hv
theorem StOk.set (st : StOk pn F T H σ ρ) {i : Nat} (hi0 : i ≠ 0) {v : V} {d : PD} (r : Rp (hid (SF F T) H) v d) : StOk pn F (setT T i []) H (σ.set i (some v)) (ρ.set i (.dat d)) ∧ Stp F T H (setT T i []) H :=
  st.drop hi0 ⟨rfl, v, rfl, r.ex (hid_sub SF_setT_nil)⟩
/-- a new list, owned by a slot -/
theorem StOk.own {A : List Addr} (st : StOk pn (FL F A) T H σ ρ) {i : Nat} (hi0 : i ≠ 0) (hi : i < ρ.length) {v : V} {cs : List Cel} (o : Own (hid (SF (FL F A) T) H) H v cs A) (nd : A.Nodup) (off : ∀ x ∈ A, ¬ F x) :
    StOk pn F (setT T i A) H (σ.set i (some v)) (ρ.set i (.own cs)) ∧ Ex (hid (SF (FL F A) T) H) (hid (SF F (setT T i A)) H) := by
  have sub : Ex (hid (SF (FL F A) T) H) (hid (SF F (setT T i A)) H) := hid_sub fun x h => h.elim (fun h => .inl (.inl h)) fun ⟨j, hj⟩ => by
    by_cases c : j = i
    · subst c; rw [setT_same] at hj; exact .inl (.inr hj)
    · rw [setT_ne c] at hj; exact .inr ⟨j, hj⟩
  have mem : ∀ j x, x ∈ setT T i A j → (j = i ∧ x ∈ A) ∨ (j ≠ i ∧ x ∈ T j) := fun j x h => by
    by_cases c : j = i
    · subst c; rw [setT_same] at h; exact .inl ⟨rfl, h⟩
    · rw [setT_ne c] at h; exact .inr ⟨c, h⟩
  refine ⟨⟨by rw [List.length_set, List.length_set]; exact st.len, fun x h => st.al x (.inl h), fun j x h => ?_, fun j k x h h' => ?_, fun j => ?_, fun j hj => ?_, fun j q hq => ?_, fun v hv => ?_⟩, sub⟩
  · rcases mem j x h with ⟨_, h⟩ | ⟨_, h⟩
    · exact off x h
    · exact fun z => st.off j x h (.inl z)
  · rcases mem j x h with ⟨e, h⟩ | ⟨e, h⟩
    · rcases mem k x h' with ⟨e', h'⟩ | ⟨e', h'⟩
      · rw [e, e']
      · exact absurd (.inr h) (st.off k x h')
    · rcases mem k x h' with ⟨e', h'⟩ | ⟨e', h'⟩
      · exact absurd (.inr h') (st.off j x h)
      · exact st.dis j k x h h'
  · by_cases c : j = i
    · subst c; rw [setT_same]; exact nd
    · rw [setT_ne c]; exact st.nd j
  · rw [List.length_set] at hj
    rw [setT_ne (by omega)]
    exact st.out j hj
  · by_cases c : i = j
    · subst c
      rw [List.getElem?_set_self hi] at hq
      cases hq
      rw [setT_same]
      exact ⟨some v, List.getElem?_set_self (by rw [st.len]; exact hi), v, rfl, o.mv sub fun _ _ => rfl⟩
    · rw [List.getElem?_set_ne c] at hq
      obtain ⟨o', h1, h2⟩ := st.sl j q hq
      rw [List.getElem?_set_ne c, setT_ne (fun z => c z.symm)]
      exact ⟨o', h1, h2.mv sub fun _ _ => rfl⟩
  · rw [List.getElem?_set_ne hi0]
    exact st.pin v hv
/-- what was new becomes data -/
theorem StOk.thaw {A : List Addr} (st : StOk pn (FL F A) T H σ ρ) : StOk pn F T H σ ρ ∧ Ex (hid (SF (FL F A) T) H) (hid (SF F T) H) := by
  have sub : Ex (hid (SF (FL F A) T) H) (hid (SF F T) H) := hid_sub fun x h => h.elim (fun h => .inl (.inl h)) .inr
  exact ⟨⟨st.len, fun x h => st.al x (.inl h), fun i x h z => st.off i x h (.inl z), st.dis, st.nd, st.out, fun i s hi => let ⟨o, h1, h2⟩ := st.sl i s hi; ⟨o, h1, h2.mv sub fun _ _ => rfl⟩, st.pin⟩, sub⟩
/-- an owned slot's list is written, the lists within stand -/
theorem StOk.write (st : StOk pn F T H σ ρ) {i : Nat} {cs cs' : List Cel} {a : Addr} {vs' : List V} {B : List Addr} (hi : ρ[i]? = some (.own cs)) (hT : T i = a :: B) (hσ : σ[i]? = some (some (.ref a))) (hc : Cels (hid (SF F T) H) H vs' cs' B) :
    StOk pn F T (upd H a (.lst vs')) σ (ρ.set i (.own cs')) ∧ Stp F T H T (upd H a (.lst vs')) := by
  have ha : a ∈ T i := by rw [hT]; exact List.mem_cons_self ..
  have hab : a ∉ B := by have := st.nd i; rw [hT] at this; exact (List.nodup_cons.mp this).1
  have hS : SF F T a := .inr ⟨i, ha⟩
  have vis : Ex (hid (SF F T) H) (hid (SF F T) (upd H a (.lst vs'))) := fun x o h => by
    obtain ⟨c, h⟩ := hid_some h
    rw [hid_out c, upd_ne (fun z => c (by rw [z]; exact hS))]
    exact h
  have ne : ∀ x, x ≠ a → upd H a (.lst vs') x = H x := fun x h => upd_ne h
  refine ⟨⟨by rw [List.length_set]; exact st.len, fun x h => ?_, st.off, st.dis, st.nd, fun j hj => st.out j (by rw [List.length_set] at hj; exact hj), fun j q hq => ?_, st.pin⟩, ⟨fun x h => ne x fun z => st.off i a ha (by rw [← z]; exact h), vis⟩⟩
  · rw [ne x fun z => st.off i a ha (by rw [← z]; exact h)]
    exact st.al x h
  · by_cases c : i = j
    · subst c
      have hl : i < ρ.length := by
        have := (List.getElem?_eq_some_iff.mp hq).1
        simpa using this
      rw [List.getElem?_set_self hl] at hq
      cases hq
      exact ⟨_, hσ, .ref a, rfl, a, vs', B, rfl, upd_same, hc.mv vis fun x hx => ne x fun z => hab (by rw [← z]; exact hx), hT⟩
    · rw [List.getElem?_set_ne c] at hq
      obtain ⟨o', h1, h2⟩ := st.sl j q hq
      exact ⟨o', h1, h2.mv vis fun x hx => ne x fun z => c (st.dis i j a ha (by rw [← z]; exact hx))⟩
theorem StOk.at_own (st : StOk pn F T H σ ρ) {i : Nat} {cs : List Cel} (hi : ρ[i]? = some (.own cs)) : ∃ a vs B, σ[i]? = some (some (.ref a)) ∧ H a = some (.lst vs) ∧ Cels (hid (SF F T) H) H vs cs B ∧ T i = a :: B := by
  obtain ⟨o, h1, v, rfl, a, vs, B, rfl, h2, h3, h4⟩ := st.sl i _ hi
  exact ⟨a, vs, B, h1, h2, h3, h4⟩
end
/-! ### data without lists -/
mutual
def flat : PD → Bool
  | .none => true
  | .bool _ => true
  | .int _ => true
  | .str _ => true
  | .tuple ds => flats ds
  | .list _ => false
  | .dict _ => false
def flats : List PD → Bool
  | [] => true
  | d :: ds => flat d && flats ds
end
mutual
theorem Rp.flat {G G' : Hp} (e : ∀ x o u, G x = some (.frz o u) → G' x = some (.frz o u)) : ∀ {v : V} {d : PD}, Rp G v d → flat d = true → Rp G' v d
  | _, _, .non, _ => .non
  | _, _, .bl b, _ => .bl b
  | _, _, .int i, _ => .int i
  | _, _, .str x, _ => .str x
  | _, _, .lst h r, f => by simp [Uv.flat] at f
  | _, _, .tup h p r, f => .tup (e _ _ _ h) p (RpAll.flat e r (by simpa [Uv.flat] using f))
  | _, _, .dct _ _ _ _, f => by simp [Uv.flat] at f
  | _, _, .scr h r, f => by simp [Uv.flat] at f
theorem RpAll.flat {G G' : Hp} (e : ∀ x o u, G x = some (.frz o u) → G' x = some (.frz o u)) : ∀ {vs : List V} {ds : List PD}, RpAll G vs ds → flats ds = true → RpAll G' vs ds
  | _, _, .nil, _ => .nil
  | _, _, .cons h r, f => by
    simp only [flats, Bool.and_eq_true] at f
    exact .cons (Rp.flat e h f.1) (RpAll.flat e r f.2)
end
theorem StOk.frz {pn : Option V} {F : Hs} {T : Trs} {H H' : Hp} {σ : L2.St} {ρ : Env} (st : StOk pn F T H σ ρ) (e : Ex H H') : ∀ x o u, hid F H' x = some (.frz o u) → hid (SF F T) H' x = some (.frz o u) := fun x o u h => by
  obtain ⟨c, h⟩ := hid_some h
  rw [hid_out]
  · exact h
  · rintro (z | ⟨i, z⟩)
    · exact c z
    · obtain ⟨vs, q, n⟩ := st.lst z
      rw [e x _ q] at h
      exact n _ _ (Option.some.inj h)
end Uv

namespace Uv
open PySem PySem.Spec PyProof.Rows L2
open Evl (Ex)
variable [kk : KK]
/-! ### expressions over a state -/
abbrev XW := Env → Option (PD × Env)
abbrev XWT := Env → Option (Bool × Env)
abbrev XWA := Env → Option (List PD × Env)
abbrev XWO := Env → Option (List Cel × Env)
def SW (te : TE) (w : XW) : Prop := ∀ pn F T H σ ρ d ρ', StOk pn F T H σ ρ → w ρ = some (d, ρ') → ∀ Q : VK, (∀ v T' H', StOk pn F T' H' σ ρ' → Stp F T H T' H' → Rp (hid (SF F T') H') v d → Q v H') → te σ H Q
def SWT (tt : TT) (w : XWT) : Prop := ∀ pn F T H σ ρ b ρ', StOk pn F T H σ ρ → w ρ = some (b, ρ') → ∀ Q : Bool → Hp → Prop, (∀ T' H', StOk pn F T' H' σ ρ' → Stp F T H T' H' → Q b H') → tt σ H Q
def SWA (ta : TA) (w : XWA) : Prop := ∀ pn F T H σ ρ ds ρ', StOk pn F T H σ ρ → w ρ = some (ds, ρ') → ∀ Q : List V → Hp → Prop, (∀ vs T' H', StOk pn F T' H' σ ρ' → Stp F T H T' H' → RpAll (hid (SF F T') H') vs ds → Q vs H') → ta σ H Q
/-- a new list: its addresses A stand in the frame -/
def SWO (te : TE) (w : XWO) : Prop := ∀ pn F T H σ ρ cs ρ', StOk pn F T H σ ρ → w ρ = some (cs, ρ') → ∀ Q : VK, (∀ v A T' H', StOk pn (FL F A) T' H' σ ρ' → A.Nodup → (∀ x ∈ A, ¬ F x) → (∀ x, F x → H' x = H x) → Ex (hid (SF F T) H) (hid (SF (FL F A) T') H') → Own (hid (SF (FL F A) T') H') H' v cs A → Q v H') → te σ H Q
def wM (x : XE) : XW := fun ρ => (x (mk ρ)).bind fun d => some (d, ρ)
def wV (x : XE) : XW := fun ρ => (x (vw ρ)).bind fun d => if flat d = true then some (d, ρ) else none
def wMT (x : XT) : XWT := fun ρ => (x (mk ρ)).bind fun d => some (d, ρ)
def wVT (x : XT) : XWT := fun ρ => (x (vw ρ)).bind fun d => some (d, ρ)
def wMA (x : XA) : XWA := fun ρ => (x (mk ρ)).bind fun d => some (d, ρ)
def wNil : XWA := fun ρ => some ([], ρ)
def wCons (a : XW) (as : XWA) : XWA := fun ρ => (a ρ).bind fun x => (as x.2).bind fun xs => some (x.1 :: xs.1, xs.2)
def wOp (f : PD → PD → Option PD) (a b : XW) : XW := fun ρ => (a ρ).bind fun x => (b x.2).bind fun y => (f x.1 y.1).bind fun z => some (z, y.2)
def wUn (f : PD → Option PD) (a : XW) : XW := fun ρ => (a ρ).bind fun x => (f x.1).bind fun z => some (z, x.2)
def wTup (as : XWA) : XW := fun ρ => (as ρ).bind fun x => if x.1.length ≤ 100000 then some (.tuple x.1, x.2) else none
def wLst (as : XWA) : XW := fun ρ => (as ρ).bind fun x => if x.1.length ≤ 100000 then some (.list x.1, x.2) else none
def wCB (f : List PD → Option PD) (as : XWA) : XW := fun ρ => (as ρ).bind fun x => (f x.1).bind fun z => some (z, x.2)
def wB (a : XW) : XWT := fun ρ => (a ρ).bind fun x => (isB x.1).bind fun b => some (b, x.2)
def wIf (c : XWT) (a b : XW) : XW := fun ρ => (c ρ).bind fun k => if k.1 = true then a k.2 else b k.2
def wTAnd (a b : XWT) : XWT := fun ρ => (a ρ).bind fun c => if c.1 = true then b c.2 else some (false, c.2)
def wTOr (a b : XWT) : XWT := fun ρ => (a ρ).bind fun c => if c.1 = true then some (true, c.2) else b c.2
def wTNot (a : XWT) : XWT := fun ρ => (a ρ).bind fun c => some (!c.1, c.2)
def wAnd (a b : XW) : XW := fun ρ => (wB a ρ).bind fun c => if c.1 = true then b c.2 else some (.bool false, c.2)
def wOr (a b : XW) : XW := fun ρ => (wB a ρ).bind fun c => if c.1 = true then some (.bool true, c.2) else b c.2
def wNot (a : XW) : XW := fun ρ => (wB a ρ).bind fun c => some (.bool (!c.1), c.2)
section
variable {ta tb te : TE} {t u : TT} {ts : TA} {a b w : XW} {p q : XWT} {as : XWA} {r : R2} {f : PD → PD → Option PD} {x : XE}
theorem sw_M (h : SE te x) : SW te (wM x) := fun pn F T H σ ρ d ρ' st e Q q => by
  obtain ⟨z, h1, h2⟩ := bind_some e
  cases h2
  exact h _ _ h1 (SF F T) σ H st.als st.mkd Q fun v H2 e2 rv => q v T H2 (st.ex e2) (Stp.ex st.al e2) rv
theorem sw_V (h : SE te x) : SW te (wV x) := fun pn F T H σ ρ d ρ' st e Q q => by
  obtain ⟨z, h1, h2⟩ := bind_some e
  by_cases c : flat z = true
  · rw [if_pos c] at h2
    cases h2
    exact h _ _ h1 F σ H st.al st.vw Q fun v H2 e2 rv => q v T H2 (st.ex e2) (Stp.ex st.al e2) (rv.flat (st.frz e2) c)
  · rw [if_neg c] at h2; cases h2
theorem swt_M {x : XT} (h : ST t x) : SWT t (wMT x) := fun pn F T H σ ρ d ρ' st e Q q => by
  obtain ⟨z, h1, h2⟩ := bind_some e
  cases h2
  exact h _ _ h1 (SF F T) σ H st.als st.mkd Q fun H2 e2 => q T H2 (st.ex e2) (Stp.ex st.al e2)
theorem swt_V {x : XT} (h : ST t x) : SWT t (wVT x) := fun pn F T H σ ρ d ρ' st e Q q => by
  obtain ⟨z, h1, h2⟩ := bind_some e
  cases h2
  exact h _ _ h1 F σ H st.al st.vw Q fun H2 e2 => q T H2 (st.ex e2) (Stp.ex st.al e2)
theorem swa_M {x : XA} (h : SA ts x) : SWA ts (wMA x) := fun pn F T H σ ρ d ρ' st e Q q => by
  obtain ⟨z, h1, h2⟩ := bind_some e
  cases h2
  exact h _ _ h1 (SF F T) σ H st.als st.mkd Q fun v H2 e2 rv => q v T H2 (st.ex e2) (Stp.ex st.al e2) rv
theorem swa_nil : SWA tNil wNil := fun pn F T H σ ρ d ρ' st e Q q => by cases e; exact q [] T H st Stp.refl .nil
theorem swa_cons (ha : SW ta a) (hs : SWA ts as) : SWA (tCons ta ts) (wCons a as) := fun pn F T H σ ρ d ρ' st e Q q => by
  obtain ⟨⟨x, ρ1⟩, h1, e⟩ := bind_some e
  obtain ⟨⟨xs, ρ2⟩, h2, e⟩ := bind_some e
  cases e
  exact ha pn F T H σ ρ x ρ1 st h1 _ fun v T1 H1 st1 s1 rv => hs pn F T1 H1 σ ρ1 xs ρ2 st1 h2 _ fun vs T2 H2 st2 s2 rs => q (v :: vs) T2 H2 st2 (s1.trans s2) (.cons (rv.ex s2.vis) rs)
theorem sw_op (hr : SO r f) (ha : SW ta a) (hb : SW tb b) : SW (tOp r ta tb) (wOp f a b) := fun pn F T H σ ρ d ρ' st e Q q => by
  obtain ⟨⟨x, ρ1⟩, h1, e⟩ := bind_some e
  obtain ⟨⟨y, ρ2⟩, h2, e⟩ := bind_some e
  obtain ⟨z, h3, e⟩ := bind_some e
  cases e
  exact ha pn F T H σ ρ x ρ1 st h1 _ fun v T1 H1 st1 s1 rv => hb pn F T1 H1 σ ρ1 y ρ2 st1 h2 _ fun w T2 H2 st2 s2 rw' =>
    hr x y d h3 (SF F T2) H2 v w st2.als (rv.ex s2.vis) rw' Q fun z H3 e3 rz => q z T2 H3 (st2.ex e3) ((s1.trans s2).trans (Stp.ex st2.al e3)) rz
theorem sw_un {r : V → Hp → VK → Prop} {f : PD → Option PD} (hr : SU r f) (ha : SW ta a) : SW (tUn r ta) (wUn f a) := fun pn F T H σ ρ d ρ' st e Q q => by
  obtain ⟨⟨x, ρ1⟩, h1, e⟩ := bind_some e
  obtain ⟨z, h3, e⟩ := bind_some e
  cases e
  exact ha pn F T H σ ρ x ρ1 st h1 _ fun v T1 H1 st1 s1 rv => hr x d h3 (SF F T1) H1 v st1.als rv Q fun z H3 e3 rz => q z T1 H3 (st1.ex e3) (s1.trans (Stp.ex st1.al e3)) rz
theorem sw_tup (hs : SWA ts as) : SW (tTupF ts) (wTup as) := fun pn F T H σ ρ d ρ' st e Q q => by
  obtain ⟨⟨xs, ρ1⟩, h1, e⟩ := bind_some e
  by_cases hl : xs.length ≤ 100000
  · rw [if_pos hl] at e
    cases e
    exact hs pn F T H σ ρ xs _ st h1 _ fun vs T1 H1 st1 s1 rv => ⟨by rw [rv.length]; exact Evl.sz_of hl, fun p o hp pl => q _ T1 _ (st1.ex (Ex.new hp)) (s1.trans (Stp.ex st1.al (Ex.new hp))) (.tup (new_ok st1.als hp) pl (rv.ex (hid_ex (Ex.new hp))))⟩
  · rw [if_neg hl] at e; cases e
theorem sw_lst (hs : SWA ts as) : SW (tLst ts) (wLst as) := fun pn F T H σ ρ d ρ' st e Q q => by
  obtain ⟨⟨xs, ρ1⟩, h1, e⟩ := bind_some e
  by_cases hl : xs.length ≤ 100000
  · rw [if_pos hl] at e
    cases e
    exact hs pn F T H σ ρ xs _ st h1 _ fun vs T1 H1 st1 s1 rv => ⟨by rw [rv.length]; exact Evl.sz_of hl, fun p hp => q _ T1 _ (st1.ex (Ex.new hp)) (s1.trans (Stp.ex st1.al (Ex.new hp))) (.lst (new_ok st1.als hp) (rv.ex (hid_ex (Ex.new hp))))⟩
  · rw [if_neg hl] at e; cases e
theorem sw_cb {r : List V → Hp → VK → Prop} {f : List PD → Option PD} (hr : SC r f) (hs : SWA ts as) : SW (tCB r ts) (wCB f as) := fun pn F T H σ ρ d ρ' st e Q q => by
  obtain ⟨⟨xs, ρ1⟩, h1, e⟩ := bind_some e
  obtain ⟨z, h3, e⟩ := bind_some e
  cases e
  exact hs pn F T H σ ρ xs _ st h1 _ fun vs T1 H1 st1 s1 rv => hr xs d h3 (SF F T1) H1 vs st1.als rv Q fun z H3 e3 rz => q z T1 H3 (st1.ex e3) (s1.trans (Stp.ex st1.al e3)) rz
theorem wB_some {ρ ρ' : Env} {c : Bool} (h : wB a ρ = some (c, ρ')) : a ρ = some (.bool c, ρ') := by
  obtain ⟨⟨x, ρ1⟩, h1, e⟩ := bind_some h
  obtain ⟨b, h2, e⟩ := bind_some e
  have z := isB_eq h2
  cases e
  subst z
  exact h1
theorem swt_B (ha : SW ta a) : SWT (tB ta) (wB a) := fun pn F T H σ ρ c ρ' st e Q q =>
  ha pn F T H σ ρ _ ρ' st (wB_some e) _ fun v T1 H1 st1 s1 rv => by cases rv; exact ⟨c, rfl, q T1 H1 st1 s1⟩
theorem swt_test (ha : SW ta a) : SWT (tTest ta) (wB a) := fun pn F T H σ ρ c ρ' st e Q q =>
  ha pn F T H σ ρ _ ρ' st (wB_some e) _ fun v T1 H1 st1 s1 rv => by cases rv; exact ⟨c, rfl, q T1 H1 st1 s1⟩
theorem sw_if (ht : SWT t p) (ha : SW ta a) (hb : SW tb b) : SW (tIf t ta tb) (wIf p a b) := fun pn F T H σ ρ d ρ' st e Q q => by
  obtain ⟨⟨c, ρ1⟩, h1, e⟩ := bind_some e
  refine ht pn F T H σ ρ c ρ1 st h1 _ fun T1 H1 st1 s1 => ?_
  cases c with
  | true => exact ha pn F T1 H1 σ ρ1 d ρ' st1 e Q fun v T2 H2 st2 s2 rv => q v T2 H2 st2 (s1.trans s2) rv
  | false => exact hb pn F T1 H1 σ ρ1 d ρ' st1 e Q fun v T2 H2 st2 s2 rv => q v T2 H2 st2 (s1.trans s2) rv
theorem swt_not (ht : SWT t p) : SWT (tNot t) (wTNot p) := fun pn F T H σ ρ c ρ' st e Q q => by
  obtain ⟨⟨c, ρ1⟩, h1, e⟩ := bind_some e
  cases e
  exact ht pn F T H σ ρ c _ st h1 _ fun T1 H1 st1 s1 => q T1 H1 st1 s1
theorem swt_and (ht : SWT t p) (hu : SWT u q) : SWT (tAnd t u) (wTAnd p q) := fun pn F T H σ ρ c ρ' st e Q k => by
  obtain ⟨⟨c, ρ1⟩, h1, e⟩ := bind_some e
  refine ht pn F T H σ ρ c ρ1 st h1 _ fun T1 H1 st1 s1 => ?_
  cases c with
  | true => exact hu pn F T1 H1 σ ρ1 _ ρ' st1 e Q fun T2 H2 st2 s2 => k T2 H2 st2 (s1.trans s2)
  | false => cases e; exact k T1 H1 st1 s1
theorem swt_or (ht : SWT t p) (hu : SWT u q) : SWT (tOr t u) (wTOr p q) := fun pn F T H σ ρ c ρ' st e Q k => by
  obtain ⟨⟨c, ρ1⟩, h1, e⟩ := bind_some e
  refine ht pn F T H σ ρ c ρ1 st h1 _ fun T1 H1 st1 s1 => ?_
  cases c with
  | true => cases e; exact k T1 H1 st1 s1
  | false => exact hu pn F T1 H1 σ ρ1 _ ρ' st1 e Q fun T2 H2 st2 s2 => k T2 H2 st2 (s1.trans s2)
theorem sw_and (ha : SW ta a) (hb : SW tb b) : SW (tAndV ta tb) (wAnd a b) := fun pn F T H σ ρ d ρ' st e Q q => by
  obtain ⟨⟨c, ρ1⟩, h1, e⟩ := bind_some e
  refine ha pn F T H σ ρ _ ρ1 st (wB_some h1) _ fun v T1 H1 st1 s1 rv => ?_
  cases rv
  refine ⟨c, rfl, ?_⟩
  cases c with
  | true => exact hb pn F T1 H1 σ ρ1 d ρ' st1 e Q fun v T2 H2 st2 s2 rv => q v T2 H2 st2 (s1.trans s2) rv
  | false => cases e; exact q _ T1 H1 st1 s1 (.bl false)
theorem sw_or (ha : SW ta a) (hb : SW tb b) : SW (tOrV ta tb) (wOr a b) := fun pn F T H σ ρ d ρ' st e Q q => by
  obtain ⟨⟨c, ρ1⟩, h1, e⟩ := bind_some e
  refine ha pn F T H σ ρ _ ρ1 st (wB_some h1) _ fun v T1 H1 st1 s1 rv => ?_
  cases rv
  refine ⟨c, rfl, ?_⟩
  cases c with
  | true => cases e; exact q _ T1 H1 st1 s1 (.bl true)
  | false => exact hb pn F T1 H1 σ ρ1 d ρ' st1 e Q fun v T2 H2 st2 s2 rv => q v T2 H2 st2 (s1.trans s2) rv
theorem sw_not (ha : SW ta a) : SW (tNotV ta) (wNot a) := fun pn F T H σ ρ d ρ' st e Q q => by
  obtain ⟨⟨c, ρ1⟩, h1, e⟩ := bind_some e
  cases e
  refine ha pn F T H σ ρ _ _ st (wB_some h1) _ fun v T1 H1 st1 s1 rv => ?_
  cases rv
  exact ⟨c, rfl, q _ T1 H1 st1 s1 (.bl _)⟩
end
/-! ### calls -/
/-- a def that leaves all as it stood -/
def spF (f : List PD → Option PD) : Sp := fun vs H Q _ => ∃ S ds d, Al S H ∧ RpAll (hid S H) vs ds ∧ f ds = some d ∧ ∀ v H2, Ex H H2 → Rp (hid S H2) v d → Q v H2
theorem se_call {f : List PD → Option PD} {ts : TA} {as : XA} (hs : SA ts as) : SE (tCall (spF f) [] E0 ts) (xCB f as) := fun ρ d h S σ H al en Q q => by
  obtain ⟨ds, h1, h⟩ := bind_some h
  exact hs ρ ds h1 S σ H al en _ fun vs H1 e1 rv => ⟨S, ds, d, al.ex e1, by rw [List.append_nil]; exact rv, h, fun v H2 e2 r2 => q v H2 (e1.trans e2) r2⟩
theorem sw_call {f : List PD → Option PD} {ts : TA} {as : XWA} (hs : SWA ts as) : SW (tCall (spF f) [] E0 ts) (wCB f as) := fun pn F T H σ ρ d ρ' st e Q q => by
  obtain ⟨⟨xs, ρ1⟩, h1, e⟩ := bind_some e
  obtain ⟨z, h3, e⟩ := bind_some e
  cases e
  exact hs pn F T H σ ρ xs _ st h1 _ fun vs T1 H1 st1 s1 rv => ⟨SF F T1, xs, d, st1.als, by rw [List.append_nil]; exact rv, h3, fun v H2 e2 r2 => q v T1 H2 (st1.ex e2) (s1.trans (Stp.ex st1.al e2)) r2⟩
/-- a def whose first argument is a list that it may write -/
def spW (g : List Cel → List PD → Option (PD × List Cel)) : Sp := fun vs H Q _ => ∃ (F : Hs) (a : Addr) (B : List Addr) (cs : List Cel) (ws : List V) (ds : List PD) (d : PD) (cs' : List Cel), vs = .ref a :: ws ∧ Al F H ∧ (∀ x ∈ a :: B, ¬ F x) ∧ (a :: B).Nodup ∧
  Own (hid (FL F (a :: B)) H) H (.ref a) cs (a :: B) ∧ RpAll (hid (FL F (a :: B)) H) ws ds ∧ g cs ds = some (d, cs') ∧
  ∀ v B' H', (∀ x, F x → H' x = H x) → Ex (hid (FL F (a :: B)) H) (hid (FL F (a :: B')) H') → (∀ x ∈ a :: B', ¬ F x) → (a :: B').Nodup → Own (hid (FL F (a :: B')) H') H' (.ref a) cs' (a :: B') → Rp (hid (FL F (a :: B')) H') v d → Q v H'
def ownAt (ρ : Env) (i : Nat) : Option (List Cel) := match ρ[i]? with
  | some (.own cs) => some cs
  | _ => none
theorem ownAt_eq {ρ : Env} {i : Nat} {cs : List Cel} (h : ownAt ρ i = some cs) : ρ[i]? = some (.own cs) := by
  unfold ownAt at h
  split at h
  · rename_i e
    cases h
    exact e
  · cases h
def wCallK (i : Nat) (g : List Cel → List PD → Option (PD × List Cel)) (as : XWA) : XW := fun ρ => (ownAt ρ i).bind fun _ => (as ρ).bind fun x => (ownAt x.2 i).bind fun cs => (g cs x.1).bind fun y => some (y.1, x.2.set i (.own y.2))
theorem sw_callK {i : Nat} {g : List Cel → List PD → Option (PD × List Cel)} {ts : TA} {as : XWA} (hs : SWA ts as) : SW (tCall (spW g) [] E0 (tCons (tVar i) ts)) (wCallK i g as) := fun pn F T H σ ρ d ρ' st e Q q => by
  obtain ⟨cs0, h0, e⟩ := bind_some e
  obtain ⟨⟨xs, ρ1⟩, h1, e⟩ := bind_some e
  obtain ⟨cs, hi, e⟩ := bind_some e
  obtain ⟨⟨z, cs'⟩, h3, e⟩ := bind_some e
  have hi : ρ1[i]? = some (.own cs) := ownAt_eq hi
  have e : some (z, ρ1.set i (.own cs')) = some (d, ρ') := e
  obtain ⟨rfl, rfl⟩ := Prod.mk.inj (Option.some.inj e)
  -- the slot holds the same address all along
  have key : ∀ (vs : List V) (T1 : Trs) (H1 : Hp), StOk pn F T1 H1 σ ρ1 → Stp F T H T1 H1 → RpAll (hid (SF F T1) H1) vs xs → ∀ a : Addr, σ[i]? = some (some (.ref a)) → spW g (.ref a :: vs) H1 Q E0 := by
    intro vs T1 H1 st1 s1 rv a ha
    obtain ⟨a', us, B, ha', hl, hc, hT⟩ := st1.at_own hi
    have ea : a' = a := by rw [ha'] at ha; cases ha; rfl
    subst ea
    obtain ⟨F1, hF1⟩ : ∃ F1 : Hs, F1 = fun x => F x ∨ ∃ j, j ≠ i ∧ x ∈ T1 j := ⟨_, rfl⟩
    have eqv : ∀ x, FL F1 (a' :: B) x ↔ SF F T1 x := fun x => by
      rw [hF1]
      constructor
      · rintro ((h | ⟨j, _, h⟩) | h)
        · exact .inl h
        · exact .inr ⟨j, h⟩
        · exact .inr ⟨i, by rw [hT]; exact h⟩
      · rintro (h | ⟨j, h⟩)
        · exact .inl (.inl h)
        · by_cases c : j = i
          · subst c; rw [hT] at h; exact .inr h
          · exact .inl (.inr ⟨j, c, h⟩)
    have eh : hid (FL F1 (a' :: B)) H1 = hid (SF F T1) H1 := hid_eq eqv
    refine ⟨F1, a', B, cs, vs, xs, z, cs', rfl, ?_, ?_, by rw [← hT]; exact st1.nd i, ⟨a', us, B, rfl, hl, by rw [eh]; exact hc, rfl⟩, by rw [eh]; exact rv, h3, fun v B' H' fr vis off nd ow rv' => ?_⟩
    · intro x hx
      rw [hF1] at hx
      exact st1.als x (hx.elim .inl fun ⟨j, _, h⟩ => .inr ⟨j, h⟩)
    · intro x hx hx2
      rw [hF1] at hx2
      have hx3 : x ∈ T1 i := by rw [hT]; exact hx
      rcases hx2 with h | ⟨j, c, h⟩
      · exact st1.off i x hx3 h
      · exact c (st1.dis j i x h hx3)
    · have eqv' : ∀ x, FL F1 (a' :: B') x ↔ SF F (setT T1 i (a' :: B')) x := fun x => by
        rw [hF1]
        constructor
        · rintro ((h | ⟨j, c, h⟩) | h)
          · exact .inl h
          · exact .inr ⟨j, by rw [setT_ne c]; exact h⟩
          · exact .inr ⟨i, by rw [setT_same]; exact h⟩
        · rintro (h | ⟨j, h⟩)
          · exact .inl (.inl h)
          · by_cases c : j = i
            · subst c; rw [setT_same] at h; exact .inr h
            · rw [setT_ne c] at h; exact .inl (.inr ⟨j, c, h⟩)
      have eh' : hid (FL F1 (a' :: B')) H' = hid (SF F (setT T1 i (a' :: B'))) H' := hid_eq eqv'
      rw [eh, eh'] at vis
      rw [eh'] at ow rv'
      have il : i < ρ1.length := (List.getElem?_eq_some_iff.mp hi).1
      refine q v (setT T1 i (a' :: B')) H' ⟨by rw [List.length_set]; exact st1.len, fun x hx => ?_, fun j x h => ?_, fun j k x h h' => ?_, fun j => ?_, fun j hj => ?_, fun j s hs => ?_, st1.pin⟩ (s1.trans ⟨fun x hx => fr x (by rw [hF1]; exact .inl hx), vis⟩) rv'
      · rw [fr x (by rw [hF1]; exact .inl hx)]
        exact st1.al x hx
      · by_cases c : j = i
        · subst c
          rw [setT_same] at h
          exact fun z => off x h (by rw [hF1]; exact .inl z)
        · rw [setT_ne c] at h
          exact st1.off j x h
      · by_cases c : j = i
        · subst c
          rw [setT_same] at h
          by_cases c2 : k = j
          · exact c2.symm
          · rw [setT_ne c2] at h'
            exact absurd (show F1 x by rw [hF1]; exact .inr ⟨k, c2, h'⟩) (off x h)
        · rw [setT_ne c] at h
          by_cases c2 : k = i
          · subst c2
            rw [setT_same] at h'
            exact absurd (show F1 x by rw [hF1]; exact .inr ⟨j, c, h⟩) (off x h')
          · rw [setT_ne c2] at h'
            exact st1.dis j k x h h'
      · by_cases c : j = i
        · subst c; rw [setT_same]; exact nd
        · rw [setT_ne c]; exact st1.nd j
      · rw [List.length_set] at hj
        rw [setT_ne (by omega)]
        exact st1.out j hj
      · by_cases c : i = j
        · subst c
          rw [List.getElem?_set_self il] at hs
          cases hs
          rw [setT_same]
          exact ⟨_, ha', _, rfl, ow⟩
        · rw [List.getElem?_set_ne c] at hs
          obtain ⟨o, h1, h2⟩ := st1.sl j s hs
          rw [setT_ne (fun z => c z.symm)]
          exact ⟨o, h1, h2.mv vis fun x hx => fr x (by rw [hF1]; exact .inr ⟨j, fun z => c z.symm, hx⟩)⟩
  obtain ⟨a, _, _, ha, _⟩ := st.at_own (ownAt_eq h0)
  refine ⟨.ref a, ha, hs pn F T H σ ρ xs ρ1 st h1 _ fun vs T1 H1 st1 s1 rv => ?_⟩
  show spW g (V.ref a :: vs ++ []) H1 Q E0
  rw [List.append_nil]
  exact key vs T1 H1 st1 s1 rv a ha
end Uv

namespace Uv
open PySem PySem.Spec PyProof.Rows L2
open Evl (Ex)
variable [kk : KK]
/-! ### what is walked -/
def Loose (H : Hp) (v : V) (x : PD) : Prop := ∃ a xs ds, v = .ref a ∧ H a = some (.tup xs) ∧ RpAll H xs ds ∧ x = .tuple ds
def Rk (b : Bool) (H : Hp) (v : V) (x : PD) : Prop := Rp H v x ∨ (b = true ∧ Loose H v x)
def Wk (b : Bool) (S : Hs) (J : It) (xs : List PD) (H : Hp) : Prop := ∀ S' H2, Ex (hid S H) (hid S' H2) → Al S' H2 → J.stop xs.length H2 ∧ ∀ i x, xs[i]? = some x → J.go i H2 ∧ ∀ v H3, J.yld i H2 v H3 → Ex H2 H3 ∧ Rk b (hid S' H3) v x
def pairsD (xs : List PD) : List PD := xs.zipIdx.map fun p => .tuple [.int (p.2 : Nat), p.1]
def zipD (xs ys : List PD) : List PD := List.zipWith (fun x y => .tuple [x, y]) xs ys
section
variable {S : Hs} {H : Hp}
theorem wk_tup {a : Addr} {o : Obj} {vs : List V} {xs : List PD} (ha : hid S H a = some (fz o vs)) (ra : RpAll (hid S H) vs xs) : Wk false S (Itt K a) xs H := fun S' H2 e2 al2 => by
  have sq : SqT K H2 a vs := .inl (.inr ⟨_, hid_le _ _ (e2 _ _ ha)⟩)
  have ra2 := ra.ex e2
  refine ⟨⟨_, sq, Nat.le_of_eq ra2.length⟩, fun i x hx => ?_⟩
  obtain ⟨v, hv, rv⟩ := ra2.get hx
  refine ⟨⟨_, v, sq, hv⟩, fun w H3 y => ?_⟩
  obtain ⟨y1, y2⟩ := y
  have e := y2 _ sq
  rw [hv] at e
  cases e
  subst y1
  exact ⟨Ex.refl _, .inl rv⟩
theorem wk_lst {a : Addr} {vs : List V} {xs : List PD} (ha : hid S H a = some (.lst vs)) (ra : RpAll (hid S H) vs xs) : Wk false S (Itl K a) xs H := fun S' H2 e2 al2 => by
  have sq : SqL K H2 a vs := .inl (.inl (hid_le _ _ (e2 _ _ ha)))
  have ra2 := ra.ex e2
  refine ⟨⟨_, sq, Nat.le_of_eq ra2.length⟩, fun i x hx => ?_⟩
  obtain ⟨v, hv, rv⟩ := ra2.get hx
  refine ⟨⟨_, v, sq, hv⟩, fun w H3 y => ?_⟩
  obtain ⟨y1, y2⟩ := y
  have e := y2 _ sq
  rw [hv] at e
  cases e
  subst y1
  exact ⟨Ex.refl _, .inl rv⟩
theorem wk_scr {a : Addr} {vs : List V} {xs : List PD} (ha : SqL K (hid S H) a vs) (ra : RpAll (hid S H) vs xs) : Wk false S (Itl K a) xs H := fun S' H2 e2 al2 => by
  have sq : SqL K H2 a vs := sqx hid_le (sqx e2 ha)
  have ra2 := ra.ex e2
  refine ⟨⟨_, sq, Nat.le_of_eq ra2.length⟩, fun i x hx => ?_⟩
  obtain ⟨v, hv, rv⟩ := ra2.get hx
  refine ⟨⟨_, v, sq, hv⟩, fun w H3 y => ?_⟩
  obtain ⟨y1, y2⟩ := y
  have e := y2 _ sq
  rw [hv] at e
  cases e
  subst y1
  exact ⟨Ex.refl _, .inl rv⟩
theorem wk_rng {lo : Int} {n : Nat} : Wk false S (Itr lo n) ((List.range n).map fun k => .int (lo + (k : Nat))) H := fun S' H2 e2 al2 => by
  refine ⟨by show n ≤ _; simp, fun i x hx => ?_⟩
  rw [List.getElem?_map] at hx
  cases qq : (List.range n)[i]? with
  | none => rw [qq] at hx; cases hx
  | some k =>
    rw [qq] at hx
    obtain ⟨hi, ek⟩ := List.getElem?_eq_some_iff.mp qq
    have ek2 : i = k := by simpa using ek
    subst ek2
    cases hx
    refine ⟨by show i < n; simpa using hi, fun v H3 y => ?_⟩
    obtain ⟨y1, y2⟩ := y
    subst y1 y2
    exact ⟨Ex.refl _, .inl (.int _)⟩
theorem pairs_get {xs : List PD} {i : Nat} {x : PD} (hx : (pairsD xs)[i]? = some x) : ∃ y, xs[i]? = some y ∧ x = .tuple [.int (i : Nat), y] := by
  unfold pairsD at hx
  rw [List.getElem?_map, List.getElem?_zipIdx] at hx
  cases q : xs[i]? with
  | none => rw [q] at hx; simp at hx
  | some y =>
    rw [q] at hx
    refine ⟨y, rfl, ?_⟩
    simp at hx
    exact hx.symm
theorem loose2 {S' : Hs} {H2 : Hp} {T : Addr} {u v : V} {x y : PD} (al : Al S' H2) (hT : H2 T = none) (ru : Rp (hid S' H2) u x) (rv : Rp (hid S' H2) v y) : Ex H2 (upd H2 T (.tup [u, v])) ∧ Rk true (hid S' (upd H2 T (.tup [u, v]))) (.ref T) (.tuple [x, y]) :=
  ⟨Ex.new hT, .inr ⟨rfl, T, _, _, rfl, new_ok al hT, .cons (ru.ex (hid_ex (Ex.new hT))) (.cons (rv.ex (hid_ex (Ex.new hT))) .nil), rfl⟩⟩
theorem wk_enumT {a : Addr} {o : Obj} {vs : List V} {xs : List PD} (ha : hid S H a = some (fz o vs)) (ra : RpAll (hid S H) vs xs) : Wk true S (Un.IteT K a) (pairsD xs) H := fun S' H2 e2 al2 => by
  have sq : SqT K H2 a vs := .inl (.inr ⟨_, hid_le _ _ (e2 _ _ ha)⟩)
  have ra2 := ra.ex e2
  refine ⟨⟨_, sq, by rw [ra2.length]; simp [pairsD]⟩, fun i x hx => ?_⟩
  obtain ⟨y, hy, rfl⟩ := pairs_get hx
  obtain ⟨v, hv, rv⟩ := ra2.get hy
  refine ⟨⟨_, v, sq, hv⟩, fun w H3 yl => ?_⟩
  obtain ⟨T, z, rfl, e2, rfl, e4⟩ := yl
  have ez := e4 _ sq
  rw [hv] at ez
  cases ez
  exact loose2 al2 e2 (.int _) rv
theorem wk_enumL {a : Addr} {vs : List V} {xs : List PD} (ha : hid S H a = some (.lst vs)) (ra : RpAll (hid S H) vs xs) : Wk true S (Ite K a) (pairsD xs) H := fun S' H2 e2 al2 => by
  have sq : SqL K H2 a vs := .inl (.inl (hid_le _ _ (e2 _ _ ha)))
  have ra2 := ra.ex e2
  refine ⟨⟨_, sq, by rw [ra2.length]; simp [pairsD]⟩, fun i x hx => ?_⟩
  obtain ⟨y, hy, rfl⟩ := pairs_get hx
  obtain ⟨v, hv, rv⟩ := ra2.get hy
  refine ⟨⟨_, v, sq, hv⟩, fun w H3 yl => ?_⟩
  obtain ⟨T, z, rfl, e2, rfl, e4⟩ := yl
  have ez := e4 _ sq
  rw [hv] at ez
  cases ez
  exact loose2 al2 e2 (.int _) rv
theorem zip_get {xs ys : List PD} {i : Nat} {x : PD} (hx : (zipD xs ys)[i]? = some x) : ∃ y z, xs[i]? = some y ∧ ys[i]? = some z ∧ x = .tuple [y, z] := by
  unfold zipD at hx
  rw [List.getElem?_zipWith] at hx
  cases q1 : xs[i]? with
  | none => rw [q1] at hx; simp at hx
  | some y =>
    cases q2 : ys[i]? with
    | none => rw [q1, q2] at hx; simp at hx
    | some z =>
      rw [q1, q2] at hx
      simp at hx
      exact ⟨y, z, rfl, rfl, hx.symm⟩
theorem wk_zipT {a b : Addr} {o o' : Obj} {vs us : List V} {xs ys : List PD} (ha : hid S H a = some (fz o vs)) (ra : RpAll (hid S H) vs xs) (hb : hid S H b = some (fz o' us)) (rb : RpAll (hid S H) us ys) : Wk true S (RZ.ItzT K a b) (zipD xs ys) H := fun S' H2 e2 al2 => by
  have sq : SqT K H2 a vs := .inl (.inr ⟨_, hid_le _ _ (e2 _ _ ha)⟩)
  have sq2 : SqT K H2 b us := .inl (.inr ⟨_, hid_le _ _ (e2 _ _ hb)⟩)
  have ra2 := ra.ex e2
  have rb2 := rb.ex e2
  refine ⟨⟨_, _, sq, sq2, by rw [ra2.length, rb2.length]; unfold zipD; rw [List.length_zipWith]; omega⟩, fun i x hx => ?_⟩
  obtain ⟨y, z, hy, hz, rfl⟩ := zip_get hx
  obtain ⟨v, hv, rv⟩ := ra2.get hy
  obtain ⟨u, hu, ru⟩ := rb2.get hz
  refine ⟨⟨_, _, v, u, sq, sq2, hv, hu⟩, fun w H3 yl => ?_⟩
  obtain ⟨T, z1, z2, rfl, e2, rfl, e4, e5⟩ := yl
  have ez := e4 _ sq
  rw [hv] at ez
  cases ez
  have ez2 := e5 _ sq2
  rw [hu] at ez2
  cases ez2
  exact loose2 al2 e2 rv ru
theorem wk_zipL {a b : Addr} {vs us : List V} {xs ys : List PD} (ha : hid S H a = some (.lst vs)) (ra : RpAll (hid S H) vs xs) (hb : hid S H b = some (.lst us)) (rb : RpAll (hid S H) us ys) : Wk true S (Itz K a b) (zipD xs ys) H := fun S' H2 e2 al2 => by
  have sq : SqL K H2 a vs := .inl (.inl (hid_le _ _ (e2 _ _ ha)))
  have sq2 : SqL K H2 b us := .inl (.inl (hid_le _ _ (e2 _ _ hb)))
  have ra2 := ra.ex e2
  have rb2 := rb.ex e2
  refine ⟨⟨_, _, sq, sq2, by rw [ra2.length, rb2.length]; unfold zipD; rw [List.length_zipWith]; omega⟩, fun i x hx => ?_⟩
  obtain ⟨y, z, hy, hz, rfl⟩ := zip_get hx
  obtain ⟨v, hv, rv⟩ := ra2.get hy
  obtain ⟨u, hu, ru⟩ := rb2.get hz
  refine ⟨⟨_, _, v, u, sq, sq2, hv, hu⟩, fun w H3 yl => ?_⟩
  obtain ⟨T, z1, z2, rfl, e2, rfl, e4, e5⟩ := yl
  have ez := e4 _ sq
  rw [hv] at ez
  cases ez
  have ez2 := e5 _ sq2
  rw [hu] at ez2
  cases ez2
  exact loose2 al2 e2 rv ru
end
/-! ### sources, from an expression or from arguments -/
def iSeq (K : PySem.W.Frag) (te : TE) : TI := fun σ H R => iList K te σ H R ∨ iTup K te σ H R
def iEnumU (K : PySem.W.Frag) (ta : TA) : TI := fun σ H R => iEnum K ta σ H R ∨ Un.iEnumT K ta σ H R
def seqP : PD → Option (List PD)
  | .list ds => some ds
  | .tuple ds => some ds
  | .dict [(.none, .list ds)] => some ds
  | _ => none
def rngP : List PD → Option (List PD)
  | [.int n] => if -(2 ^ 62) ≤ n ∧ n < 2 ^ 62 then some ((List.range n.toNat).map fun k => .int (0 + (k : Nat))) else none
  | _ => none
def rng2P : List PD → Option (List PD)
  | [.int i, .int j] => if -(2 ^ 62) ≤ i ∧ i < 2 ^ 62 ∧ -(2 ^ 62) ≤ j ∧ j < 2 ^ 62 then some ((List.range (j - i).toNat).map fun k => .int (i + (k : Nat))) else none
  | _ => none
def enumP : List PD → Option (List PD)
  | [.list ds] => some (pairsD ds)
  | [.tuple ds] => some (pairsD ds)
  | _ => none
def zipP : List PD → Option (List PD)
  | [.list xs, .list ys] => some (zipD xs ys)
  | [.tuple xs, .tuple ys] => some (zipD xs ys)
  | _ => none
abbrev XI := VE → Option (List PD)
def Es (b : Bool) (wi : TI) (ρ : VE) (xs : List PD) : Prop := ∀ S σ H, Al S H → En (hid S H) σ ρ → ∀ R : It → Hp → Prop, (∀ J H1, Ex H H1 → Wk b S J xs H1 → R J H1) → wi σ H R
def SI (b : Bool) (wi : TI) (x : XI) : Prop := ∀ ρ xs, x ρ = some xs → Es b wi ρ xs
abbrev XWI := Env → Option (List PD × Env)
def SWI (b : Bool) (wi : TI) (w : XWI) : Prop := ∀ pn F T H σ ρ xs ρ', StOk pn F T H σ ρ → w ρ = some (xs, ρ') → ∀ R : It → Hp → Prop, (∀ J T' H', StOk pn F T' H' σ ρ' → Stp F T H T' H' → Wk b (SF F T') J xs H' → R J H') → wi σ H R
def xiE (a : XE) : XI := fun ρ => (a ρ).bind seqP
def xiA (f : List PD → Option (List PD)) (as : XA) : XI := fun ρ => (as ρ).bind f
def wiE (a : XW) : XWI := fun ρ => (a ρ).bind fun x => (seqP x.1).bind fun xs => some (xs, x.2)
def wiA (f : List PD → Option (List PD)) (as : XWA) : XWI := fun ρ => (as ρ).bind fun x => (f x.1).bind fun xs => some (xs, x.2)
def wiM (x : XI) : XWI := fun ρ => (x (mk ρ)).bind fun xs => some (xs, ρ)
section
variable {te : TE} {ts : TA}
/-- the arguments' readings at work -/
def Ai (b : Bool) (wi : TA → TI) (f : List PD → Option (List PD)) : Prop := ∀ (ts : TA) (S : Hs) (σ : L2.St) (H : Hp) (R : It → Hp → Prop) (ds xs : List PD), f ds = some xs →
  (∀ Q : List V → Hp → Prop, (∀ vs H1, Al S H1 → RpAll (hid S H1) vs ds → (∀ J, Wk b S J xs H1 → R J H1) → Q vs H1) → ts σ H Q) → wi ts σ H R
theorem core_rng {S : Hs} {vs : List V} {H1 : Hp} {ds xs : List PD} (h : rngP ds = some xs) (rv : RpAll (hid S H1) vs ds) : ∃ j : Int, vs = [.int j] ∧ -(2 ^ 62) ≤ j ∧ j < 2 ^ 62 ∧ Wk false S (Itr 0 j.toNat) xs H1 := by
  unfold rngP at h
  split at h
  · rename_i n
    by_cases c : -(2 ^ 62) ≤ n ∧ n < 2 ^ 62
    · rw [if_pos c] at h
      cases h
      cases rv with
      | cons h1 t =>
        cases t
        cases h1
        exact ⟨n, rfl, c.1, c.2, wk_rng⟩
    · rw [if_neg c] at h; cases h
  · cases h
theorem core_rng2 {S : Hs} {vs : List V} {H1 : Hp} {ds xs : List PD} (h : rng2P ds = some xs) (rv : RpAll (hid S H1) vs ds) : ∃ i j : Int, vs = [.int i, .int j] ∧ (-(2 ^ 62) ≤ i ∧ i < 2 ^ 62 ∧ -(2 ^ 62) ≤ j ∧ j < 2 ^ 62) ∧ Wk false S (Itr i (j - i).toNat) xs H1 := by
  unfold rng2P at h
  split at h
  · rename_i n m
    by_cases c : -(2 ^ 62) ≤ n ∧ n < 2 ^ 62 ∧ -(2 ^ 62) ≤ m ∧ m < 2 ^ 62
    · rw [if_pos c] at h
      cases h
      cases rv with
      | cons h1 t =>
        cases t with
        | cons h2 t =>
          cases t
          cases h1; cases h2
          exact ⟨n, m, rfl, c, wk_rng⟩
    · rw [if_neg c] at h; cases h
  · cases h
theorem core_enum {S : Hs} {vs : List V} {H1 : Hp} {ds xs : List PD} (h : enumP ds = some xs) (rv : RpAll (hid S H1) vs ds) : (∃ a us, vs = [.ref a] ∧ SqL K H1 a us ∧ Wk true S (Ite K a) xs H1) ∨ ∃ a us, vs = [.ref a] ∧ SqT K H1 a us ∧ Wk true S (Un.IteT K a) xs H1 := by
  unfold enumP at h
  split at h
  · cases h
    cases rv with
    | cons h1 t =>
      cases t
      cases h1 with
      | lst ha ra => exact .inl ⟨_, _, rfl, .inl (.inl (hid_le _ _ ha)), wk_enumL ha ra⟩
  · cases h
    cases rv with
    | cons h1 t =>
      cases t
      cases h1 with
      | tup ha _ ra => exact .inr ⟨_, _, rfl, .inl (.inr ⟨_, hid_le _ _ ha⟩), wk_enumT ha ra⟩
  · cases h
theorem core_zip {S : Hs} {vs : List V} {H1 : Hp} {ds xs : List PD} {R : It → Hp → Prop} (h : zipP ds = some xs) (rv : RpAll (hid S H1) vs ds) (q : ∀ J, Wk true S J xs H1 → R J H1) : ∃ a b us ws, vs = [.ref a, .ref b] ∧ ((SqL K H1 a us ∧ SqL K H1 b ws ∧ R (Itz K a b) H1) ∨ (SqT K H1 a us ∧ SqT K H1 b ws ∧ R (RZ.ItzT K a b) H1)) := by
  unfold zipP at h
  split at h
  · cases h
    cases rv with
    | cons h1 t =>
      cases t with
      | cons h2 t =>
        cases t
        cases h1 with
        | lst ha ra =>
          cases h2 with
          | lst hb rb => exact ⟨_, _, _, _, rfl, .inl ⟨.inl (.inl (hid_le _ _ ha)), .inl (.inl (hid_le _ _ hb)), q _ (wk_zipL ha ra hb rb)⟩⟩
  · cases h
    cases rv with
    | cons h1 t =>
      cases t with
      | cons h2 t =>
        cases t
        cases h1 with
        | tup ha _ ra =>
          cases h2 with
          | tup hb _ rb => exact ⟨_, _, _, _, rfl, .inr ⟨.inl (.inr ⟨_, hid_le _ _ ha⟩), .inl (.inr ⟨_, hid_le _ _ hb⟩), q _ (wk_zipT ha ra hb rb)⟩⟩
  · cases h
theorem si_seq {a : XE} (ha : SE te a) : SI false (iSeq K te) (xiE a) := fun ρ xs h S σ H al en R q => by
  obtain ⟨d, h1, h⟩ := bind_some h
  cases d with
  | list ds =>
    cases h
    refine .inl (ha ρ _ h1 S σ H al en _ fun v H1 e1 rv => ?_)
    cases rv with
    | lst hx ra => exact ⟨_, rfl, ⟨_, .inl (.inl (hid_le _ _ hx))⟩, q _ H1 e1 (wk_lst hx ra)⟩
  | tuple ds =>
    cases h
    refine .inr (ha ρ _ h1 S σ H al en _ fun v H1 e1 rv => ?_)
    cases rv with
    | tup hx _ ra => exact ⟨_, rfl, ⟨_, .inl (.inr ⟨_, hid_le _ _ hx⟩)⟩, q _ H1 e1 (wk_tup hx ra)⟩
  | dict kvs =>
    refine .inl (ha ρ _ h1 S σ H al en _ fun v H1 e1 rv => ?_)
    cases rv with
    | dct _ _ hp _ => rcases zip_str hp with e | ⟨k, d, r, e⟩ <;> (subst e; cases h)
    | scr hs ra => cases h; exact ⟨_, rfl, ⟨_, sqx hid_le hs⟩, q _ H1 e1 (wk_scr hs ra)⟩
  | _ => cases h
theorem si_rng {as : XA} (hs : SA ts as) : SI false (iRng1 ts) (xiA rngP as) := fun ρ xs h S σ H al en R q => by
  obtain ⟨ds, h1, h⟩ := bind_some h
  refine hs ρ ds h1 S σ H al en _ fun vs H1 e1 rv => ?_
  obtain ⟨j, h2, h3, h4, w⟩ := core_rng h rv
  exact ⟨j, h2, h3, h4, q _ H1 e1 w⟩
theorem si_rng2 {as : XA} (hs : SA ts as) : SI false (iRng2 ts) (xiA rng2P as) := fun ρ xs h S σ H al en R q => by
  obtain ⟨ds, h1, h⟩ := bind_some h
  refine hs ρ ds h1 S σ H al en _ fun vs H1 e1 rv => ?_
  obtain ⟨i, j, h2, h3, w⟩ := core_rng2 h rv
  exact ⟨i, j, h2, h3, q _ H1 e1 w⟩
theorem enum_l {ds xs : List PD} (h : enumP ds = some xs) : (∃ l, ds = [.list l]) ∨ ∃ l, ds = [.tuple l] := by
  unfold enumP at h
  split at h
  · exact .inl ⟨_, rfl⟩
  · exact .inr ⟨_, rfl⟩
  · cases h
theorem si_enum {as : XA} (hs : SA ts as) : SI true (iEnumU K ts) (xiA enumP as) := fun ρ xs h S σ H al en R q => by
  obtain ⟨ds, h1, h⟩ := bind_some h
  rcases enum_l h with ⟨l, rfl⟩ | ⟨l, rfl⟩
  · refine .inl (hs ρ _ h1 S σ H al en _ fun vs H1 e1 rv => ?_)
    cases h
    cases rv with
    | cons g1 t =>
      cases t
      cases g1 with
      | lst ha ra => exact ⟨_, _, rfl, .inl (.inl (hid_le _ _ ha)), q _ H1 e1 (wk_enumL ha ra)⟩
  · refine .inr (hs ρ _ h1 S σ H al en _ fun vs H1 e1 rv => ?_)
    cases h
    cases rv with
    | cons g1 t =>
      cases t
      cases g1 with
      | tup ha _ ra => exact ⟨_, _, rfl, .inl (.inr ⟨_, hid_le _ _ ha⟩), q _ H1 e1 (wk_enumT ha ra)⟩
theorem si_zip {as : XA} (hs : SA ts as) : SI true (RZ.iZipA K ts) (xiA zipP as) := fun ρ xs h S σ H al en R q => by
  obtain ⟨ds, h1, h⟩ := bind_some h
  exact hs ρ ds h1 S σ H al en _ fun vs H1 e1 rv => core_zip h rv fun J w => q J H1 e1 w
theorem swi_seq {a : XW} (ha : SW te a) : SWI false (iSeq K te) (wiE a) := fun pn F T H σ ρ xs ρ' st h R q => by
  obtain ⟨⟨d, ρ1⟩, h1, h⟩ := bind_some h
  obtain ⟨ys, h2, h⟩ := bind_some h
  cases h
  cases d with
  | list ds =>
    cases h2
    refine .inl (ha pn F T H σ ρ _ _ st h1 _ fun v T1 H1 st1 s1 rv => ?_)
    cases rv with
    | lst hx ra => exact ⟨_, rfl, ⟨_, .inl (.inl (hid_le _ _ hx))⟩, q _ T1 H1 st1 s1 (wk_lst hx ra)⟩
  | tuple ds =>
    cases h2
    refine .inr (ha pn F T H σ ρ _ _ st h1 _ fun v T1 H1 st1 s1 rv => ?_)
    cases rv with
    | tup hx _ ra => exact ⟨_, rfl, ⟨_, .inl (.inr ⟨_, hid_le _ _ hx⟩)⟩, q _ T1 H1 st1 s1 (wk_tup hx ra)⟩
  | dict kvs =>
    refine .inl (ha pn F T H σ ρ _ _ st h1 _ fun v T1 H1 st1 s1 rv => ?_)
    cases rv with
    | dct _ _ hp _ => rcases zip_str hp with e | ⟨k, d, r, e⟩ <;> (subst e; cases h2)
    | scr hs ra => cases h2; exact ⟨_, rfl, ⟨_, sqx hid_le hs⟩, q _ T1 H1 st1 s1 (wk_scr hs ra)⟩
  | _ => cases h2
theorem swi_rng {as : XWA} (hs : SWA ts as) : SWI false (iRng1 ts) (wiA rngP as) := fun pn F T H σ ρ xs ρ' st h R q => by
  obtain ⟨⟨ds, ρ1⟩, h1, h⟩ := bind_some h
  obtain ⟨ys, h2, h⟩ := bind_some h
  cases h
  refine hs pn F T H σ ρ ds _ st h1 _ fun vs T1 H1 st1 s1 rv => ?_
  obtain ⟨j, h2, h3, h4, w⟩ := core_rng h2 rv
  exact ⟨j, h2, h3, h4, q _ T1 H1 st1 s1 w⟩
theorem swi_rng2 {as : XWA} (hs : SWA ts as) : SWI false (iRng2 ts) (wiA rng2P as) := fun pn F T H σ ρ xs ρ' st h R q => by
  obtain ⟨⟨ds, ρ1⟩, h1, h⟩ := bind_some h
  obtain ⟨ys, h2, h⟩ := bind_some h
  cases h
  refine hs pn F T H σ ρ ds _ st h1 _ fun vs T1 H1 st1 s1 rv => ?_
  obtain ⟨i, j, h2, h3, w⟩ := core_rng2 h2 rv
  exact ⟨i, j, h2, h3, q _ T1 H1 st1 s1 w⟩
theorem swi_enum {as : XWA} (hs : SWA ts as) : SWI true (iEnumU K ts) (wiA enumP as) := fun pn F T H σ ρ xs ρ' st h R q => by
  obtain ⟨⟨ds, ρ1⟩, h1, h⟩ := bind_some h
  obtain ⟨ys, h2, h⟩ := bind_some h
  cases h
  rcases enum_l h2 with ⟨l, e⟩ | ⟨l, e⟩ <;> (have e : ds = _ := e; subst e)
  · refine .inl (hs pn F T H σ ρ _ _ st h1 _ fun vs T1 H1 st1 s1 rv => ?_)
    cases h2
    cases rv with
    | cons g1 t =>
      cases t
      cases g1 with
      | lst ha ra => exact ⟨_, _, rfl, .inl (.inl (hid_le _ _ ha)), q _ T1 H1 st1 s1 (wk_enumL ha ra)⟩
  · refine .inr (hs pn F T H σ ρ _ _ st h1 _ fun vs T1 H1 st1 s1 rv => ?_)
    cases h2
    cases rv with
    | cons g1 t =>
      cases t
      cases g1 with
      | tup ha _ ra => exact ⟨_, _, rfl, .inl (.inr ⟨_, hid_le _ _ ha⟩), q _ T1 H1 st1 s1 (wk_enumT ha ra)⟩
theorem swi_zip {as : XWA} (hs : SWA ts as) : SWI true (RZ.iZipA K ts) (wiA zipP as) := fun pn F T H σ ρ xs ρ' st h R q => by
  obtain ⟨⟨ds, ρ1⟩, h1, h⟩ := bind_some h
  obtain ⟨ys, h2, h⟩ := bind_some h
  cases h
  exact hs pn F T H σ ρ ds _ st h1 _ fun vs T1 H1 st1 s1 rv => core_zip h2 rv fun J w => q J T1 H1 st1 s1 w
end
end Uv

namespace Uv
open PySem PySem.Spec PyProof.Rows L2
open Evl (Ex)
variable [kk : KK]
/-! ### targets -/
def Off (vs : List Nat) (σ σ' : L2.St) : Prop := σ'.length = σ.length ∧ ∀ (i : Nat), i ∉ vs → σ'[i]? = σ[i]?
theorem Off.refl {vs : List Nat} {σ : L2.St} : Off vs σ σ := ⟨rfl, fun _ _ => rfl⟩
theorem Off.name {i : Nat} {σ : L2.St} {o : Option V} : Off [i] σ (σ.set i o) := ⟨List.length_set, fun j hj => List.getElem?_set_ne fun z => hj (by rw [z]; exact List.mem_cons_self ..)⟩
theorem Off.trans {vs ws : List Nat} {σ σ1 σ2 : L2.St} (a : Off vs σ σ1) (b : Off ws σ1 σ2) : Off (vs ++ ws) σ σ2 := ⟨b.1.trans a.1, fun i hi => (b.2 i fun z => hi (List.mem_append_right _ z)).trans (a.2 i fun z => hi (List.mem_append_left _ z))⟩
def gTU (K : PySem.W.Frag) (n : Nat) (t : TGs) : TG := fun v σ H Q => gTup K n t v σ H Q ∨ gUnl K n t v σ H Q
theorem PG.or {X : Cx} {e : Expr} {t u : TG} (h : PG X e t) (h' : PG X e u) : PG X e (fun v σ H Q => t v σ H Q ∨ u v σ H Q) := ⟨fun pins s σ H v w Q I r q => q.elim (h.run pins s σ H v w Q I r) (h'.run pins s σ H v w Q I r)⟩
abbrev XGV := PD → VE → Option VE
abbrev XGVs := List PD → VE → Option VE
def gvName (i : Nat) : XGV := fun x ρ => some (ρ.set i (some x))
def gvNil : XGVs := fun xs ρ => match xs with
  | [] => some ρ
  | _ :: _ => none
def gvCons (g : XGV) (gs : XGVs) : XGVs := fun xs ρ => match xs with
  | x :: r => (g x ρ).bind fun ρ1 => gs r ρ1
  | [] => none
def gvTup (n : Nat) (gs : XGVs) : XGV := fun x ρ => (seqP x).bind fun ds => if ds.length = n then gs ds ρ else none
def SGV (b : Bool) (g : TG) (xg : XGV) (vs : List Nat) : Prop := ∀ x ρ ρ', xg x ρ = some ρ' → ∀ S σ H v, En (hid S H) σ ρ → Rk b (hid S H) v x → ∀ Q : L2.St → Hp → Prop, (∀ σ', En (hid S H) σ' ρ' → Off vs σ σ' → Q σ' H) → g v σ H Q
def SGVs (gs : TGs) (xg : XGVs) (vs : List Nat) : Prop := ∀ xs ρ ρ', xg xs ρ = some ρ' → ∀ S σ H ws, En (hid S H) σ ρ → RpAll (hid S H) ws xs → ∀ Q : L2.St → Hp → Prop, (∀ σ', En (hid S H) σ' ρ' → Off vs σ σ' → Q σ' H) → gs ws σ H Q
abbrev XG := PD → Env → Option Env
abbrev XGs := List PD → Env → Option Env
def gName' (i : Nat) : XG := fun x ρ => some (ρ.set i (.dat x))
def gNil' : XGs := fun xs ρ => match xs with
  | [] => some ρ
  | _ :: _ => none
def gCons' (g : XG) (gs : XGs) : XGs := fun xs ρ => match xs with
  | x :: r => (g x ρ).bind fun ρ1 => gs r ρ1
  | [] => none
def gTup' (n : Nat) (gs : XGs) : XG := fun x ρ => (seqP x).bind fun ds => if ds.length = n then gs ds ρ else none
def SG (b : Bool) (g : TG) (xg : XG) (vs : List Nat) : Prop := ∀ pn F T H σ v x ρ ρ', StOk pn F T H σ ρ → xg x ρ = some ρ' → Rk b (hid (SF F T) H) v x → ∀ Q : L2.St → Hp → Prop, (∀ σ' T', StOk pn F T' H σ' ρ' → Stp F T H T' H → Off vs σ σ' → Q σ' H) → g v σ H Q
def SGs (gs : TGs) (xg : XGs) (vs : List Nat) : Prop := ∀ pn F T H σ ws xs ρ ρ', StOk pn F T H σ ρ → xg xs ρ = some ρ' → RpAll (hid (SF F T) H) ws xs → ∀ Q : L2.St → Hp → Prop, (∀ σ' T', StOk pn F T' H σ' ρ' → Stp F T H T' H → Off vs σ σ' → Q σ' H) → gs ws σ H Q
section
variable {vs ws : List Nat}
theorem sgv_name {i : Nat} : SGV false (gName i) (gvName i) [i] := fun x ρ ρ' h S σ H v en r Q q => by
  cases h
  rcases r with r | ⟨z, _⟩
  · exact q _ (en.set i r) Off.name
  · cases z
theorem sgv_nil : SGVs gNil gvNil [] := fun xs ρ ρ' h S σ H us en r Q q => by
  cases r with
  | nil => cases h; exact ⟨rfl, q σ en Off.refl⟩
  | cons _ _ => cases h
theorem sgv_cons {g : TG} {gs : TGs} {xg : XGV} {xgs : XGVs} (hg : SGV false g xg vs) (hs : SGVs gs xgs ws) : SGVs (gCons g gs) (gvCons xg xgs) (vs ++ ws) := fun xs ρ ρ' h S σ H us en r Q q => by
  cases r with
  | nil => cases h
  | cons a b =>
    obtain ⟨ρ1, h1, h2⟩ := bind_some (show (xg _ ρ).bind _ = some ρ' from h)
    exact ⟨_, _, rfl, hg _ ρ ρ1 h1 S σ H _ en (.inl a) _ fun σ1 en1 f1 => hs _ ρ1 ρ' h2 S σ1 H _ en1 b Q fun σ2 en2 f2 => q σ2 en2 (f1.trans f2)⟩
theorem seq_read {b : Bool} {n : Nat} {H G : Hp} {v : V} {x : PD} {ds : List PD} (e : Ex G H) (hx : seqP x = some ds) (hn : ds.length = n) (r : Rk b G v x) : ∃ a us, v = .ref a ∧ (SqT K H a us ∨ SqL K H a us) ∧ us.length = n ∧ RpAll G us ds := by
  rcases r with r | ⟨_, a, us, es, rfl, ha, ra, rfl⟩
  · cases r with
    | lst ha ra => cases hx; exact ⟨_, _, rfl, .inr (.inl (.inl (e _ _ ha))), by rw [ra.length, hn], ra⟩
    | tup ha _ ra => cases hx; exact ⟨_, _, rfl, .inl (.inl (.inr ⟨_, e _ _ ha⟩)), by rw [ra.length, hn], ra⟩
    | scr hs ra => cases hx; exact ⟨_, _, rfl, .inr (sqx e hs), by rw [ra.length, hn], ra⟩
    | dct _ _ hp _ => rcases zip_str hp with e | ⟨k, d, r, e⟩ <;> (subst e; cases hx)
    | _ => cases hx
  · cases hx
    exact ⟨a, us, rfl, .inl (.inl (.inl (e _ _ ha))), by rw [ra.length, hn], ra⟩
theorem sgv_tup {b : Bool} {n : Nat} {gs : TGs} {xgs : XGVs} (hs : SGVs gs xgs vs) : SGV b (gTU K n gs) (gvTup n xgs) vs := fun x ρ ρ' h S σ H v en r Q q => by
  obtain ⟨ds, h1, h⟩ := bind_some h
  by_cases c : ds.length = n
  · rw [if_pos c] at h
    obtain ⟨a, us, rfl, sq, hl, ra⟩ := seq_read (hid_le (S := S)) h1 c r
    rcases sq with sq | sq
    · exact .inl ⟨a, us, rfl, sq, hl, hs ds ρ ρ' h S σ H us en ra Q q⟩
    · exact .inr ⟨a, us, rfl, sq, hl, hs ds ρ ρ' h S σ H us en ra Q q⟩
  · rw [if_neg c] at h; cases h
theorem sg_name {i : Nat} (hi : i ≠ 0) : SG false (gName i) (gName' i) [i] := fun pn F T H σ v x ρ ρ' st h r Q q => by
  cases h
  rcases r with r | ⟨z, _⟩
  · obtain ⟨st', s⟩ := st.set hi r
    exact q _ _ st' s Off.name
  · cases z
theorem sg_nil : SGs gNil gNil' [] := fun pn F T H σ us xs ρ ρ' st h r Q q => by
  cases r with
  | nil => cases h; exact ⟨rfl, q σ T st Stp.refl Off.refl⟩
  | cons _ _ => cases h
theorem sg_cons {g : TG} {gs : TGs} {xg : XG} {xgs : XGs} (hg : SG false g xg vs) (hs : SGs gs xgs ws) : SGs (gCons g gs) (gCons' xg xgs) (vs ++ ws) := fun pn F T H σ us xs ρ ρ' st h r Q q => by
  cases r with
  | nil => cases h
  | cons a b =>
    obtain ⟨ρ1, h1, h2⟩ := bind_some (show (xg _ ρ).bind _ = some ρ' from h)
    exact ⟨_, _, rfl, hg pn F T H σ _ _ ρ ρ1 st h1 (.inl a) _ fun σ1 T1 st1 s1 f1 => hs pn F T1 H σ1 _ _ ρ1 ρ' st1 h2 (b.ex s1.vis) Q fun σ2 T2 st2 s2 f2 => q σ2 T2 st2 (s1.trans s2) (f1.trans f2)⟩
theorem sg_tup {b : Bool} {n : Nat} {gs : TGs} {xgs : XGs} (hs : SGs gs xgs vs) : SG b (gTU K n gs) (gTup' n xgs) vs := fun pn F T H σ v x ρ ρ' st h r Q q => by
  obtain ⟨ds, h1, h⟩ := bind_some h
  by_cases c : ds.length = n
  · rw [if_pos c] at h
    obtain ⟨a, us, rfl, sq, hl, ra⟩ := seq_read (hid_le (S := SF F T)) h1 c r
    rcases sq with sq | sq
    · exact .inl ⟨a, us, rfl, sq, hl, hs pn F T H σ us ds ρ ρ' st h ra Q q⟩
    · exact .inr ⟨a, us, rfl, sq, hl, hs pn F T H σ us ds ρ ρ' st h ra Q q⟩
  · rw [if_neg c] at h; cases h
end
/-! ### comprehensions, pure -/
def clear (ρ : VE) : List Nat → VE
  | [] => ρ
  | v :: vs => (clear ρ vs).set v none
theorem clear_en {H : Hp} {σ : L2.St} {ρ : VE} (h : En H σ ρ) : ∀ vs : List Nat, En H (wipe σ vs) (clear ρ vs)
  | [] => h
  | v :: vs => (clear_en h vs).clear v none
theorem wipe_get {σ : L2.St} {i : Nat} : ∀ {vs : List Nat}, i ∉ vs → (wipe σ vs)[i]? = σ[i]?
  | [], _ => rfl
  | v :: vs, h => by
    unfold wipe
    rw [List.getElem?_set_ne (fun z => h (by rw [← z]; exact List.mem_cons_self ..))]
    exact wipe_get fun z => h (List.mem_cons_of_mem _ z)
theorem wipe_at {σ : L2.St} {i : Nat} : ∀ {vs : List Nat}, i ∈ vs → i < σ.length → (wipe σ vs)[i]? = some none
  | v :: vs, h, hl => by
    unfold wipe
    by_cases c : v = i
    · subst c
      exact List.getElem?_set_self (by rw [wipe_length]; exact hl)
    · rw [List.getElem?_set_ne c]
      rcases List.mem_cons.mp h with z | z
      · exact absurd z.symm c
      · exact wipe_at z hl
theorem wipe_eq {σ τ : L2.St} {vs : List Nat} (hl : σ.length = τ.length) (h : ∀ i, i ∉ vs → σ[i]? = τ[i]?) : wipe σ vs = wipe τ vs := by
  apply List.ext_getElem?
  intro i
  by_cases c : i ∈ vs
  · by_cases b : i < σ.length
    · rw [wipe_at c b, wipe_at c (by omega)]
    · rw [List.getElem?_eq_none (by rw [wipe_length]; omega), List.getElem?_eq_none (by rw [wipe_length]; omega)]
  · rw [wipe_get c, wipe_get c]
    exact h i c
theorem wipe_off {vs : List Nat} {σ τ : L2.St} {us : List Nat} (f : Off us (wipe σ vs) τ) (hu : ∀ i ∈ us, i ∈ vs) : wipe τ vs = wipe σ vs := by
  have ew : wipe (wipe σ vs) vs = wipe σ vs := wipe_eq (wipe_length σ vs) fun j hj => wipe_get hj
  rw [← ew]
  exact wipe_eq f.1 fun j hj => f.2 j fun z => hj (hu j z)
def lcGo (g : XGV) (t : XT) (e : XE) (ρ : VE) : List PD → Option (List PD)
  | [] => some []
  | x :: xs => (g x ρ).bind fun ρ1 => (t ρ1).bind fun b => if b = true then (e ρ1).bind fun d => (lcGo g t e ρ xs).bind fun ds => some (d :: ds) else lcGo g t e ρ xs
def xLc (src : XI) (g : XGV) (t : XT) (e : XE) (vs : List Nat) : XE := fun ρ => (src ρ).bind fun xs => if xs.length ≤ 40000 then (lcGo g t e (clear ρ vs) xs).bind fun ds => some (.list ds) else none
/-- a list that is new -/
def FrL (te : TE) (ρ : VE) (ds : List PD) : Prop := ∀ S σ H, Al S H → En (hid S H) σ ρ → ∀ Q : VK, (∀ p vs H2, Ex H H2 → H p = none → H2 p = some (.lst vs) → RpAll (hid (fun x => x = p ∨ S x) H2) vs ds → Q (.ref p) H2) → te σ H Q
def SEF (te : TE) (x : XE) : Prop := ∀ ρ d, x ρ = some d → ∃ ds, d = .list ds ∧ FrL te ρ ds
theorem SEF.se {te : TE} {x : XE} (h : SEF te x) : SE te x := fun ρ d e S σ H al en Q q => by
  obtain ⟨ds, rfl, f⟩ := h ρ d e
  exact f S σ H al en Q fun p vs H2 e2 hp h2 ra => q _ H2 e2 (.lst (by rw [hid_out (al.new hp)]; exact h2) (ra.ex (hid_sub fun x hx => .inr hx)))
section
theorem lc_step {g : XGV} {t : XT} {e : XE} {ρ : VE} {x : PD} {xs ds : List PD} (h : lcGo g t e ρ (x :: xs) = some ds) : ∃ ρ1 b, g x ρ = some ρ1 ∧ t ρ1 = some b ∧ ((b = true ∧ ∃ d ds', e ρ1 = some d ∧ lcGo g t e ρ xs = some ds' ∧ ds = d :: ds') ∨ (b = false ∧ lcGo g t e ρ xs = some ds)) := by
  obtain ⟨ρ1, h1, h⟩ := bind_some (show (g x ρ).bind _ = some ds from h)
  obtain ⟨b, h2, h⟩ := bind_some h
  refine ⟨ρ1, b, h1, h2, ?_⟩
  cases b with
  | true =>
    obtain ⟨d, h3, h⟩ := bind_some (show (e ρ1).bind _ = some ds from h)
    obtain ⟨ds', h4, h⟩ := bind_some h
    cases h
    exact .inl ⟨rfl, d, ds', h3, h4, rfl⟩
  | false => exact .inr ⟨rfl, h⟩
theorem sef_lc {b : Bool} {wi : TI} {g : TG} {tt : TT} {te : TE} {vs us : List Nat} {src : XI} {xg : XGV} {t : XT} {e : XE} (hs : SI b wi src) (hg : SGV b g xg us) (hu : ∀ i ∈ us, i ∈ vs) (ht : ST tt t) (he : SE te e) : SEF (tLc wi g tt te vs) (xLc src xg t e vs) := fun ρ d h => by
  obtain ⟨xs, h1, h⟩ := bind_some h
  by_cases hz : xs.length ≤ 40000
  · rw [if_pos hz] at h
    obtain ⟨ds, h2, h⟩ := bind_some h
    cases h
    refine ⟨ds, rfl, fun S σ H al en Q q => hs ρ xs h1 S σ H al en _ fun J H1 e1 wk D hD => ?_⟩
    have al1 := al.ex e1
    have alD : Al (fun x => x = D ∨ S x) (upd H1 D (.lst [])) := fun x hx => by
      by_cases c : x = D
      · subst c; rw [upd_same]; exact fun z => nomatch z
      · rw [upd_ne c]; exact al1 x (hx.resolve_left c)
    refine ⟨fun i m H' => m = xs.length - i ∧ i ≤ xs.length ∧ Ex H1 H' ∧ Al (fun x => x = D ∨ S x) H' ∧ ∃ acc ds1 ds2, H' D = some (.lst acc) ∧ acc.length ≤ i ∧ RpAll (hid (fun x => x = D ∨ S x) H') acc ds1 ∧ lcGo xg t e (clear ρ vs) (xs.drop i) = some ds2 ∧ ds = ds1 ++ ds2,
      ⟨_, rfl, Nat.zero_le _, Ex.new hD, alD, [], [], ds, upd_same, Nat.le_refl _, .nil, h2, rfl⟩, fun i m H' hw => ?_⟩
    obtain ⟨rfl, hi, e2, al2, acc, ds1, ds2, hacc, la, ra, hgo, hds⟩ := hw
    have ewk : Ex (hid S H1) (hid (fun x => x = D ∨ S x) H') := hid_cons e2 hD
    obtain ⟨w1, w2⟩ := wk _ H' ewk al2
    by_cases hlt : i < xs.length
    · obtain ⟨w3, w4⟩ := w2 i _ (List.getElem?_eq_getElem hlt)
      rw [List.drop_eq_getElem_cons hlt] at hgo
      obtain ⟨ρ1, b1, g1, t1, alt⟩ := lc_step hgo
      refine .inr ⟨w3, fun H2 => Ex H1 H2 ∧ Al (fun x => x = D ∨ S x) H2 ∧ ∃ acc ds1 ds2, H2 D = some (.lst acc) ∧ acc.length ≤ i + 1 ∧ RpAll (hid (fun x => x = D ∨ S x) H2) acc ds1 ∧ lcGo xg t e (clear ρ vs) (xs.drop (i + 1)) = some ds2 ∧ ds = ds1 ++ ds2, fun H2 hn => ⟨_, by omega, rfl, hlt, hn⟩, fun v H3 y => ?_⟩
      obtain ⟨e3, rv⟩ := w4 v H3 y
      have al3 := al2.ex e3
      have en3 : En (hid (fun x => x = D ∨ S x) H3) (wipe σ vs) (clear ρ vs) := clear_en (en.ex (((hid_ex e1).trans ewk).trans (hid_ex e3))) vs
      refine hg _ _ ρ1 g1 _ (wipe σ vs) H3 v en3 rv _ fun σ4 en4 off => ⟨wipe_off off hu, ?_⟩
      refine ht ρ1 b1 t1 _ σ4 H3 al3 en4 _ fun H5 e5 => ?_
      have hacc5 : H5 D = some (.lst acc) := e5 _ _ (e3 _ _ hacc)
      have ra5 := ra.ex ((hid_ex (S := fun x => x = D ∨ S x) e3).trans (hid_ex e5))
      rcases alt with ⟨rfl, d1, ds', f1, f2, rfl⟩ | ⟨rfl, f2⟩
      · show te σ4 H5 _
        refine he ρ1 d1 f1 _ σ4 H5 (al3.ex e5) (en4.ex (hid_ex e5)) _ fun z H6 e6 rz => ⟨acc, e6 _ _ hacc5, Evl.sz_lt (by omega), Ex.mut (((e2.trans e3).trans e5).trans e6) hD, ?_, acc ++ [z], ds1 ++ [d1], ds', upd_same, by rw [List.length_append]; simpa using la, ?_, f2, by rw [hds, List.append_assoc]; rfl⟩
        · intro x hx
          by_cases c : x = D
          · subst c; rw [upd_same]; exact fun q => nomatch q
          · rw [upd_ne c]; exact ((al3.ex e5).ex e6) x hx
        · have hu' : Ex (hid (fun x => x = D ∨ S x) H6) (hid (fun x => x = D ∨ S x) (upd H6 D (.lst (acc ++ [z])))) := fun x o h => by
            obtain ⟨c, h⟩ := hid_some h
            rw [hid_out c, upd_ne (fun z => c (.inl z))]
            exact h
          exact RpAll.append (ra5.ex ((hid_ex e6).trans hu')) (.cons (rz.ex hu') .nil)
      · exact ⟨(e2.trans e3).trans e5, al3.ex e5, acc, ds1, ds2, hacc5, by omega, ra5, f2, hds⟩
    · have ei : i = xs.length := by omega
      subst ei
      rw [List.drop_length] at hgo
      cases hgo
      rw [List.append_nil] at hds
      subst hds
      exact .inl ⟨w1, q D acc H' (e1.trans e2) (by
        cases qq : H D with
        | none => rfl
        | some o => rw [e1 _ _ qq] at hD; cases hD) hacc ra⟩
  · rw [if_neg hz] at h; cases h
theorem sef_lst {ts : TA} {as : XA} (hs : SA ts as) : SEF (tLst ts) (xLst as) := fun ρ d h => by
  obtain ⟨ds, h1, h⟩ := bind_some h
  by_cases hl : ds.length ≤ 100000
  · rw [if_pos hl] at h
    cases h
    refine ⟨ds, rfl, fun S σ H al en Q q => hs ρ ds h1 S σ H al en _ fun vs H1 e1 ra => ⟨by rw [ra.length]; exact Evl.sz_of hl, fun p hp => q p vs _ (e1.trans (Ex.new hp)) (by
      cases qq : H p with
      | none => rfl
      | some o => rw [e1 _ _ qq] at hp; cases hp) upd_same (ra.ex (hid_cons (Ex.new hp) hp))⟩⟩
  · rw [if_neg hl] at h; cases h
theorem sef_list {ta : TE} {a : XE} (ha : SE ta a) : SEF (tCB (rListQ K) (tCons ta tNil)) (xUn listP a) := fun ρ d h => by
  obtain ⟨x, h1, h⟩ := bind_some h
  have fresh : ∀ {H H1 : Hp} {p : Addr}, Ex H H1 → H1 p = none → H p = none := fun {H H1 p} e hp => by
    cases qq : H p with
    | none => rfl
    | some o => rw [e _ _ qq] at hp; cases hp
  cases x with
  | list ds =>
    cases h
    refine ⟨ds, rfl, fun S σ H al en Q q => ha ρ _ h1 S σ H al en _ fun v H1 e1 rv => ?_⟩
    cases rv with
    | lst hx ra => exact ⟨_, _, rfl, .inl (.inl (.inl (hid_le _ _ hx))), fun l hl => q l _ _ (e1.trans (Ex.new hl)) (fresh e1 hl) upd_same (ra.ex (hid_cons (Ex.new hl) hl))⟩
  | tuple ds =>
    cases h
    refine ⟨ds, rfl, fun S σ H al en Q q => ha ρ _ h1 S σ H al en _ fun v H1 e1 rv => ?_⟩
    cases rv with
    | tup hx _ ra => exact ⟨_, _, rfl, .inr (.inl (.inr ⟨_, hid_le _ _ hx⟩)), fun l hl => q l _ _ (e1.trans (Ex.new hl)) (fresh e1 hl) upd_same (ra.ex (hid_cons (Ex.new hl) hl))⟩
  | _ => cases h
end
end Uv

namespace Uv
open PySem PySem.Spec PyProof.Rows L2
open Evl (Ex)
variable [kk : KK]
/-! ### new lists, owned -/
theorem FL_nil {F : Hs} : FL F [] = F := funext fun x => propext ⟨fun h => h.elim id (fun z => nomatch z), .inl⟩
theorem FL_app {F : Hs} {A B : List Addr} : FL (FL F A) B = FL F (A ++ B) := funext fun x => propext ⟨fun h => h.elim (fun h => h.elim .inl fun z => .inr (List.mem_append_left _ z)) fun z => .inr (List.mem_append_right _ z),
  fun h => h.elim (fun h => .inl (.inl h)) fun z => (List.mem_append.mp z).elim (fun z => .inl (.inr z)) .inr⟩
theorem FL_perm {F : Hs} {A B : List Addr} (h : ∀ x, x ∈ A ↔ x ∈ B) : FL F A = FL F B := funext fun x => propext ⟨fun z => z.elim .inl fun z => .inr ((h x).mp z), fun z => z.elim .inl fun z => .inr ((h x).mpr z)⟩
theorem SF_FL1 {F : Hs} {T : Trs} {p : Addr} : SF (FL F [p]) T = fun x => x = p ∨ SF F T x := funext fun x => propext ⟨fun h => h.elim (fun h => h.elim (fun z => .inr (.inl z)) fun z => .inl (by simpa using z)) fun z => .inr (.inr z),
  fun h => h.elim (fun z => .inl (.inr (by rw [z]; exact List.mem_cons_self ..))) fun z => z.elim (fun z => .inl (.inl z)) .inr⟩
theorem ex_none {H H1 : Hp} {p : Addr} (e : Ex H H1) (hp : H1 p = none) : H p = none := by
  cases qq : H p with
  | none => rfl
  | some o => rw [e _ _ qq] at hp; cases hp
section
variable {pn : Option V} {F : Hs} {T : Trs} {H H2 : Hp} {σ : L2.St} {ρ : Env}
/-- one more new object in the frame -/
theorem StOk.fresh (st : StOk pn F T H σ ρ) (e : Ex H H2) {p : Addr} (hp : H p = none) (h2 : H2 p ≠ none) : StOk pn (FL F [p]) T H2 σ ρ ∧ Ex (hid (SF F T) H) (hid (SF (FL F [p]) T) H2) := by
  have vis : Ex (hid (SF F T) H) (hid (SF (FL F [p]) T) H2) := by rw [SF_FL1]; exact hid_cons e hp
  have st2 := st.ex e
  refine ⟨⟨st.len, fun x h => ?_, fun i x hx z => ?_, st.dis, st.nd, st.out, fun i s hi => ?_, st.pin⟩, vis⟩
  · rcases h with h | h
    · exact st2.al x h
    · have ex : x = p := by simpa using h
      rw [ex]; exact h2
  · rcases z with z | z
    · exact st.off i x hx z
    · have ex : x = p := by simpa using z
      obtain ⟨vs, q, _⟩ := st.lst hx
      rw [ex, hp] at q
      cases q
  · obtain ⟨o, h1, h3⟩ := st.sl i s hi
    refine ⟨o, h1, h3.mv vis fun x hx => ?_⟩
    obtain ⟨vs, q, _⟩ := st.lst hx
    rw [q, e x _ q]
end
abbrev XWC := Env → Option (List Cel × Env)
def SWC (ta : TA) (w : XWC) : Prop := ∀ pn F T H σ ρ cs ρ', StOk pn F T H σ ρ → w ρ = some (cs, ρ') → ∀ Q : List V → Hp → Prop, (∀ vs B T' H', StOk pn (FL F B) T' H' σ ρ' → B.Nodup → (∀ x ∈ B, ¬ F x) → (∀ x, F x → H' x = H x) → Ex (hid (SF F T) H) (hid (SF (FL F B) T') H') → Cels (hid (SF (FL F B) T') H') H' vs cs B → Q vs H') → ta σ H Q
def asList : PD → Option (List PD)
  | .list ds => some ds
  | _ => none
theorem asList_eq {d : PD} {ds : List PD} (h : asList d = some ds) : d = .list ds := by
  cases d with
  | list l => cases h; rfl
  | _ => cases h
def wOM (x : XE) : XWO := fun ρ => ((x (mk ρ)).bind asList).bind fun ds => some (ds.map Cel.dat, ρ)
def wOV (x : XE) : XWO := fun ρ => ((x (vw ρ)).bind asList).bind fun ds => if flats ds = true then some (ds.map Cel.dat, ρ) else none
theorem Cels.dats {G H : Hp} : ∀ {vs : List V} {ds : List PD}, RpAll G vs ds → Cels G H vs (ds.map Cel.dat) []
  | _, _, .nil => .nil
  | _, _, .cons h r => .dat h (Cels.dats r)
theorem swo_M {te : TE} {x : XE} (h : SEF te x) : SWO te (wOM x) := fun pn F T H σ ρ cs ρ' st e Q q => by
  obtain ⟨ds, h1, h2⟩ := bind_some e
  obtain ⟨d, h1, h3⟩ := bind_some h1
  cases h2
  have e := asList_eq h3
  subst e
  obtain ⟨ds', e', f⟩ := h _ _ h1
  cases e'
  refine f (SF F T) σ H st.als st.mkd Q fun p vs H2 e2 hp h2 ra => ?_
  obtain ⟨st2, vis⟩ := st.fresh e2 hp (by rw [h2]; exact fun z => nomatch z)
  refine q _ [p] T H2 st2 (by simp) (fun x hx => ?_) (Stp.ex (T := T) st.al e2).fr vis ⟨p, vs, [], rfl, h2, Cels.dats (by rw [SF_FL1]; exact ra), rfl⟩
  have ex : x = p := by simpa using hx
  rw [ex]
  exact st.al.new hp
theorem swo_V {te : TE} {x : XE} (h : SEF te x) : SWO te (wOV x) := fun pn F T H σ ρ cs ρ' st e Q q => by
  obtain ⟨ds, h1, h2⟩ := bind_some e
  obtain ⟨d, h1, h3⟩ := bind_some h1
  by_cases c : flats ds = true
  · rw [if_pos c] at h2
    cases h2
    have e := asList_eq h3
    subst e
    obtain ⟨ds', e', f⟩ := h _ _ h1
    cases e'
    refine f F σ H st.al st.vw Q fun p vs H2 e2 hp h2 ra => ?_
    obtain ⟨st2, vis⟩ := st.fresh e2 hp (by rw [h2]; exact fun z => nomatch z)
    have fr : ∀ x o u, hid (fun x => x = p ∨ F x) H2 x = some (.frz o u) → hid (SF (FL F [p]) T) H2 x = some (.frz o u) := fun x o u hh => by
      obtain ⟨c1, c2⟩ := hid_some hh
      exact st2.frz (Ex.refl _) x o u (by rw [hid_out]; exact c2; exact fun z => c1 (z.elim .inr fun z => .inl (by simpa using z)))
    refine q _ [p] T H2 st2 (by simp) (fun x hx => ?_) (Stp.ex (T := T) st.al e2).fr vis ⟨p, vs, [], rfl, h2, Cels.dats (ra.flat fr c), rfl⟩
    have ex : x = p := by simpa using hx
    rw [ex]
    exact st.al.new hp
  · rw [if_neg c] at h2; cases h2
/-- a new list becomes data at once -/
def wFz (o : XWO) : XW := fun ρ => (o ρ).bind fun x => some (.list (x.1.map Cel.pd), x.2)
theorem sw_fz {te : TE} {o : XWO} (h : SWO te o) : SW te (wFz o) := fun pn F T H σ ρ d ρ' st e Q q => by
  obtain ⟨⟨cs, ρ1⟩, h1, e⟩ := bind_some e
  cases e
  refine h pn F T H σ ρ cs _ st h1 Q fun v A T' H' st' nd off fr vis ow => ?_
  obtain ⟨st2, sub⟩ := st'.thaw
  refine q v T' H' st2 ⟨fr, vis.trans sub⟩ (ow.rp sub fun x hx => hid_out ?_)
  rintro (z | ⟨i, z⟩)
  · exact off x hx z
  · exact st'.off i x z (.inr hx)
/-! items one by one -/
def wcNil : XWC := fun ρ => some ([], ρ)
def wcDat (a : XW) (as : XWC) : XWC := fun ρ => (a ρ).bind fun x => (as x.2).bind fun xs => some (.dat x.1 :: xs.1, xs.2)
def allDat : List Cel → Option (List PD)
  | [] => some []
  | .dat d :: r => (allDat r).bind fun ds => some (d :: ds)
  | .sub _ :: _ => none
theorem allDat_map : ∀ ds : List PD, allDat (ds.map Cel.dat) = some ds
  | [] => rfl
  | d :: ds => by rw [List.map_cons, allDat, allDat_map ds]; rfl
theorem allDat_eq : ∀ {cs : List Cel} {ds : List PD}, allDat cs = some ds → cs = ds.map Cel.dat
  | [], ds, h => by cases h; rfl
  | .dat d :: r, ds, h => by
    obtain ⟨es, h1, h2⟩ := bind_some (show (allDat r).bind _ = some ds from h)
    cases h2
    rw [allDat_eq h1]
    rfl
  | .sub _ :: _, _, h => nomatch h
def wcSub (a : XWO) (as : XWC) : XWC := fun ρ => (a ρ).bind fun x => (allDat x.1).bind fun ds => (as x.2).bind fun xs => some (.sub ds :: xs.1, xs.2)
theorem Cels.dats_inv {G H : Hp} : ∀ {vs : List V} {ds : List PD} {B : List Addr}, Cels G H vs (ds.map Cel.dat) B → RpAll G vs ds ∧ B = []
  | _, [], _, .nil => ⟨.nil, rfl⟩
  | _, d :: ds, _, .dat r c => ⟨.cons r (Cels.dats_inv c).1, (Cels.dats_inv c).2⟩
theorem swc_nil : SWC tNil wcNil := fun pn F T H σ ρ cs ρ' st e Q q => by
  cases e
  exact q [] [] T H (by rw [FL_nil]; exact st) (by simp) (fun x hx => nomatch hx) (fun _ _ => rfl) (by rw [FL_nil]; exact Ex.refl _) .nil
theorem swc_dat {ta : TE} {ts : TA} {a : XW} {as : XWC} (ha : SW ta a) (hs : SWC ts as) : SWC (tCons ta ts) (wcDat a as) := fun pn F T H σ ρ cs ρ' st e Q q => by
  obtain ⟨⟨x, ρ1⟩, h1, e⟩ := bind_some e
  obtain ⟨⟨xs, ρ2⟩, h2, e⟩ := bind_some e
  cases e
  exact ha pn F T H σ ρ x ρ1 st h1 _ fun v T1 H1 st1 s1 rv => hs pn F T1 H1 σ ρ1 xs ρ2 st1 h2 _ fun vs B T2 H2 st2 nd off fr vis c =>
    q (v :: vs) B T2 H2 st2 nd off (fun x hx => (fr x hx).trans (s1.fr x hx)) (s1.vis.trans vis) (.dat (rv.ex vis) c)
theorem swc_sub {ta : TE} {ts : TA} {a : XWO} {as : XWC} (ha : SWO ta a) (hs : SWC ts as) : SWC (tCons ta ts) (wcSub a as) := fun pn F T H σ ρ cs ρ' st e0 Q q => by
  obtain ⟨⟨x, ρ1⟩, h1, e1⟩ := bind_some e0
  obtain ⟨ds, hd, e2⟩ := bind_some e1
  obtain ⟨⟨xs, ρ2⟩, h2, e3⟩ := bind_some e2
  have e4 : some (Cel.sub ds :: xs, ρ2) = some (cs, ρ') := e3
  clear e0 e1 e2 e3
  obtain ⟨rfl, rfl⟩ := Prod.mk.inj (Option.some.inj e4)
  have ex : x = _ := allDat_eq hd
  subst ex
  refine ha pn F T H σ ρ _ ρ1 st h1 _ fun v A T1 H1 st1 nd off fr vis ow => ?_
  obtain ⟨b, ws, B0, rfl, hb, cb, rfl⟩ := ow
  obtain ⟨ra, rfl⟩ := cb.dats_inv
  refine hs pn (FL F [b]) T1 H1 σ ρ1 xs ρ2 st1 h2 _ fun vs B T2 H2 st2 nd2 off2 fr2 vis2 c => ?_
  have eF : FL (FL F [b]) B = FL F (b :: B) := FL_app
  rw [eF] at st2 vis2 c
  have hb2 : H2 b = some (.lst ws) := by rw [fr2 b (.inr (List.mem_cons_self ..))]; exact hb
  refine q (.ref b :: vs) (b :: B) T2 H2 st2 (List.nodup_cons.mpr ⟨fun z => off2 b z (.inr (List.mem_cons_self ..)), nd2⟩) (fun x hx => ?_) (fun x hx => (fr2 x (.inl hx)).trans (fr x hx)) (vis.trans vis2) (.sub hb2 (ra.ex vis2) c)
  rcases List.mem_cons.mp hx with z | z
  · rw [z]; exact off b (List.mem_cons_self ..)
  · exact fun w => off2 x z (.inl w)
def wOL (as : XWC) : XWO := fun ρ => (as ρ).bind fun x => if x.1.length ≤ 100000 then some x else none
theorem swo_lst {ts : TA} {as : XWC} (hs : SWC ts as) : SWO (tLst ts) (wOL as) := fun pn F T H σ ρ cs ρ' st e Q q => by
  obtain ⟨⟨xs, ρ1⟩, h1, e⟩ := bind_some e
  by_cases hl : xs.length ≤ 100000
  · rw [if_pos hl] at e
    cases e
    refine hs pn F T H σ ρ _ _ st h1 _ fun vs B T1 H1 st1 nd off fr vis c => ⟨by rw [c.length]; exact Evl.sz_of hl, fun p hp => ?_⟩
    obtain ⟨st2, vis2⟩ := st1.fresh (Ex.new (o := .lst vs) hp) hp (by rw [upd_same]; exact fun z => nomatch z)
    have eF : FL (FL F B) [p] = FL F (p :: B) := by
      rw [FL_app]
      exact FL_perm fun x => by simp [or_comm]
    rw [eF] at st2 vis2
    have npB : ∀ x ∈ B, x ≠ p := fun x hx z => by
      have := st1.al x (.inr hx)
      rw [z, hp] at this
      exact this rfl
    have npF : ∀ x, F x → x ≠ p := fun x hx z => by
      have := st1.al x (.inl hx)
      rw [z, hp] at this
      exact this rfl
    refine q (.ref p) (p :: B) T1 _ st2 (List.nodup_cons.mpr ⟨fun z => npB p z rfl, nd⟩) (fun x hx => ?_) (fun x hx => by rw [upd_ne (npF x hx)]; exact fr x hx) (vis.trans vis2) ⟨p, vs, B, rfl, upd_same, c.mv vis2 fun x hx => upd_ne (npB x hx), rfl⟩
    rcases List.mem_cons.mp hx with z | z
    · rw [z]; exact fun w => npF p w rfl
    · exact off x z
  · rw [if_neg hl] at e; cases e
end Uv

namespace Uv
open PySem PySem.Spec PyProof.Rows L2
open Evl (Ex)
variable [kk : KK]
/-! ### statements -/
inductive Out | nxt (ρ : Env) | ret (d : PD) (ρ : Env) | retO (cs : List Cel) (ρ : Env) | brk (ρ : Env) | cnt (ρ : Env)
abbrev XS := Env → Option Out
def OutOk (pn : Option V) (F : Hs) (T : Trs) (H : Hp) (D : Ends) : Out → Prop
  | .nxt ρ => ∀ σ T' H', StOk pn F T' H' σ ρ → Stp F T H T' H' → D.nx σ H'
  | .brk ρ => ∀ σ T' H', StOk pn F T' H' σ ρ → Stp F T H T' H' → D.bk σ H'
  | .cnt ρ => ∀ σ T' H', StOk pn F T' H' σ ρ → Stp F T H T' H' → D.ct σ H'
  | .ret d ρ => ∀ v σ T' H', StOk pn F T' H' σ ρ → Stp F T H T' H' → Rp (hid (SF F T') H') v d → D.rt v H'
  | .retO cs ρ => ∀ v A σ T' H', StOk pn (FL F A) T' H' σ ρ → A.Nodup → (∀ x ∈ A, ¬ F x) → (∀ x, F x → H' x = H x) → Ex (hid (SF F T) H) (hid (SF (FL F A) T') H') → Own (hid (SF (FL F A) T') H') H' v cs A → D.rt v H'
def SS (ts : TS) (x : XS) : Prop := ∀ pn F T H σ ρ o D, StOk pn F T H σ ρ → x ρ = some o → OutOk pn F T H D o → ts D σ H
theorem OutOk.step {pn : Option V} {F : Hs} {T T1 : Trs} {H H1 : Hp} {D : Ends} (s : Stp F T H T1 H1) : ∀ {o : Out}, OutOk pn F T H D o → OutOk pn F T1 H1 D o
  | .nxt _, h => fun σ T' H' st s' => h σ T' H' st (s.trans s')
  | .brk _, h => fun σ T' H' st s' => h σ T' H' st (s.trans s')
  | .cnt _, h => fun σ T' H' st s' => h σ T' H' st (s.trans s')
  | .ret _ _, h => fun v σ T' H' st s' => h v σ T' H' st (s.trans s')
  | .retO _ _, h => fun v A σ T' H' st nd off fr vis => h v A σ T' H' st nd off (fun x hx => (fr x hx).trans (s.fr x hx)) (s.vis.trans vis)
/-- with another way on -/
theorem OutOk.on {pn : Option V} {F : Hs} {T : Trs} {H : Hp} {D : Ends} {nx bk ct : L2.St → Hp → Prop} : ∀ {o : Out}, (∀ ρ, o ≠ .nxt ρ) → (∀ ρ, o ≠ .brk ρ) → (∀ ρ, o ≠ .cnt ρ) → OutOk pn F T H D o → OutOk pn F T H { D with nx := nx, bk := bk, ct := ct } o
  | .nxt _, h, _, _, _ => absurd rfl (h _)
  | .brk _, _, h, _, _ => absurd rfl (h _)
  | .cnt _, _, _, h, _ => absurd rfl (h _)
  | .ret _ _, _, _, _, h => h
  | .retO _ _, _, _, _, h => h
def sNext : XS := fun ρ => some (.nxt ρ)
def sCont : XS := fun ρ => some (.cnt ρ)
def sBreak : XS := fun ρ => some (.brk ρ)
def sSeq (x y : XS) : XS := fun ρ => (x ρ).bind fun o => match o with
  | .nxt ρ1 => y ρ1
  | o => some o
def sRet (w : XW) : XS := fun ρ => (w ρ).bind fun x => some (.ret x.1 x.2)
def sRetN : XS := fun ρ => some (.ret .none ρ)
def sRetO (w : XWO) : XS := fun ρ => (w ρ).bind fun x => some (.retO x.1 x.2)
def sIf (c : XWT) (x y : XS) : XS := fun ρ => (c ρ).bind fun k => if k.1 = true then x k.2 else y k.2
def sAsg (g : XG) (w : XW) : XS := fun ρ => (w ρ).bind fun x => (g x.1 x.2).bind fun ρ1 => some (.nxt ρ1)
def sOwn (i : Nat) (w : XWO) : XS := fun ρ => (w ρ).bind fun x => if i < x.2.length then some (.nxt (x.2.set i (.own x.1))) else none
def sDrop (w : XW) : XS := fun ρ => (w ρ).bind fun x => some (.nxt x.2)
def toSl : Cel → Sl
  | .dat d => .dat d
  | .sub ds => .own (ds.map Cel.dat)
def two : List Cel → Option (Cel × Cel)
  | [c, e] => some (c, e)
  | _ => none
theorem two_eq {cs : List Cel} {c e : Cel} (h : two cs = some (c, e)) : cs = [c, e] := by
  unfold two at h
  split at h
  · cases h; rfl
  · cases h
def sPar (i j : Nat) (as : XWC) : XS := fun ρ => (as ρ).bind fun x => (two x.1).bind fun c => if i < x.2.length ∧ j < x.2.length then some (.nxt ((x.2.set i (toSl c.1)).set j (toSl c.2))) else none
section
variable {te : TE} {t u : TS} {ct : TT} {x y : XS} {w : XW} {c : XWT}
theorem ss_next : SS tNext sNext := fun pn F T H σ ρ o D st e q => by cases e; exact q σ T H st Stp.refl
theorem ss_cont : SS tCont sCont := fun pn F T H σ ρ o D st e q => by cases e; exact q σ T H st Stp.refl
theorem ss_break : SS tBreak sBreak := fun pn F T H σ ρ o D st e q => by cases e; exact q σ T H st Stp.refl
theorem ss_seq (hx : SS t x) (hy : SS u y) : SS (tSeq t u) (sSeq x y) := fun pn F T H σ ρ o D st e q => by
  obtain ⟨o1, h1, e⟩ := bind_some e
  cases o1 with
  | nxt ρ1 => exact hx pn F T H σ ρ _ { D with nx := u D } st h1 fun σ2 T2 H2 st2 s2 => hy pn F T2 H2 σ2 ρ1 o D st2 e (q.step s2)
  | ret d ρ1 => cases e; exact hx pn F T H σ ρ _ { D with nx := u D } st h1 q
  | retO d ρ1 => cases e; exact hx pn F T H σ ρ _ { D with nx := u D } st h1 q
  | brk ρ1 => cases e; exact hx pn F T H σ ρ _ { D with nx := u D } st h1 q
  | cnt ρ1 => cases e; exact hx pn F T H σ ρ _ { D with nx := u D } st h1 q
theorem ss_ret (h : SW te w) : SS (tRet te) (sRet w) := fun pn F T H σ ρ o D st e q => by
  obtain ⟨⟨d, ρ1⟩, h1, e⟩ := bind_some e
  cases e
  exact h pn F T H σ ρ d ρ1 st h1 _ fun v T' H' st' s' rv => q v σ T' H' st' s' rv
theorem ss_retN : SS tRetN sRetN := fun pn F T H σ ρ o D st e q => by cases e; exact q .non σ T H st Stp.refl .non
theorem ss_retO {w : XWO} (h : SWO te w) : SS (tRet te) (sRetO w) := fun pn F T H σ ρ o D st e q => by
  obtain ⟨⟨d, ρ1⟩, h1, e⟩ := bind_some e
  cases e
  exact h pn F T H σ ρ d ρ1 st h1 _ fun v A T' H' st' nd off fr vis ow => q v A σ T' H' st' nd off fr vis ow
theorem ss_if (hc : SWT ct c) (hx : SS t x) (hy : SS u y) : SS (tIfS ct t u) (sIf c x y) := fun pn F T H σ ρ o D st e q => by
  obtain ⟨⟨k, ρ1⟩, h1, e⟩ := bind_some e
  refine hc pn F T H σ ρ k ρ1 st h1 _ fun T1 H1 st1 s1 => ?_
  cases k with
  | true => exact hx pn F T1 H1 σ ρ1 o D st1 e (q.step s1)
  | false => exact hy pn F T1 H1 σ ρ1 o D st1 e (q.step s1)
theorem ss_asg {g : TG} {xg : XG} {vs : List Nat} (hg : SG false g xg vs) (h : SW te w) : SS (tAsg te g) (sAsg xg w) := fun pn F T H σ ρ o D st e q => by
  obtain ⟨⟨d, ρ1⟩, h1, e⟩ := bind_some e
  obtain ⟨ρ2, h2, e⟩ := bind_some e
  cases e
  exact h pn F T H σ ρ d ρ1 st h1 _ fun v T1 H1 st1 s1 rv => hg pn F T1 H1 σ v d ρ1 ρ2 st1 h2 (.inl rv) _ fun σ' T' st' s' _ => q σ' T' H1 st' (s1.trans s')
theorem ss_own {i : Nat} {w : XWO} (hi : i ≠ 0) (h : SWO te w) : SS (tAsg te (gName i)) (sOwn i w) := fun pn F T H σ ρ o D st e q => by
  obtain ⟨⟨cs, ρ1⟩, h1, e⟩ := bind_some e
  by_cases c : i < ρ1.length
  · rw [if_pos c] at e
    cases e
    refine h pn F T H σ ρ cs ρ1 st h1 _ fun v A T' H' st' nd off fr vis ow => ?_
    obtain ⟨st2, vis2⟩ := st'.own hi c ow nd off
    exact q _ _ H' st2 ⟨fr, vis.trans vis2⟩
  · rw [if_neg c] at e; cases e
theorem ss_drop (h : SW te w) : SS (tDrop te) (sDrop w) := fun pn F T H σ ρ o D st e q => by
  obtain ⟨⟨d, ρ1⟩, h1, e⟩ := bind_some e
  cases e
  exact h pn F T H σ ρ d ρ1 st h1 _ fun v T' H' st' s' rv => q σ T' H' st' s'
/-! a cell goes to a slot -/
theorem StOk.cel {pn : Option V} {F : Hs} {T : Trs} {H : Hp} {σ : L2.St} {ρ : Env} {i : Nat} {v : V} {c : Cel} {B : List Addr} (hi : i ≠ 0) (hl : i < ρ.length) (st : StOk pn (FL F B) T H σ ρ) (nd : B.Nodup) (off : ∀ x ∈ B, ¬ F x) (hc : Cels (hid (SF (FL F B) T) H) H [v] [c] B) :
    ∃ T', StOk pn F T' H (σ.set i (some v)) (ρ.set i (toSl c)) ∧ Ex (hid (SF (FL F B) T) H) (hid (SF F T') H) := by
  cases hc with
  | dat r n =>
    cases n
    rw [FL_nil] at st r ⊢
    obtain ⟨st', s⟩ := st.set hi r
    exact ⟨_, st', s.vis⟩
  | sub hb r n =>
    cases n
    obtain ⟨st', vis⟩ := st.own (i := i) hi hl ⟨_, _, [], rfl, hb, Cels.dats r, rfl⟩ nd off
    exact ⟨_, st', vis⟩
theorem ss_par {i j : Nat} {ts : TA} {as : XWC} (hi : i ≠ 0) (hj : j ≠ 0) (hs : SWC ts as) : SS (tPar i j ts) (sPar i j as) := fun pn F T H σ ρ o D st e q => by
  obtain ⟨⟨cs, ρ1⟩, h1, e⟩ := bind_some e
  obtain ⟨⟨c, d⟩, h2, e⟩ := bind_some e
  have ec : cs = _ := two_eq h2
  subst ec
  · skip
    by_cases hl : i < ρ1.length ∧ j < ρ1.length
    · rw [if_pos hl] at e
      cases e
      refine hs pn F T H σ ρ _ ρ1 st h1 _ fun vs B T1 H1 st1 nd off fr vis hc => ?_
      obtain ⟨v, w, rfl⟩ : ∃ v w, vs = [v, w] := by
        have := hc.length
        match vs, this with
        | [v, w], _ => exact ⟨v, w, rfl⟩
      refine ⟨v, w, rfl, ?_⟩
      -- split the addresses
      have split : ∃ B1 B2, B = B1 ++ B2 ∧ Cels (hid (SF (FL F B) T1) H1) H1 [v] [c] B1 ∧ Cels (hid (SF (FL F B) T1) H1) H1 [w] [d] B2 := by
        cases hc with
        | dat r n => exact ⟨[], B, rfl, .dat r .nil, n⟩
        | sub hb r n => exact ⟨[_], _, rfl, .sub hb r .nil, n⟩
      obtain ⟨B1, B2, rfl, c1, c2⟩ := split
      have eF : FL F (B1 ++ B2) = FL (FL F B2) B1 := by rw [FL_app]; exact FL_perm fun x => by simp [or_comm]
      rw [eF] at st1 c1 c2 vis
      have nds := List.nodup_append.mp nd
      obtain ⟨T2, st2, vis2⟩ := StOk.cel (F := FL F B2) hi hl.1 st1 nds.1 (fun x hx z => z.elim (off x (List.mem_append_left _ hx)) fun z => nds.2.2 x hx x z rfl) c1
      have c2' := c2.mv vis2 fun x hx => (rfl : H1 x = H1 x)
      obtain ⟨T3, st3, vis3⟩ := StOk.cel (F := F) hj (by rw [List.length_set]; exact hl.2) st2 nds.2.1 (fun x hx => off x (List.mem_append_right _ hx)) c2'
      exact q _ T3 H1 st3 ⟨fr, (vis.trans vis2).trans vis3⟩
    · rw [if_neg hl] at e; cases e
end
/-! ### writing to owned lists -/
section
variable {G H : Hp}
theorem Cels.snoc : ∀ {vs : List V} {cs : List Cel} {B : List Addr} {v : V} {d : PD}, Cels G H vs cs B → Rp G v d → Cels G H (vs ++ [v]) (cs ++ [.dat d]) B
  | _, _, _, _, _, .nil, r => .dat r .nil
  | _, _, _, _, _, .dat h c, r => .dat h (c.snoc r)
  | _, _, _, _, _, .sub h1 h2 c, r => .sub h1 h2 (c.snoc r)
theorem Cels.app : ∀ {vs us : List V} {cs : List Cel} {ds : List PD} {B : List Addr}, Cels G H vs cs B → RpAll G us ds → Cels G H (vs ++ us) (cs ++ ds.map Cel.dat) B
  | _, _, _, _, _, .nil, r => Cels.dats r
  | _, _, _, _, _, .dat h c, r => .dat h (c.app r)
  | _, _, _, _, _, .sub h1 h2 c, r => .sub h1 h2 (c.app r)
theorem Cels.ins : ∀ (n : Nat) {vs : List V} {cs : List Cel} {B : List Addr} {v : V} {d : PD}, Cels G H vs cs B → Rp G v d → Cels G H (vs.take n ++ [v] ++ vs.drop n) (cs.take n ++ [.dat d] ++ cs.drop n) B
  | 0, _, _, _, _, _, c, r => by simpa using Cels.dat r c
  | n + 1, _, _, _, _, _, .nil, r => by simpa using Cels.dat r .nil
  | n + 1, _, _, _, _, _, .dat h c, r => by simpa using Cels.dat h (c.ins n r)
  | n + 1, _, _, _, _, _, .sub h1 h2 c, r => by simpa using Cels.sub h1 h2 (c.ins n r)
theorem Cels.set : ∀ (n : Nat) {vs : List V} {cs : List Cel} {B : List Addr} {v : V} {d d0 : PD}, Cels G H vs cs B → cs[n]? = some (.dat d0) → Rp G v d → Cels G H (vs.set n v) (cs.set n (.dat d)) B
  | _, _, _, _, _, _, _, .nil, h, _ => by simp at h
  | 0, _, _, _, _, _, _, .dat _ c, _, r => by simpa using Cels.dat r c
  | 0, _, _, _, _, _, _, .sub _ _ c, h, r => by simp at h
  | n + 1, _, _, _, _, _, _, .dat h0 c, h, r => by simpa using Cels.dat h0 (c.set n (by simpa using h) r)
  | n + 1, _, _, _, _, _, _, .sub h1 h2 c, h, r => by simpa using Cels.sub h1 h2 (c.set n (by simpa using h) r)
theorem Cels.erase : ∀ (n : Nat) {vs : List V} {cs : List Cel} {B : List Addr} {d0 : PD}, Cels G H vs cs B → cs[n]? = some (.dat d0) → Cels G H (vs.eraseIdx n) (cs.eraseIdx n) B ∧ ∃ v, vs[n]? = some v ∧ Rp G v d0
  | _, _, _, _, _, .nil, h => by simp at h
  | 0, _, _, _, _, .dat r c, h => by
    cases Option.some.inj (show some (Cel.dat _) = some (Cel.dat _) from h)
    exact ⟨by simpa using c, _, rfl, r⟩
  | 0, _, _, _, _, .sub _ _ c, h => by simp at h
  | n + 1, _, _, _, _, .dat h0 c, h => by
    obtain ⟨c1, v, e, r⟩ := c.erase n (by simpa using h)
    exact ⟨by simpa using Cels.dat h0 c1, v, by simpa using e, r⟩
  | n + 1, _, _, _, _, .sub h1 h2 c, h => by
    obtain ⟨c1, v, e, r⟩ := c.erase n (by simpa using h)
    exact ⟨by simpa using Cels.sub h1 h2 c1, v, by simpa using e, r⟩
/-- the owned list within: where it is, and the whole with it written -/
theorem Cels.inner : ∀ (n : Nat) {vs : List V} {cs : List Cel} {B : List Addr} {ds : List PD}, Cels G H vs cs B → B.Nodup → cs[n]? = some (.sub ds) → ∃ b ws, vs[n]? = some (.ref b) ∧ b ∈ B ∧ H b = some (.lst ws) ∧ RpAll G ws ds ∧
    ∀ (ws' : List V) (ds' : List PD), RpAll G ws' ds' → Cels G (upd H b (.lst ws')) vs (cs.set n (.sub ds')) B
  | _, _, _, _, _, .nil, _, h => by simp at h
  | 0, _, _, _, _, .dat _ c, _, h => by simp at h
  | 0, _, _, _, _, .sub (b := b) hb r c, nd, h => by
    cases Option.some.inj (show some (Cel.sub _) = some (Cel.sub _) from h)
    refine ⟨_, _, rfl, List.mem_cons_self .., hb, r, fun ws' ds' r' => ?_⟩
    have hn := (List.nodup_cons.mp nd).1
    simpa using Cels.sub upd_same r' (c.mv (Ex.refl _) fun x hx => upd_ne fun z => hn (by rw [← z]; exact hx))
  | n + 1, _, _, _, _, .dat h0 c, nd, h => by
    obtain ⟨b, ws, e1, e2, e3, e4, f⟩ := c.inner n nd (by simpa using h)
    exact ⟨b, ws, by simpa using e1, e2, e3, e4, fun ws' ds' r' => by simpa using Cels.dat h0 (f ws' ds' r')⟩
  | n + 1, _, _, _, _, .sub (b := b0) h1 h2 c, nd, h => by
    obtain ⟨hn, nd'⟩ := List.nodup_cons.mp nd
    obtain ⟨b, ws, e1, e2, e3, e4, f⟩ := c.inner n nd' (by simpa using h)
    exact ⟨b, ws, by simpa using e1, List.mem_cons_of_mem _ e2, e3, e4, fun ws' ds' r' => by simpa using Cels.sub (by rw [upd_ne fun z => hn (by rw [z]; exact e2)]; exact h1) h2 (f ws' ds' r')⟩
end
section
variable {pn : Option V} {F : Hs} {T : Trs} {H : Hp} {σ : L2.St} {ρ : Env}
/-- an owned list within an owned list is written -/
theorem StOk.writeSub (st : StOk pn F T H σ ρ) {i n : Nat} {cs : List Cel} {ds ds' : List PD} (hi : ρ[i]? = some (.own cs)) (hn : cs[n]? = some (.sub ds)) : ∃ a vs b ws, σ[i]? = some (some (.ref a)) ∧ H a = some (.lst vs) ∧ vs[n]? = some (.ref b) ∧ vs.length = cs.length ∧ H b = some (.lst ws) ∧ RpAll (hid (SF F T) H) ws ds ∧
    ∀ ws' ds', RpAll (hid (SF F T) H) ws' ds' → StOk pn F T (upd H b (.lst ws')) σ (ρ.set i (.own (cs.set n (.sub ds')))) ∧ Stp F T H T (upd H b (.lst ws')) := by
  obtain ⟨a, vs, B, h1, h2, h3, h4⟩ := st.at_own hi
  have ndA := st.nd i
  rw [h4] at ndA
  obtain ⟨haB, ndB⟩ := List.nodup_cons.mp ndA
  obtain ⟨b, ws, e1, e2, e3, e4, f⟩ := h3.inner n ndB hn
  refine ⟨a, vs, b, ws, h1, h2, e1, h3.length, e3, e4, fun ws' ds' r' => ?_⟩
  have hb : b ∈ T i := by rw [h4]; exact List.mem_cons_of_mem _ e2
  have hS : SF F T b := .inr ⟨i, hb⟩
  have vis : Ex (hid (SF F T) H) (hid (SF F T) (upd H b (.lst ws'))) := fun x o h => by
    obtain ⟨c, h⟩ := hid_some h
    rw [hid_out c, upd_ne (fun z => c (by rw [z]; exact hS))]
    exact h
  have ne : ∀ x, x ≠ b → upd H b (.lst ws') x = H x := fun x h => upd_ne h
  refine ⟨⟨by rw [List.length_set]; exact st.len, fun x h => ?_, st.off, st.dis, st.nd, fun j hj => st.out j (by rw [List.length_set] at hj; exact hj), fun j q hq => ?_, st.pin⟩, ⟨fun x h => ne x fun z => st.off i b hb (by rw [← z]; exact h), vis⟩⟩
  · rw [ne x fun z => st.off i b hb (by rw [← z]; exact h)]
    exact st.al x h
  · by_cases c : i = j
    · subst c
      have hl : i < ρ.length := (List.getElem?_eq_some_iff.mp hi).1
      rw [List.getElem?_set_self hl] at hq
      cases hq
      refine ⟨_, h1, .ref a, rfl, a, vs, B, rfl, by rw [ne a fun z => haB (by rw [z]; exact e2)]; exact h2, (f ws' ds' r').mv vis fun x _ => rfl, h4⟩
    · rw [List.getElem?_set_ne c] at hq
      obtain ⟨o', h5, h6⟩ := st.sl j q hq
      exact ⟨o', h5, h6.mv vis fun x hx => ne x fun z => c (st.dis i j b hb (by rw [← z]; exact hx))⟩
end
def sApp (i : Nat) (a : XW) : XS := fun ρ => (ownAt ρ i).bind fun _ => (a ρ).bind fun x => (ownAt x.2 i).bind fun cs => if cs.length < 100000 then some (.nxt (x.2.set i (.own (cs ++ [.dat x.1])))) else none
def sExt (i : Nat) (a : XW) : XS := fun ρ => (ownAt ρ i).bind fun _ => (a ρ).bind fun x => (asList x.1).bind fun ds => (ownAt x.2 i).bind fun cs => if cs.length + ds.length ≤ 100000 then some (.nxt (x.2.set i (.own (cs ++ ds.map Cel.dat)))) else none
def isI : PD → Option Int
  | .int i => some i
  | _ => none
theorem isI_eq {d : PD} {i : Int} (h : isI d = some i) : d = .int i := by
  cases d with
  | int c => cases h; rfl
  | _ => cases h
def insA : List PD → Option (Int × PD)
  | [.int k, d] => some (k, d)
  | _ => none
theorem insA_eq {ds : List PD} {k : Int} {d : PD} (h : insA ds = some (k, d)) : ds = [.int k, d] := by
  unfold insA at h
  split at h
  · cases h; rfl
  · cases h
def sIns (i : Nat) (as : XWA) : XS := fun ρ => (ownAt ρ i).bind fun _ => (as ρ).bind fun x => (insA x.1).bind fun kd => (ownAt x.2 i).bind fun cs => if cs.length < 100000 ∧ 0 ≤ kd.1 ∧ kd.1 < 2 ^ 63 then some (.nxt (x.2.set i (.own (cs.take kd.1.toNat ++ [.dat kd.2] ++ cs.drop kd.1.toNat)))) else none
def datAt (cs : List Cel) (n : Nat) : Option PD := match cs[n]? with
  | some (.dat d) => some d
  | _ => none
theorem datAt_eq {cs : List Cel} {n : Nat} {d : PD} (h : datAt cs n = some d) : cs[n]? = some (.dat d) := by
  unfold datAt at h
  split at h
  · rename_i e; cases h; exact e
  · cases h
def subAt (cs : List Cel) (n : Nat) : Option (List PD) := match cs[n]? with
  | some (.sub d) => some d
  | _ => none
theorem subAt_eq {cs : List Cel} {n : Nat} {d : List PD} (h : subAt cs n = some d) : cs[n]? = some (.sub d) := by
  unfold subAt at h
  split at h
  · rename_i e; cases h; exact e
  · cases h
def wPop (i : Nat) (a : XW) : XW := fun ρ => (ownAt ρ i).bind fun _ => (a ρ).bind fun x => (isI x.1).bind fun k => (ownAt x.2 i).bind fun cs => if -(2 ^ 63) ≤ k ∧ k < 2 ^ 63 then (ixN cs.length k).bind fun n => (datAt cs n).bind fun d => some (d, x.2.set i (.own (cs.eraseIdx n))) else none
/-- x[k] = e -/
def sSet (i : Nat) (k : XE) (a : XW) : XS := fun ρ => (a ρ).bind fun x => (ownAt x.2 i).bind fun cs => ((k (vw x.2)).bind isI).bind fun k => (ixN cs.length k).bind fun n => (datAt cs n).bind fun _ => some (.nxt (x.2.set i (.own (cs.set n (.dat x.1)))))
/-- x[k][j] = e -/
def sSetS (i : Nat) (k j : XE) (a : XW) : XS := fun ρ => (a ρ).bind fun x => (ownAt x.2 i).bind fun cs => ((k (vw x.2)).bind isI).bind fun k => (ixN cs.length k).bind fun n => (subAt cs n).bind fun ds => ((j (vw x.2)).bind isI).bind fun j => (ixN ds.length j).bind fun m => some (.nxt (x.2.set i (.own (cs.set n (.sub (ds.set m x.1))))))
/-- x[k].pop(j), the item dropped -/
def sPopS (i : Nat) (k j : XE) : XS := fun ρ => (ownAt ρ i).bind fun cs => ((k (vw ρ)).bind isI).bind fun k => (ixN cs.length k).bind fun n => (subAt cs n).bind fun ds => ((j (vw ρ)).bind isI).bind fun j => if -(2 ^ 63) ≤ j ∧ j < 2 ^ 63 then (ixN ds.length j).bind fun m => some (.nxt (ρ.set i (.own (cs.set n (.sub (ds.eraseIdx m)))))) else none
section
variable {te tk tj : TE} {w : XW} {k j : XE}
theorem RpAll.erase {G : Hp} : ∀ {vs : List V} {ds : List PD} (n : Nat), RpAll G vs ds → RpAll G (vs.eraseIdx n) (ds.eraseIdx n)
  | _, _, _, .nil => by simpa using RpAll.nil
  | _, _, 0, .cons _ r => by simpa using r
  | _, _, n + 1, .cons h r => by simpa using RpAll.cons h (r.erase n)
theorem ss_app {i : Nat} (h : SW te w) : SS (tDrop (tBM K "list" rAppend (tVar i) (tCons te tNil))) (sApp i w) := fun pn F T H σ ρ o D st e q => by
  obtain ⟨c0, h0, e⟩ := bind_some e
  obtain ⟨⟨d, ρ1⟩, h1, e⟩ := bind_some e
  obtain ⟨cs, h2, e⟩ := bind_some e
  by_cases hl : cs.length < 100000
  · rw [if_pos hl] at e
    cases e
    obtain ⟨a, vs, B, ha, hv, _⟩ := st.at_own (ownAt_eq h0)
    refine ⟨.ref a, ha, .inl ⟨rfl, _, .inl (.inl hv)⟩, h pn F T H σ ρ d ρ1 st h1 _ fun v T1 H1 st1 s1 rv => ?_⟩
    obtain ⟨a', vs', B', ha', hv', hc', hT⟩ := st1.at_own (ownAt_eq h2)
    have ea : a' = a := by rw [ha'] at ha; cases ha; rfl
    subst ea
    obtain ⟨st2, s2⟩ := st1.write (ownAt_eq h2) hT ha' (hc'.snoc rv)
    exact ⟨a', vs', v, rfl, rfl, hv', by rw [hc'.length]; exact Evl.sz_lt hl, q σ T1 _ st2 (s1.trans s2)⟩
  · rw [if_neg hl] at e; cases e
theorem ss_ext {i : Nat} (h : SW te w) : SS (tDrop (tBM K "list" rExtend (tVar i) (tCons te tNil))) (sExt i w) := fun pn F T H σ ρ o D st e q => by
  obtain ⟨c0, h0, e⟩ := bind_some e
  obtain ⟨⟨d, ρ1⟩, h1, e⟩ := bind_some e
  obtain ⟨ds, hd, e⟩ := bind_some e
  obtain ⟨cs, h2, e⟩ := bind_some e
  by_cases hl : cs.length + ds.length ≤ 100000
  · rw [if_pos hl] at e
    cases e
    have ed : d = .list ds := asList_eq hd
    subst ed
    obtain ⟨a, vs, B, ha, hv, _⟩ := st.at_own (ownAt_eq h0)
    refine ⟨.ref a, ha, .inl ⟨rfl, _, .inl (.inl hv)⟩, h pn F T H σ ρ _ ρ1 st h1 _ fun v T1 H1 st1 s1 rv => ?_⟩
    obtain ⟨a', vs', B', ha', hv', hc', hT⟩ := st1.at_own (ownAt_eq h2)
    have ea : a' = a := by rw [ha'] at ha; cases ha; rfl
    subst ea
    cases rv with
    | lst hb rb =>
      obtain ⟨st2, s2⟩ := st1.write (ownAt_eq h2) hT ha' (hc'.app rb)
      exact ⟨a', _, vs', _, rfl, rfl, hv', hid_le _ _ hb, by rw [hc'.length, rb.length]; exact Evl.sz_of hl, q σ T1 _ st2 (s1.trans s2)⟩
  · rw [if_neg hl] at e; cases e
abbrev rInsQ : V → List V → Hp → VK → Prop := fun x vs H Q => ∃ (l : Addr) (xs : List V) (i : Int) (y : V), x = .ref l ∧ vs = [.int i, y] ∧ H l = some (.lst xs) ∧ xs.length < sizeLine ∧ 0 ≤ i ∧ i < 2 ^ 63 ∧
  Q .non (upd H l (.lst (xs.take i.toNat ++ [y] ++ xs.drop i.toNat)))
theorem ss_ins {i : Nat} {ts : TA} {as : XWA} (h : SWA ts as) : SS (tDrop (tBM K "list" rInsQ (tVar i) ts)) (sIns i as) := fun pn F T H σ ρ o D st e q => by
  obtain ⟨c0, h0, e⟩ := bind_some e
  obtain ⟨⟨xs, ρ1⟩, h1, e⟩ := bind_some e
  obtain ⟨⟨kk, d⟩, hd, e⟩ := bind_some e
  obtain ⟨cs, h2, e⟩ := bind_some e
  by_cases hl : cs.length < 100000 ∧ 0 ≤ kk ∧ kk < 2 ^ 63
  · rw [if_pos hl] at e
    cases e
    have ed : xs = _ := insA_eq hd
    subst ed
    obtain ⟨a, vs, B, ha, hv, _⟩ := st.at_own (ownAt_eq h0)
    refine ⟨.ref a, ha, .inl ⟨rfl, _, .inl (.inl hv)⟩, h pn F T H σ ρ _ ρ1 st h1 _ fun us T1 H1 st1 s1 rv => ?_⟩
    obtain ⟨a', vs', B', ha', hv', hc', hT⟩ := st1.at_own (ownAt_eq h2)
    have ea : a' = a := by rw [ha'] at ha; cases ha; rfl
    subst ea
    cases rv with
    | cons g1 t =>
      cases t with
      | cons g2 t =>
        cases t
        cases g1
        obtain ⟨st2, s2⟩ := st1.write (ownAt_eq h2) hT ha' (hc'.ins kk.toNat g2)
        exact ⟨a', vs', kk, _, rfl, rfl, hv', by rw [hc'.length]; exact Evl.sz_lt hl.1, hl.2.1, hl.2.2, q σ T1 _ st2 (s1.trans s2)⟩
  · rw [if_neg hl] at e; cases e
theorem sw_pop {i : Nat} (h : SW te w) : SW (tBM K "list" rPopAt (tVar i) (tCons te tNil)) (wPop i w) := fun pn F T H σ ρ d ρ' st e Q q => by
  obtain ⟨c0, h0, e⟩ := bind_some e
  obtain ⟨⟨dk, ρ1⟩, h1, e⟩ := bind_some e
  obtain ⟨kk, hk, e⟩ := bind_some e
  obtain ⟨cs, h2, e⟩ := bind_some e
  by_cases hl : -(2 ^ 63) ≤ kk ∧ kk < 2 ^ 63
  · rw [if_pos hl] at e
    obtain ⟨n, hn, e⟩ := bind_some e
    obtain ⟨d1, hd, e⟩ := bind_some e
    cases e
    have ed : dk = _ := isI_eq hk
    subst ed
    obtain ⟨a, vs, B, ha, hv, _⟩ := st.at_own (ownAt_eq h0)
    refine ⟨.ref a, ha, .inl ⟨rfl, _, .inl (.inl hv)⟩, h pn F T H σ ρ _ ρ1 st h1 _ fun v T1 H1 st1 s1 rv => ?_⟩
    obtain ⟨a', vs', B', ha', hv', hc', hT⟩ := st1.at_own (ownAt_eq h2)
    have ea : a' = a := by rw [ha'] at ha; cases ha; rfl
    subst ea
    cases rv
    obtain ⟨hc2, y, hy, ry⟩ := hc'.erase n (datAt_eq hd)
    obtain ⟨st2, s2⟩ := st1.write (ownAt_eq h2) hT ha' hc2
    refine ⟨a', vs', kk, n, y, rfl, rfl, hv', hl.1, hl.2, (ixN_seq (by rw [hc'.length]; exact hn)).1, hy, q y T1 _ st2 (s1.trans s2) (ry.ex s2.vis)⟩
  · rw [if_neg hl] at e; cases e
theorem ss_set {i : Nat} (hk : SE tk k) (h : SW te w) : SS (tAsg te (gSub (tVar i) tk rSetL)) (sSet i k w) := fun pn F T H σ ρ o D st e q => by
  obtain ⟨⟨d, ρ1⟩, h1, e⟩ := bind_some e
  obtain ⟨cs, h2, e⟩ := bind_some e
  obtain ⟨kk, h3, e⟩ := bind_some e
  obtain ⟨dk, h3, h4⟩ := bind_some h3
  obtain ⟨n, hn, e⟩ := bind_some e
  obtain ⟨d0, hd, e⟩ := bind_some e
  cases e
  have ed : dk = _ := isI_eq h4
  subst ed
  refine h pn F T H σ ρ d ρ1 st h1 _ fun v T1 H1 st1 s1 rv => ?_
  obtain ⟨a', vs', B', ha', hv', hc', hT⟩ := st1.at_own (ownAt_eq h2)
  refine ⟨.ref a', ha', hk _ _ h3 F σ H1 st1.al st1.vw _ fun vk H2 e2 rk => ?_⟩
  cases rk
  have st2 := st1.ex e2
  have s2 : Stp F T1 H1 T1 H2 := Stp.ex st1.al e2
  obtain ⟨a2, vs2, B2, ha2, hv2, hc2, hT2⟩ := st2.at_own (ownAt_eq h2)
  have ea : a2 = a' := by rw [ha2] at ha'; cases ha'; rfl
  subst ea
  obtain ⟨st3, s3⟩ := st2.write (ownAt_eq h2) hT2 ha2 (hc2.set n (datAt_eq hd) (rv.ex s2.vis))
  exact ⟨a2, vs2, kk, n, rfl, rfl, hv2, by rw [hc2.length]; exact hn, q σ T1 _ st3 ((s1.trans s2).trans s3)⟩
/-- reading x[k], a list within -/
theorem ix_sub {pn : Option V} {F : Hs} {T : Trs} {H : Hp} {σ : L2.St} {ρ : Env} (st : StOk pn F T H σ ρ) {i n : Nat} {cs : List Cel} {ds : List PD} {kk : Int} (hi : ρ[i]? = some (.own cs)) (hn : ixN cs.length kk = some n) (hs : cs[n]? = some (.sub ds)) (hk : SE tk k) (h3 : k (vw ρ) = some (.int kk)) {Q : VK}
    (q : ∀ b H2, Ex H H2 → (∃ a vs, σ[i]? = some (some (.ref a)) ∧ H2 a = some (.lst vs) ∧ vs[n]? = some (.ref b)) → Q (.ref b) H2) : tOp (rIx K) (tVar i) tk σ H Q := by
  obtain ⟨a, vs, b, ws, g1, g2, g3, g4, g5, g6, f⟩ := st.writeSub (ds' := ds) hi hs
  refine ⟨.ref a, g1, hk _ _ h3 F σ H st.al st.vw _ fun vk H2 e2 rk => ?_⟩
  cases rk
  refine .inl ⟨a, vs, kk, .ref b, rfl, rfl, .inl (.inl (e2 _ _ g2)), ?_, q b H2 e2 ⟨a, vs, g1, e2 _ _ g2, g3⟩⟩
  unfold atI
  rw [g4, hn]
  exact g3
theorem ss_setS {i : Nat} (hk : SE tk k) (hj : SE tj j) (h : SW te w) : SS (tAsg te (gSub (tOp (rIx K) (tVar i) tk) tj rSetL)) (sSetS i k j w) := fun pn F T H σ ρ o D st e q => by
  obtain ⟨⟨d, ρ1⟩, h1, e⟩ := bind_some e
  obtain ⟨cs, h2, e⟩ := bind_some e
  obtain ⟨kk, h3, e⟩ := bind_some e
  obtain ⟨dk, h3, h4⟩ := bind_some h3
  obtain ⟨n, hn, e⟩ := bind_some e
  obtain ⟨ds, hd, e⟩ := bind_some e
  obtain ⟨jj, h5, e⟩ := bind_some e
  obtain ⟨dj, h5, h6⟩ := bind_some h5
  obtain ⟨m, hm, e⟩ := bind_some e
  cases e
  have ed : dk = _ := isI_eq h4
  subst ed
  have ed : dj = _ := isI_eq h6
  subst ed
  refine h pn F T H σ ρ d ρ1 st h1 _ fun v T1 H1 st1 s1 rv => ?_
  refine ix_sub st1 (ownAt_eq h2) hn (subAt_eq hd) hk h3 fun b H2 e2 hb => ?_
  have st2 := st1.ex e2
  have s2 : Stp F T1 H1 T1 H2 := Stp.ex st1.al e2
  refine hj _ _ h5 F σ H2 st2.al st2.vw _ fun vj H3 e3 rj => ?_
  cases rj
  have st3 := st2.ex e3
  have s3 : Stp F T1 H2 T1 H3 := Stp.ex st2.al e3
  obtain ⟨a, vs, b', ws, g1, g2, g3, g4, g5, g6, f⟩ := st3.writeSub (ds' := ds) (ownAt_eq h2) (subAt_eq hd)
  obtain ⟨a2, vs2, k1, k2, k3⟩ := hb
  have ea : a2 = a := by rw [k1] at g1; cases g1; rfl
  subst ea
  have ev : vs2 = vs := by have := e3 _ _ k2; rw [this] at g2; cases g2; rfl
  subst ev
  have eb : b' = b := by rw [k3] at g3; cases g3; rfl
  subst eb
  obtain ⟨st4, s4⟩ := f (ws.set m v) (ds.set m d) (g6.set m ((rv.ex s2.vis).ex s3.vis))
  exact ⟨b', ws, jj, m, rfl, rfl, g5, by rw [g6.length]; exact hm, q σ T1 _ st4 (((s1.trans s2).trans s3).trans s4)⟩
theorem ss_popS {i : Nat} (hk : SE tk k) (hj : SE tj j) : SS (tDrop (tBM K "list" rPopAt (tOp (rIx K) (tVar i) tk) (tCons tj tNil))) (sPopS i k j) := fun pn F T H σ ρ o D st e q => by
  obtain ⟨cs, h2, e⟩ := bind_some e
  obtain ⟨kk, h3, e⟩ := bind_some e
  obtain ⟨dk, h3, h4⟩ := bind_some h3
  obtain ⟨n, hn, e⟩ := bind_some e
  obtain ⟨ds, hd, e⟩ := bind_some e
  obtain ⟨jj, h5, e⟩ := bind_some e
  obtain ⟨dj, h5, h6⟩ := bind_some h5
  by_cases hl : -(2 ^ 63) ≤ jj ∧ jj < 2 ^ 63
  · rw [if_pos hl] at e
    obtain ⟨m, hm, e⟩ := bind_some e
    cases e
    have ed : dk = _ := isI_eq h4
    subst ed
    have ed : dj = _ := isI_eq h6
    subst ed
    refine ix_sub st (ownAt_eq h2) hn (subAt_eq hd) hk h3 fun b H2 e2 hb => ?_
    have st2 := st.ex e2
    have s2 : Stp F T H T H2 := Stp.ex st.al e2
    obtain ⟨a, vs, b', ws, g1, g2, g3, g4, g5, g6, f⟩ := st2.writeSub (ds' := ds) (ownAt_eq h2) (subAt_eq hd)
    obtain ⟨a2, vs2, k1, k2, k3⟩ := hb
    have ea : a2 = a := by rw [k1] at g1; cases g1; rfl
    subst ea
    have ev : vs2 = vs := by rw [k2] at g2; cases g2; rfl
    subst ev
    have eb : b' = b := by rw [k3] at g3; cases g3; rfl
    subst eb
    refine ⟨.inl ⟨rfl, _, .inl (.inl g5)⟩, hj _ _ h5 F σ H2 st2.al st2.vw _ fun vj H3 e3 rj => ?_⟩
    cases rj
    have st3 := st2.ex e3
    have s3 : Stp F T H2 T H3 := Stp.ex st2.al e3
    clear f
    obtain ⟨a7, vs7, b7, ws7, u1, u2, u3, u4, u5, u6, f7⟩ := st3.writeSub (ds' := ds) (ownAt_eq h2) (subAt_eq hd)
    have ea : a7 = a2 := by rw [k1] at u1; cases u1; rfl
    subst ea
    have ev : vs7 = vs2 := by have := e3 _ _ k2; rw [this] at u2; cases u2; rfl
    subst ev
    have eb : b7 = b' := by rw [k3] at u3; cases u3; rfl
    subst eb
    obtain ⟨st4, s4⟩ := f7 (ws7.eraseIdx m) (ds.eraseIdx m) (u6.erase m)
    have hm' : ixN ws7.length jj = some m := by rw [u6.length]; exact hm
    obtain ⟨q1, q2, _, _⟩ := ixN_seq hm'
    exact ⟨b7, ws7, jj, m, ws7[m], rfl, rfl, u5, hl.1, hl.2, q1, List.getElem?_eq_getElem q2, q σ T _ st4 ((s2.trans s3).trans s4)⟩
  · rw [if_neg hl] at e; cases e
end
end Uv

namespace Uv
open PySem PySem.Spec PyProof.Rows L2
open Evl (Ex)
variable [kk : KK]
/-! ### loops -/
def forGo (g : XG) (b : XS) : List PD → Env → Option Out
  | [], ρ => some (.nxt ρ)
  | x :: xs, ρ => (g x ρ).bind fun ρ1 => (b ρ1).bind fun o => match o with
    | .nxt ρ2 => forGo g b xs ρ2
    | .cnt ρ2 => forGo g b xs ρ2
    | .brk ρ2 => some (.nxt ρ2)
    | .ret d ρ2 => some (.ret d ρ2)
    | .retO d ρ2 => some (.retO d ρ2)
def sFor (src : XWI) (g : XG) (b : XS) : XS := fun ρ => (src ρ).bind fun x => forGo g b x.1 x.2
theorem ss_for {bb : Bool} {wi : TI} {g : TG} {tb : TS} {vs : List Nat} {src : XWI} {xg : XG} {b : XS} (hs : SWI bb wi src) (hg : SG bb g xg vs) (hb : SS tb b) : SS (tFor wi g tb) (sFor src xg b) := fun pn F T H σ ρ o D st e q => by
  obtain ⟨⟨xs, ρ1⟩, h1, e⟩ := bind_some e
  have e : forGo xg b xs ρ1 = some o := e
  refine hs pn F T H σ ρ xs ρ1 st h1 _ fun J T1 H1 st1 s1 wk => ?_
  refine ⟨fun i m σ' H' => m = xs.length - i ∧ i ≤ xs.length ∧ ∃ T' ρ', StOk pn F T' H' σ' ρ' ∧ Stp F T1 H1 T' H' ∧ forGo xg b (xs.drop i) ρ' = some o, ⟨_, rfl, Nat.zero_le _, T1, ρ1, st1, Stp.refl, e⟩, fun i m σ' H' hw => ?_⟩
  obtain ⟨rfl, hi, T', ρ', st', s', hgo⟩ := hw
  obtain ⟨w1, w2⟩ := wk _ H' s'.vis st'.als
  by_cases hlt : i < xs.length
  · obtain ⟨w3, w4⟩ := w2 i _ (List.getElem?_eq_getElem hlt)
    rw [List.drop_eq_getElem_cons hlt] at hgo
    obtain ⟨ρ2, g1, hgo⟩ := bind_some (show (xg xs[i] ρ').bind _ = some o from hgo)
    obtain ⟨o2, b1, hgo⟩ := bind_some hgo
    refine .inr ⟨w3, fun σ2 H2 => ∃ T2 ρ2, StOk pn F T2 H2 σ2 ρ2 ∧ Stp F T1 H1 T2 H2 ∧ forGo xg b (xs.drop (i + 1)) ρ2 = some o, fun σ2 H2 hn => ⟨_, by omega, rfl, hlt, hn⟩, fun v H3 y => ?_⟩
    obtain ⟨e3, rv⟩ := w4 v H3 y
    have st3 := st'.ex e3
    have s3 : Stp F T' H' T' H3 := Stp.ex st'.al e3
    refine hg pn F T' H3 σ' v _ ρ' ρ2 st3 g1 rv _ fun σ4 T4 st4 s4 _ => ?_
    have s14 := (s'.trans s3).trans s4
    cases o2 with
    | nxt ρ5 => exact hb pn F T4 H3 σ4 ρ2 _ _ st4 b1 fun σ5 T5 H5 st5 s5 => ⟨T5, ρ5, st5, s14.trans s5, hgo⟩
    | cnt ρ5 => exact hb pn F T4 H3 σ4 ρ2 _ _ st4 b1 fun σ5 T5 H5 st5 s5 => ⟨T5, ρ5, st5, s14.trans s5, hgo⟩
    | brk ρ5 =>
      cases hgo
      exact hb pn F T4 H3 σ4 ρ2 _ _ st4 b1 fun σ5 T5 H5 st5 s5 => q σ5 T5 H5 st5 (s1.trans (s14.trans s5))
    | ret d ρ5 =>
      cases hgo
      exact hb pn F T4 H3 σ4 ρ2 _ _ st4 b1 (OutOk.on (fun _ z => nomatch z) (fun _ z => nomatch z) (fun _ z => nomatch z) (q.step (s1.trans s14)))
    | retO d ρ5 =>
      cases hgo
      exact hb pn F T4 H3 σ4 ρ2 _ _ st4 b1 (OutOk.on (fun _ z => nomatch z) (fun _ z => nomatch z) (fun _ z => nomatch z) (q.step (s1.trans s14)))
  · have ei : i = xs.length := by omega
    subst ei
    rw [List.drop_length] at hgo
    cases hgo
    exact .inl ⟨w1, q σ' T' H' st' (s1.trans s')⟩
def whGo (c : XWT) (b : XS) : Nat → Env → Option Out
  | 0, _ => none
  | n + 1, ρ => (c ρ).bind fun k => if k.1 = true then (b k.2).bind fun o => match o with
    | .nxt ρ2 => whGo c b n ρ2
    | .cnt ρ2 => whGo c b n ρ2
    | .brk ρ2 => some (.nxt ρ2)
    | .ret d ρ2 => some (.ret d ρ2)
    | .retO d ρ2 => some (.retO d ρ2)
    else some (.nxt k.2)
/-- how often a while may go round -/
def fuel : Nat := 100000
theorem fuel_lt {k : Nat} (h : k < 100000) : k < fuel := h
def sWhile (n : Nat) (c : XWT) (b : XS) : XS := whGo c b n
theorem ss_while {n : Nat} {ct : TT} {tb : TS} {c : XWT} {b : XS} (hc : SWT ct c) (hb : SS tb b) : SS (tWhile ct tb) (sWhile n c b) := fun pn F T H σ ρ o D st e q => by
  refine ⟨fun m σ' H' => ∃ T' ρ', StOk pn F T' H' σ' ρ' ∧ Stp F T H T' H' ∧ whGo c b m ρ' = some o, ⟨n, T, ρ, st, Stp.refl, e⟩, fun m σ' H' hw => ?_⟩
  obtain ⟨T', ρ', st', s', hgo⟩ := hw
  cases m with
  | zero => cases hgo
  | succ m =>
    obtain ⟨⟨k, ρ1⟩, h1, hgo⟩ := bind_some (show (c ρ').bind _ = some o from hgo)
    refine hc pn F T' H' σ' ρ' k ρ1 st' h1 _ fun T1 H1 st1 s1 => ?_
    cases k with
    | false => cases hgo; exact iteF (q σ' T1 H1 st1 (s'.trans s1))
    | true =>
      obtain ⟨o2, b1, hgo⟩ := bind_some (show (b ρ1).bind _ = some o from hgo)
      refine iteT ⟨fun σ2 H2 => ∃ T2 ρ2, StOk pn F T2 H2 σ2 ρ2 ∧ Stp F T H T2 H2 ∧ whGo c b m ρ2 = some o, fun σ2 H2 hn => ⟨m, Nat.lt_succ_self _, hn⟩, ?_⟩
      have s2 := s'.trans s1
      cases o2 with
      | nxt ρ5 => exact hb pn F T1 H1 σ' ρ1 _ _ st1 b1 fun σ5 T5 H5 st5 s5 => ⟨T5, ρ5, st5, s2.trans s5, hgo⟩
      | cnt ρ5 => exact hb pn F T1 H1 σ' ρ1 _ _ st1 b1 fun σ5 T5 H5 st5 s5 => ⟨T5, ρ5, st5, s2.trans s5, hgo⟩
      | brk ρ5 =>
        cases hgo
        exact hb pn F T1 H1 σ' ρ1 _ _ st1 b1 fun σ5 T5 H5 st5 s5 => q σ5 T5 H5 st5 (s2.trans s5)
      | ret d ρ5 =>
        cases hgo
        exact hb pn F T1 H1 σ' ρ1 _ _ st1 b1 (OutOk.on (fun _ z => nomatch z) (fun _ z => nomatch z) (fun _ z => nomatch z) (q.step s2))
      | retO d ρ5 =>
        cases hgo
        exact hb pn F T1 H1 σ' ρ1 _ _ st1 b1 (OutOk.on (fun _ z => nomatch z) (fun _ z => nomatch z) (fun _ z => nomatch z) (q.step s2))
/-! ### an owned list becomes data for good -/
def fzE (ρ : Env) (i : Nat) : Env := match ρ[i]? with
  | some (.own cs) => ρ.set i (.dat (.list (cs.map Cel.pd)))
  | _ => ρ
def sFz (i : Nat) (y : XS) : XS := fun ρ => y (fzE ρ i)
theorem StOk.fz1 {pn : Option V} {F : Hs} {T : Trs} {H : Hp} {σ : L2.St} {ρ : Env} (st : StOk pn F T H σ ρ) (i : Nat) : ∃ T', StOk pn F T' H σ (fzE ρ i) ∧ Stp F T H T' H := by
  unfold fzE
  cases hi : ρ[i]? with
  | none => exact ⟨T, st, Stp.refl⟩
  | some s =>
    cases s with
    | un => exact ⟨T, st, Stp.refl⟩
    | dat d => exact ⟨T, st, Stp.refl⟩
    | dic l => exact ⟨T, st, Stp.refl⟩
    | own cs =>
      have sub : Ex (hid (SF F T) H) (hid (SF F (setT T i [])) H) := hid_sub SF_setT_nil
      have mem : ∀ j x, x ∈ setT T i [] j → x ∈ T j ∧ j ≠ i := fun j x h => by
        by_cases c : j = i
        · subst c; rw [setT_same] at h; cases h
        · rw [setT_ne c] at h; exact ⟨h, c⟩
      refine ⟨setT T i [], ⟨by rw [List.length_set]; exact st.len, st.al, fun j x h => st.off j x (mem j x h).1, fun j k x h h' => st.dis j k x (mem j x h).1 (mem k x h').1, fun j => ?_, fun j hj => ?_, fun j q hq => ?_, st.pin⟩, ⟨fun _ _ => rfl, sub⟩⟩
      · by_cases c : j = i
        · subst c; rw [setT_same]; exact List.nodup_nil
        · rw [setT_ne c]; exact st.nd j
      · rw [List.length_set] at hj
        by_cases c : j = i
        · subst c; rw [setT_same]
        · rw [setT_ne c]; exact st.out j hj
      · by_cases c : i = j
        · subst c
          have hl : i < ρ.length := (List.getElem?_eq_some_iff.mp hi).1
          rw [List.getElem?_set_self hl] at hq
          cases hq
          obtain ⟨o, h1, v, rfl, ow⟩ := st.sl i _ hi
          rw [setT_same]
          refine ⟨_, h1, rfl, v, rfl, ow.rp sub fun x hx => hid_out ?_⟩
          rintro (z | ⟨j, z⟩)
          · exact st.off i x hx z
          · obtain ⟨z1, z2⟩ := mem j x z
            exact z2 (st.dis j i x z1 hx)
        · rw [List.getElem?_set_ne c] at hq
          obtain ⟨o', h1, h2⟩ := st.sl j q hq
          rw [setT_ne (fun z => c z.symm)]
          exact ⟨o', h1, h2.mv sub fun _ _ => rfl⟩
theorem ss_fz {i : Nat} {t : TS} {y : XS} (h : SS t y) : SS t (sFz i y) := fun pn F T H σ ρ o D st e q => by
  obtain ⟨T', st', s'⟩ := st.fz1 i
  exact h pn F T' H σ _ o D st' e (q.step s')
/-! ### comprehensions that draw -/
def clearE (ρ : Env) : List Nat → Env
  | [] => ρ
  | v :: vs => (clearE ρ vs).set v .un
def keepD : Option Sl → Sl
  | some (.dat d) => .dat d
  | _ => .un
def backE (ρ1 ρ : Env) : List Nat → Env
  | [] => ρ
  | v :: vs => (backE ρ1 ρ vs).set v (keepD ρ1[v]?)
theorem StOk.clear {pn : Option V} {F : Hs} {H : Hp} {σ : L2.St} {ρ : Env} : ∀ {T : Trs} (vs : List Nat), 0 ∉ vs → StOk pn F T H σ ρ → ∃ T', StOk pn F T' H (wipe σ vs) (clearE ρ vs) ∧ Stp F T H T' H
  | T, [], _, st => ⟨T, st, Stp.refl⟩
  | T, v :: vs, h0, st => by
    obtain ⟨T1, st1, s1⟩ := StOk.clear vs (fun z => h0 (List.mem_cons_of_mem _ z)) st
    obtain ⟨st2, s2⟩ := st1.drop (i := v) (o := none) (s := .un) (fun z => h0 (by rw [z]; exact List.mem_cons_self ..)) rfl
    exact ⟨_, st2, s1.trans s2⟩
theorem clearE_len {ρ : Env} : ∀ vs : List Nat, (clearE ρ vs).length = ρ.length
  | [] => rfl
  | v :: vs => by unfold clearE; rw [List.length_set, clearE_len vs]
theorem backE_len {ρ1 ρ : Env} : ∀ vs : List Nat, (backE ρ1 ρ vs).length = ρ.length
  | [] => rfl
  | v :: vs => by unfold backE; rw [List.length_set, backE_len vs]
theorem clearE_off {ρ : Env} {i : Nat} : ∀ {vs : List Nat}, i ∉ vs → (clearE ρ vs)[i]? = ρ[i]?
  | [], _ => rfl
  | v :: vs, h => by
    unfold clearE
    rw [List.getElem?_set_ne (fun z => h (by rw [← z]; exact List.mem_cons_self ..))]
    exact clearE_off fun z => h (List.mem_cons_of_mem _ z)
theorem clearE_at {ρ : Env} {i : Nat} : ∀ {vs : List Nat}, i ∈ vs → i < ρ.length → (clearE ρ vs)[i]? = some .un
  | v :: vs, h, hl => by
    unfold clearE
    by_cases c : v = i
    · subst c; exact List.getElem?_set_self (by rw [clearE_len]; exact hl)
    · rw [List.getElem?_set_ne c]
      exact clearE_at ((List.mem_cons.mp h).resolve_left fun z => c z.symm) hl
theorem backE_off {ρ1 ρ : Env} {i : Nat} : ∀ {vs : List Nat}, i ∉ vs → (backE ρ1 ρ vs)[i]? = ρ[i]?
  | [], _ => rfl
  | v :: vs, h => by
    unfold backE
    rw [List.getElem?_set_ne (fun z => h (by rw [← z]; exact List.mem_cons_self ..))]
    exact backE_off fun z => h (List.mem_cons_of_mem _ z)
theorem backE_at {ρ1 ρ : Env} {i : Nat} : ∀ {vs : List Nat}, i ∈ vs → i < ρ.length → (backE ρ1 ρ vs)[i]? = some (keepD ρ1[i]?)
  | v :: vs, h, hl => by
    unfold backE
    by_cases c : v = i
    · subst c; exact List.getElem?_set_self (by rw [backE_len]; exact hl)
    · rw [List.getElem?_set_ne c]
      exact backE_at ((List.mem_cons.mp h).resolve_left fun z => c z.symm) hl
def wlGo (g : XG) (t : XWT) (e : XW) (vs : List Nat) : List PD → Env → Option (List PD × Env)
  | [], ρ => some ([], ρ)
  | x :: xs, ρ => (g x (clearE ρ vs)).bind fun ρ1 => (t ρ1).bind fun b => if b.1 = true then (e b.2).bind fun d => (wlGo g t e vs xs d.2).bind fun r => some (d.1 :: r.1, r.2) else wlGo g t e vs xs b.2
def wLc (src : XWI) (g : XG) (t : XWT) (e : XW) (vs : List Nat) : XWO := fun ρ => (src ρ).bind fun x => if x.1.length ≤ 40000 then (wlGo g t e vs x.1 x.2).bind fun r => some (r.1.map Cel.dat, backE x.2 r.2 vs) else none
theorem wl_step {g : XG} {t : XWT} {e : XW} {vs : List Nat} {ρ : Env} {x : PD} {xs : List PD} {r : List PD × Env} (h : wlGo g t e vs (x :: xs) ρ = some r) : ∃ ρ1 b ρ2, g x (clearE ρ vs) = some ρ1 ∧ t ρ1 = some (b, ρ2) ∧ ((b = true ∧ ∃ d ρ3 r', e ρ2 = some (d, ρ3) ∧ wlGo g t e vs xs ρ3 = some r' ∧ r = (d :: r'.1, r'.2)) ∨ (b = false ∧ wlGo g t e vs xs ρ2 = some r)) := by
  obtain ⟨ρ1, h1, h⟩ := bind_some (show (g x (clearE ρ vs)).bind _ = some r from h)
  obtain ⟨⟨b, ρ2⟩, h2, h⟩ := bind_some h
  refine ⟨ρ1, b, ρ2, h1, h2, ?_⟩
  cases b with
  | true =>
    obtain ⟨⟨d, ρ3⟩, h3, h⟩ := bind_some (show (e ρ2).bind _ = some r from h)
    obtain ⟨r', h4, h⟩ := bind_some h
    cases h
    exact .inl ⟨rfl, d, ρ3, r', h3, h4, rfl⟩
  | false => exact .inr ⟨rfl, h⟩
theorem swo_lc {b : Bool} {wi : TI} {g : TG} {tt : TT} {te : TE} {vs us : List Nat} {src : XWI} {xg : XG} {t : XWT} {e : XW} (hs : SWI b wi src) (hg : SG b g xg us) (hu : ∀ i ∈ us, i ∈ vs) (h0 : 0 ∉ vs) (ht : SWT tt t) (he : SW te e) : SWO (tLc wi g tt te vs) (wLc src xg t e vs) := fun pn F T H σ ρ cs ρ' st hh Q q => by
  obtain ⟨⟨xs, ρ1⟩, h1, hh⟩ := bind_some hh
  by_cases hz : xs.length ≤ 40000
  · rw [if_pos hz] at hh
    obtain ⟨r, h2, hh⟩ := bind_some hh
    have h2 : wlGo xg t e vs xs ρ1 = some r := h2
    cases hh
    refine hs pn F T H σ ρ xs ρ1 st h1 _ fun J T1 H1 st1 s1 wk D hD => ?_
    have alD : ∀ {H' : Hp} {v : HO}, H' D = some v → H' D ≠ none := fun e z => by rw [e] at z; cases z
    obtain ⟨st2, vis2⟩ := st1.fresh (Ex.new (o := .lst []) hD) hD (by rw [upd_same]; exact fun z => nomatch z)
    obtain ⟨T3, st3, s3⟩ := st2.clear vs h0
    have npF : ∀ x, F x → x ≠ D := fun x hx z => by
      have := st1.al x hx
      rw [z, hD] at this
      exact this rfl
    refine ⟨fun i m H' => m = xs.length - i ∧ i ≤ xs.length ∧ ∃ T' ρ' acc ds1 r', StOk pn (FL F [D]) T' H' (wipe σ vs) (clearE ρ' vs) ∧ ρ'.length = ρ1.length ∧ (∀ x, F x → H' x = H1 x) ∧ Ex (hid (SF F T1) H1) (hid (SF (FL F [D]) T') H') ∧ H' D = some (.lst acc) ∧ acc.length ≤ i ∧ RpAll (hid (SF (FL F [D]) T') H') acc ds1 ∧ wlGo xg t e vs (xs.drop i) ρ' = some r' ∧ r = (ds1 ++ r'.1, r'.2),
      ⟨_, rfl, Nat.zero_le _, T3, ρ1, [], [], r, st3, rfl, fun x hx => upd_ne (npF x hx), vis2.trans s3.vis, upd_same, Nat.le_refl _, .nil, h2, rfl⟩, fun i m H' hw => ?_⟩
    obtain ⟨rfl, hi, T', ρ', acc, ds1, r', st', hlen, fr', vis', hacc, la, ra, hgo, hr⟩ := hw
    obtain ⟨w1, w2⟩ := wk _ H' vis' st'.als
    by_cases hlt : i < xs.length
    · obtain ⟨w3, w4⟩ := w2 i _ (List.getElem?_eq_getElem hlt)
      rw [List.drop_eq_getElem_cons hlt] at hgo
      obtain ⟨ρ4, b4, ρ5, g4, t4, alt⟩ := wl_step hgo
      refine .inr ⟨w3, fun H2 => ∃ T' ρ' acc ds1 r', StOk pn (FL F [D]) T' H2 (wipe σ vs) (clearE ρ' vs) ∧ ρ'.length = ρ1.length ∧ (∀ x, F x → H2 x = H1 x) ∧ Ex (hid (SF F T1) H1) (hid (SF (FL F [D]) T') H2) ∧ H2 D = some (.lst acc) ∧ acc.length ≤ i + 1 ∧ RpAll (hid (SF (FL F [D]) T') H2) acc ds1 ∧ wlGo xg t e vs (xs.drop (i + 1)) ρ' = some r' ∧ r = (ds1 ++ r'.1, r'.2), fun H2 hn => ⟨_, by omega, rfl, hlt, hn⟩, fun v H3 y => ?_⟩
      obtain ⟨e3, rv⟩ := w4 v H3 y
      have st3 := st'.ex e3
      have s3 : Stp (FL F [D]) T' H' T' H3 := Stp.ex st'.al e3
      refine hg pn (FL F [D]) T' H3 (wipe σ vs) v _ _ ρ4 st3 g4 rv _ fun σ4 T4 st4 s4 off => ⟨wipe_off off hu, ?_⟩
      refine ht pn (FL F [D]) T4 H3 σ4 ρ4 b4 ρ5 st4 t4 _ fun T5 H5 st5 s5 => ?_
      have s15 := (s3.trans s4).trans s5
      have hD5 : H5 D = some (.lst acc) := by rw [s15.fr D (.inr (List.mem_cons_self ..))]; exact hacc
      rcases alt with ⟨rfl, d, ρ6, r6, f1, f2, rfl⟩ | ⟨rfl, f2⟩
      · show te σ4 H5 _
        refine he pn (FL F [D]) T5 H5 σ4 ρ5 d ρ6 st5 f1 _ fun z T6 H6 st6 s6 rz => ?_
        have s16 := s15.trans s6
        have hD6 : H6 D = some (.lst acc) := by rw [s6.fr D (.inr (List.mem_cons_self ..))]; exact hD5
        refine ⟨acc, hD6, Evl.sz_lt (by omega), ?_⟩
        have hS : SF (FL F [D]) T6 D := .inl (.inr (List.mem_cons_self ..))
        have vis7 : Ex (hid (SF (FL F [D]) T6) H6) (hid (SF (FL F [D]) T6) (upd H6 D (.lst (acc ++ [z])))) := fun x o h => by
          obtain ⟨c, h⟩ := hid_some h
          rw [hid_out c, upd_ne (fun z => c (by rw [z]; exact hS))]
          exact h
        have st7 : StOk pn (FL F [D]) T6 (upd H6 D (.lst (acc ++ [z]))) σ4 ρ6 := st6.mv vis7 (fun j x hx => upd_ne fun z => st6.off j x hx (by rw [z]; exact .inr (List.mem_cons_self ..))) fun x hx => by
          by_cases c : x = D
          · subst c; rw [upd_same]; exact fun z => nomatch z
          · rw [upd_ne c]; exact st6.al x hx
        obtain ⟨T8, st8, s8⟩ := st7.clear vs h0
        rw [wipe_off off hu] at st8
        have vis8 := vis7.trans s8.vis
        refine ⟨T8, ρ6, acc ++ [z], ds1 ++ [d], r6, st8, ?_, fun x hx => ?_, ((vis'.trans s16.vis).trans vis8), upd_same, by rw [List.length_append]; simpa using la, RpAll.append (ra.ex (s16.vis.trans vis8)) (.cons (rz.ex vis8) .nil), f2, by rw [hr]; simp⟩
        · have l6 := st6.len
          have l5 := off.1
          rw [wipe_length] at l5
          have l1 := st1.len
          omega
        · rw [upd_ne (npF x hx), s16.fr x (.inl hx)]
          exact fr' x hx
      · obtain ⟨T8, st8, s8⟩ := st5.clear vs h0
        rw [wipe_off off hu] at st8
        refine ⟨T8, ρ5, acc, ds1, r', st8, ?_, fun x hx => ?_, (vis'.trans s15.vis).trans s8.vis, hD5, by omega, ra.ex (s15.vis.trans s8.vis), f2, hr⟩
        · have l6 := st5.len
          have l5 := off.1
          rw [wipe_length] at l5
          have l1 := st1.len
          omega
        · rw [s15.fr x (.inl hx)]
          exact fr' x hx
    · have ei : i = xs.length := by omega
      subst ei
      rw [List.drop_length] at hgo
      cases hgo
      rw [List.append_nil] at hr
      subst hr
      refine .inl ⟨w1, q (.ref D) [D] T' H' ⟨?_, st'.al, st'.off, st'.dis, st'.nd, fun j hj => st'.out j (by rw [backE_len] at hj; rw [clearE_len]; exact hj), fun j s hj => ?_, fun v hv => st1.pin v hv⟩ (by simp) (fun x hx => ?_) (fun x hx => (fr' x hx).trans (s1.fr x hx)) (s1.vis.trans vis') ⟨D, acc, [], rfl, hacc, Cels.dats ra, rfl⟩⟩
      · rw [backE_len, hlen]; exact st1.len
      · have hjl : j < ρ'.length := by
          have := (List.getElem?_eq_some_iff.mp hj).1
          rw [backE_len] at this
          exact this
        by_cases c : j ∈ vs
        · rw [backE_at c hjl] at hj
          cases hj
          obtain ⟨o', _, h2⟩ := st'.sl j .un (clearE_at c hjl)
          have hT : T' j = [] := h2
          have hσ : j < σ.length := by rw [st1.len, ← hlen]; exact hjl
          rw [hT]
          have h9 : ρ1[j]? = some (ρ1[j]'(by rw [← hlen]; exact hjl)) := List.getElem?_eq_getElem _
          rw [h9]
          obtain ⟨o9, k1, k2⟩ := st1.sl j _ h9
          cases hs9 : ρ1[j]'(by rw [← hlen]; exact hjl) with
          | un => exact ⟨_, List.getElem?_eq_getElem hσ, rfl⟩
          | own cs => exact ⟨_, List.getElem?_eq_getElem hσ, rfl⟩
          | dic l => exact ⟨_, List.getElem?_eq_getElem hσ, rfl⟩
          | dat d =>
            rw [hs9] at k2
            obtain ⟨_, v, rfl, rv⟩ := k2
            exact ⟨_, k1, rfl, v, rfl, rv.ex vis'⟩
        · rw [backE_off c] at hj
          obtain ⟨o', k1, k2⟩ := st'.sl j s (by rw [clearE_off c]; exact hj)
          rw [wipe_get c] at k1
          exact ⟨o', k1, k2⟩
      · have ex : x = D := by simpa using hx
        rw [ex]
        exact fun z => npF D z rfl
  · rw [if_neg hz] at hh; cases hh
/-! ### defs -/
def runP (n k : Nat) (X : XS) (ds : List PD) : Option PD := if ds.length = n then (X (ds.map Sl.dat ++ List.replicate k Sl.un)).bind fun o => match o with
  | .ret d _ => some d
  | .nxt _ => some .none
  | _ => none else none
def runW (n k : Nat) (X : XS) (cs : List Cel) (ds : List PD) : Option (PD × List Cel) := if ds.length = n then (X (.own cs :: (ds.map Sl.dat ++ List.replicate k Sl.un))).bind fun o => match o with
  | .ret d ρ => (ownAt ρ 0).bind fun cs' => some (d, cs')
  | .nxt ρ => (ownAt ρ 0).bind fun cs' => some (.none, cs')
  | _ => none else none
def runD (n k : Nat) (X : XS) (ds : List PD) : Option (List Cel) := if ds.length = n then (X (ds.map Sl.dat ++ List.replicate k Sl.un)).bind fun o => match o with
  | .retO cs _ => some cs
  | _ => none else none
/-- a def that gives a new list, owned -/
def spD (f : List PD → Option (List Cel)) : Sp := fun vs H Q _ => ∃ S ds cs, Al S H ∧ RpAll (hid S H) vs ds ∧ f ds = some cs ∧ ∀ v A H2, Ex H H2 → A.Nodup → (∀ x ∈ A, ¬ S x ∧ H x = none) → Own (hid (FL S A) H2) H2 v cs A → Q v H2
theorem sw_callD {f : List PD → Option (List Cel)} {ts : TA} {as : XWA} (hs : SWA ts as) : SWO (tCall (spD f) [] E0 ts) (fun ρ => (as ρ).bind fun x => (f x.1).bind fun cs => some (cs, x.2)) := fun pn F T H σ ρ cs ρ' st e Q q => by
  obtain ⟨⟨xs, ρ1⟩, h1, e⟩ := bind_some e
  obtain ⟨z, h3, e⟩ := bind_some e
  cases e
  refine hs pn F T H σ ρ xs _ st h1 _ fun vs T1 H1 st1 s1 rv => ⟨SF F T1, xs, cs, st1.als, by rw [List.append_nil]; exact rv, h3, fun v A H2 e2 nd off ow => ?_⟩
  have eq : SF (FL F A) T1 = FL (SF F T1) A := funext fun x => propext ⟨fun h => h.elim (fun h => h.elim (fun z => .inl (.inl z)) .inr) fun z => .inl (.inr z), fun h => h.elim (fun h => h.elim (fun z => .inl (.inl z)) .inr) fun z => .inl (.inr z)⟩
  have vis : Ex (hid (SF F T1) H1) (hid (SF (FL F A) T1) H2) := fun x o h => by
    obtain ⟨c, h⟩ := hid_some h
    rw [hid_out]
    · exact e2 x o h
    · rw [eq]
      rintro (z | z)
      · exact c z
      · rw [(off x z).2] at h; cases h
  have st2 := st1.ex e2
  refine q v A T1 H2 ⟨st2.len, fun x hx => hx.elim (st2.al x) (fun z => let ⟨ws, g⟩ := ow.lst x z; fun w => by rw [g] at w; cases w), fun i x hx z => z.elim (st1.off i x hx) fun z => (off x z).1 (.inr ⟨i, hx⟩), st2.dis, st2.nd, st2.out, fun i s hi => ?_, st2.pin⟩ nd (fun x hx z => (off x hx).1 (.inl z)) (fun x hx => ((Stp.ex (T := T1) st1.al e2).fr x hx).trans (s1.fr x hx)) (s1.vis.trans vis) (by rw [eq]; exact ow)
  obtain ⟨o, k1, k2⟩ := st1.sl i s hi
  refine ⟨o, k1, k2.mv vis fun x hx => ?_⟩
  obtain ⟨ws, g, _⟩ := st1.lst hx
  rw [g, e2 x _ g]
theorem st0 {S : Hs} {H : Hp} {N : List Str} {vs : List V} {ds : List PD} {n k : Nat} (al : Al S H) (ra : RpAll (hid S H) vs ds) (hn : ds.length = n) (hN : N.length = n + k) : StOk none S (fun _ => []) H (L2.start N vs) (ds.map Sl.dat ++ List.replicate k Sl.un) := by
  have e : N.length - vs.length = k := by rw [ra.length, hN, hn]; omega
  have eS : ∀ x, S x ↔ SF S (fun _ => []) x := fun x => ⟨.inl, fun h => h.elim id fun ⟨_, z⟩ => nomatch z⟩
  refine ⟨by unfold L2.start; rw [List.length_append, List.length_map, List.length_append, List.length_map, List.length_replicate, List.length_replicate, e, ra.length], al, fun i x h => (nomatch h), fun i j x h => (nomatch h), fun i => List.nodup_nil, fun i _ => rfl, fun i s hi => ?_, fun v z => nomatch z⟩
  unfold L2.start
  rw [e]
  by_cases c : i < ds.length
  · rw [List.getElem?_append_left (by rw [List.length_map]; exact c), List.getElem?_map, List.getElem?_eq_getElem c] at hi
    cases hi
    obtain ⟨v, h1, h2⟩ := ra.get (List.getElem?_eq_getElem c)
    refine ⟨some v, ?_, rfl, v, rfl, ?_⟩
    · rw [List.getElem?_append_left (by rw [List.length_map, ra.length]; exact c), List.getElem?_map, h1]
      rfl
    · rw [← hid_eq eS]; exact h2
  · rw [List.getElem?_append_right (by rw [List.length_map]; omega), List.getElem?_replicate] at hi
    rw [List.getElem?_append_right (by rw [List.length_map, ra.length]; omega), List.getElem?_replicate]
    rw [List.length_map] at hi ⊢
    rw [ra.length]
    split at hi
    · rename_i c2
      cases hi
      exact ⟨none, by rw [if_pos c2], rfl⟩
    · cases hi
theorem go_P {t : TS} {X : XS} {N : List Str} {vs : List V} {H : Hp} {Q : VK} {E : XK} {n k : Nat} (hX : SS t X) (hN : N.length = n + k) (hs : spF (runP n k X) vs H Q E) : t { nx := fun _ H' => Q .non H', rt := Q } (L2.start N vs) H := by
  obtain ⟨S, ds, d, al, ra, h, q⟩ := hs
  unfold runP at h
  by_cases hn : ds.length = n
  · rw [if_pos hn] at h
    obtain ⟨o, h1, h⟩ := bind_some h
    have eS : ∀ {T' : Trs} x, S x → SF S T' x := fun x => .inl
    have ex : ∀ {T' : Trs} {H' : Hp}, Stp S (fun _ => []) H T' H' → Ex H H' := fun {T' H'} s x o hx => by
      by_cases c : S x
      · rw [s.fr x c]; exact hx
      · exact hid_le _ _ (s.vis x o (by rw [hid_out (fun z => z.elim c fun ⟨_, z⟩ => nomatch z)]; exact hx))
    refine hX none S _ H _ _ o _ (st0 al ra hn hN) h1 ?_
    cases o with
    | ret d' ρ' => cases h; exact fun v σ T' H' st' s' rv => q v H' (ex s') (rv.ex (hid_sub fun x hx => .inl hx))
    | nxt ρ' => cases h; exact fun σ T' H' st' s' => q .non H' (ex s') .non
    | retO _ _ => cases h
    | brk _ => cases h
    | cnt _ => cases h
  · rw [if_neg hn] at h; cases h
theorem go_D {t : TS} {X : XS} {N : List Str} {vs : List V} {H : Hp} {Q : VK} {E : XK} {n k : Nat} (hX : SS t X) (hN : N.length = n + k) (hs : spD (runD n k X) vs H Q E) : t { nx := fun _ H' => Q .non H', rt := Q } (L2.start N vs) H := by
  obtain ⟨S, ds, d, al, ra, h, q⟩ := hs
  unfold runD at h
  by_cases hn : ds.length = n
  · rw [if_pos hn] at h
    obtain ⟨o, h1, h⟩ := bind_some h
    refine hX none S _ H _ _ o _ (st0 al ra hn hN) h1 ?_
    cases o with
    | retO d' ρ' =>
      cases h
      intro v A σ T' H' st' nd off fr vis ow
      have ex : Ex H H' := fun x o hx => by
        by_cases c : S x
        · rw [fr x c]; exact hx
        · exact hid_le _ _ (vis x o (by rw [hid_out (fun z => z.elim c fun ⟨_, z⟩ => nomatch z)]; exact hx))
      refine q v A H' ex nd (fun x hx => ⟨off x hx, ?_⟩) (ow.mv (hid_sub fun x hx => .inl hx) fun _ _ => rfl)
      cases qq : H x with
      | none => rfl
      | some o =>
        obtain ⟨c, _⟩ := hid_some (vis x o (by rw [hid_out (fun z => z.elim (off x hx) fun ⟨_, z⟩ => nomatch z)]; exact qq))
        exact absurd (.inl (.inr hx)) c
    | ret _ _ => cases h
    | nxt _ => cases h
    | brk _ => cases h
    | cnt _ => cases h
  · rw [if_neg hn] at h; cases h
theorem go_W {t : TS} {X : XS} {N : List Str} {vs : List V} {H : Hp} {Q : VK} {E : XK} {n k : Nat} (hX : SS t X) (hN : N.length = n + 1 + k) (hs : spW (runW n k X) vs H Q E) : t { nx := fun _ H' => Q .non H', rt := Q } (L2.start N vs) H := by
  obtain ⟨F, a, B, cs, ws, ds, d, cs', rfl, al, off, nd, ow, ra, h, q⟩ := hs
  unfold runW at h
  by_cases hn : ds.length = n
  · rw [if_pos hn] at h
    obtain ⟨o, h1, h⟩ := bind_some h
    obtain ⟨T, hT⟩ : ∃ T : Trs, T = fun i => if i = 0 then a :: B else [] := ⟨_, rfl⟩
    have T0 : T 0 = a :: B := by rw [hT]; rfl
    have TS : ∀ i, i ≠ 0 → T i = [] := fun i hi => by rw [hT]; exact if_neg hi
    have eqv : ∀ x, FL F (a :: B) x ↔ SF F T x := fun x => by
      constructor
      · rintro (z | z)
        · exact .inl z
        · exact .inr ⟨0, by rw [T0]; exact z⟩
      · rintro (z | ⟨i, z⟩)
        · exact .inl z
        · by_cases c : i = 0
          · subst c; rw [T0] at z; exact .inr z
          · rw [TS i c] at z; cases z
    have eh : hid (FL F (a :: B)) H = hid (SF F T) H := hid_eq eqv
    have e : N.length - (V.ref a :: ws).length = k := by rw [List.length_cons, ra.length, hN, hn]; omega
    have st : StOk (some (.ref a)) F T H (L2.start N (.ref a :: ws)) (.own cs :: (ds.map Sl.dat ++ List.replicate k Sl.un)) := by
      have mem : ∀ i x, x ∈ T i → i = 0 ∧ x ∈ a :: B := fun i x hx => by
        by_cases c : i = 0
        · subst c; rw [T0] at hx; exact ⟨rfl, hx⟩
        · rw [TS i c] at hx; cases hx
      refine ⟨?_, al, fun i x hx => off x (mem i x hx).2, fun i j x hx hy => (mem i x hx).1.trans (mem j x hy).1.symm, fun i => ?_, fun i hi => TS i (by rw [List.length_cons] at hi; omega), fun i s hi => ?_, fun v hv => ?_⟩
      · unfold L2.start
        rw [e]
        simp only [List.map_cons, List.cons_append, List.length_cons, List.length_append, List.length_map, List.length_replicate]
        rw [ra.length]
      · by_cases c : i = 0
        · subst c; rw [T0]; exact nd
        · rw [TS i c]; exact List.nodup_nil
      · unfold L2.start
        rw [e]
        cases i with
        | zero =>
          cases hi
          rw [T0]
          exact ⟨_, rfl, _, rfl, by rw [← eh]; exact ow⟩
        | succ i =>
          rw [TS _ (Nat.succ_ne_zero i)]
          have hi : (ds.map Sl.dat ++ List.replicate k Sl.un)[i]? = some s := hi
          show ∃ o, (ws.map some ++ List.replicate k none)[i]? = some o ∧ _
          by_cases c : i < ds.length
          · rw [List.getElem?_append_left (by rw [List.length_map]; exact c), List.getElem?_map, List.getElem?_eq_getElem c] at hi
            cases hi
            obtain ⟨v, k1, k2⟩ := ra.get (List.getElem?_eq_getElem c)
            refine ⟨some v, ?_, rfl, v, rfl, by rw [← eh]; exact k2⟩
            rw [List.getElem?_append_left (by rw [List.length_map, ra.length]; exact c), List.getElem?_map, k1]
            rfl
          · rw [List.getElem?_append_right (by rw [List.length_map]; omega), List.getElem?_replicate] at hi
            rw [List.getElem?_append_right (by rw [List.length_map, ra.length]; omega), List.getElem?_replicate]
            rw [List.length_map] at hi ⊢
            rw [ra.length]
            split at hi
            · rename_i c2
              cases hi
              exact ⟨none, by rw [if_pos c2], rfl⟩
            · cases hi
      · cases hv
        unfold L2.start
        rfl
    have fin : ∀ (v : V) (d1 : PD) (cs1 : List Cel) (σ : L2.St) (ρ1 : Env) (T' : Trs) (H' : Hp), StOk (some (.ref a)) F T' H' σ ρ1 → Stp F T H T' H' → Rp (hid (SF F T') H') v d1 → ownAt ρ1 0 = some cs1 → (d1, cs1) = (d, cs') → Q v H' := by
      intro v d1 cs1 σ ρ1 T' H' st' s' rv ho e2
      cases e2
      obtain ⟨a', us, B', h1, h2, h3, h4⟩ := st'.at_own (ownAt_eq ho)
      have hp := st'.pin _ rfl
      have ea : a' = a := by rw [h1] at hp; cases hp; rfl
      subst ea
      have sub : Ex (hid (SF F T') H') (hid (FL F (a' :: B')) H') := hid_sub fun x hx => hx.elim .inl fun z => .inr ⟨0, by rw [h4]; exact z⟩
      refine q v B' H' s'.fr (by rw [eh]; exact s'.vis.trans sub) (fun x hx => st'.off 0 x (by rw [h4]; exact hx)) (by rw [← h4]; exact st'.nd 0) ⟨a', us, B', rfl, h2, h3.mv sub fun _ _ => rfl, rfl⟩ (rv.ex sub)
    refine hX (some (.ref a)) F T H _ _ o _ st h1 ?_
    cases o with
    | ret d' ρ' =>
      obtain ⟨c1, k1, k2⟩ := bind_some h
      exact fun v σ T' H' st' s' rv => fin v d' c1 σ ρ' T' H' st' s' rv k1 (Option.some.inj k2)
    | nxt ρ' =>
      obtain ⟨c1, k1, k2⟩ := bind_some h
      exact fun σ T' H' st' s' => fin .non .none c1 σ ρ' T' H' st' s' .non k1 (Option.some.inj k2)
    | retO _ _ => cases h
    | brk _ => cases h
    | cnt _ => cases h
  · rw [if_neg hn] at h; cases h
/-! how many arguments -/
theorem len_F {n k : Nat} {X : XS} {vs : List V} {H : Hp} {Q : VK} {E : XK} (h : spF (runP n k X) vs H Q E) : vs.length = n := by
  obtain ⟨S, ds, d, _, ra, h, _⟩ := h
  unfold runP at h
  by_cases hn : ds.length = n
  · rw [ra.length]; exact hn
  · rw [if_neg hn] at h; cases h
theorem len_D {n k : Nat} {X : XS} {vs : List V} {H : Hp} {Q : VK} {E : XK} (h : spD (runD n k X) vs H Q E) : vs.length = n := by
  obtain ⟨S, ds, d, _, ra, h, _⟩ := h
  unfold runD at h
  by_cases hn : ds.length = n
  · rw [ra.length]; exact hn
  · rw [if_neg hn] at h; cases h
theorem len_W {n k : Nat} {X : XS} {vs : List V} {H : Hp} {Q : VK} {E : XK} (h : spW (runW n k X) vs H Q E) : vs.length = n + 1 := by
  obtain ⟨F, a, B, cs, ws, ds, d, cs', rfl, _, _, _, _, ra, h, _⟩ := h
  unfold runW at h
  by_cases hn : ds.length = n
  · rw [List.length_cons, ra.length, hn]
  · rw [if_neg hn] at h; cases h
end Uv

namespace Uv
open PySem PySem.Spec PyProof.Rows L2
open Evl (Ex)
/-! ### defs, called where nothing is under way (so repr tells all) -/
section
variable {P : Program} {w : World} {K : PySem.W.Frag} {mg : Str → Option Value} {base : Heap}
structure FnG (P : Program) (w : World) (K : PySem.W.Frag) (mg : Str → Option Value) (base : Heap) (k : Nat) (f : Addr) (fd : FuncData) (ps : List Str) (sp : Sp) : Prop where
  len : ∀ vs H Q E, sp vs H Q E → vs.length = ps.length
  run : ∀ (A : Around) (outer : List PySem.Env) (s : Shared) (H : Hp) (args : Args) (us : List Value) (vs : List V) (Q : VK) (E : XK), A.guards = some [] → Room k A → Env0 P w K mg base A outer s H → BindsTo s fd args (ps.zip us) → Vals vs us → sp vs H Q E →
    codeAny (model P w) A (.call (.ref f) args) (CR CX0 outer P w H s Q E) s
structure CalG (P : Program) (w : World) (K : PySem.W.Frag) (mg : Str → Option Value) (base : Heap) (k : Nat) (x : Str) (sp : Sp) : Prop where
  ex : ∃ (f : Addr) (fd : FuncData) (ps : List Str), FnG P w K mg base k f fd ps sp ∧ mg x = some (.ref f) ∧ PySem.W.keepIn K (.ref f) = true ∧ Binds K fd ps []
structure Dfn (K : PySem.W.Frag) (mg : Str → Option Value) (x : Str) (st : Stmt) (ps : List Str) : Prop where
  ex : ∃ f fd, Fun K x x st f fd ∧ mg x = some (.ref f) ∧ Binds K fd ps []
theorem dfn_mk {h : Heap} {x : Str} {st : Stmt} {ps : List Str} {f : Addr} {od an : Option Addr} {sl : Array (Option Value)} {oc kV dc pm cd ct : Value} (X : K.In h) (G : h.Ns mainGlobals mg)
    (a1 : PySem.W.nsIn K mainGlobals x = some (some (.ref f))) (l1 : K.lookup f = some ⟨oc, od, .func (PySem.W.fnOf x x (defArgs st) (defBody st) (defScope st) .none kV dc pm an cd ct), sl⟩) (c1 : PySem.W.codeIn K cd x = true) (k1 : PySem.W.keepIn K (.ref f) = true)
    (hb : ∀ (kV doc pm : Value) (an : Option Addr) (cdv ct : Value) (us : List Value), us.length = ps.length → bindArgs (PySem.W.fnOf x x (defArgs st) (defBody st) (defScope st) .none kV doc pm an cdv ct) ⟨us, []⟩ = pure (ps.zip us)) : Dfn K mg x st ps := by
  have F := fun_mk (st := st) l1 c1 k1
  exact ⟨f, _, F, PySem.W.mg_of X G a1, F.binds hb⟩
/-- a call by its name -/
theorem pe_g {X : Cx} {j k : Nat} {x : Str} {sp : Sp} {p pos : Pos} {e : Expr} {es : List Expr} {t : TA} (c : CalG X.prog X.w X.K X.mg X.base k x sp) (hr : Room j X.A) (hk : k ≤ j) (hG : X.A.guards = some []) (hg : Gl X x) (ha : PA X (e :: es) t)
    (hdb : (x == ("__debug__" : Str)) = false := by decide) (he : starEach (e :: es) X.env = (false, eval e X.env) :: starEach es X.env := by rfl) (hpl : (backTo pos (starEach es X.env)).any (·.1) = false := by rfl) :
    PE X (.Call (.Name x p) (e :: es) [] pos) (tCall sp [] E0 t) := by
  obtain ⟨f, fd, ps, F, hm, kp, b⟩ := c.ex
  refine ⟨fun pins s σ H Q I h => wpAny_Call_Name_kw (ld_glob I hg hm ?_ hdb)⟩
  refine PySem.W.callWith_K (h₀ := X.base) I.ok.mod.kin kp (thn (ha.run pos pins s σ H _ I h) fun us s1 hh => ?_) he hpl
  obtain ⟨vs, H1, I1, r, q⟩ := hh
  rw [List.append_nil] at q
  have hl : us.length = ps.length := by rw [← r.length]; exact F.len _ _ _ _ q
  have bd := b s1 us I1.kIn (by rw [List.append_nil]; exact hl)
  rw [List.append_nil] at bd
  refine ⟨I1.kIn, wpAny_call (codeAny_mono (F.run X.A X.stack s1 H1 ⟨us, []⟩ us vs Q E0 hG (hr.mono hk) I1.env0 bd r q) fun rr s' hq => ?_)⟩
  match rr, hq with
  | .error _, hq => exact hq.elim
  | .ok (.ret u), hq => exact I1.after hq
  | .ok .next, hq => exact hq.elim
  | .ok .brk, hq => exact hq.elim
  | .ok .cont, hq => exact hq.elim
/-- a def by its body -/
theorem fn_g {x : Str} {st : Stmt} {f : Addr} {fd : FuncData} {N ps : List Str} {k : Nat} {sp : Sp} (F : Fun K x x st f fd) (S : FnScope N ps (defScope st)) (len : ∀ vs H Q E, sp vs H Q E → vs.length = ps.length)
    (hb : ∀ (cdv : Value) (A : Around) (outer : List PySem.Env) (s : Shared) (H : Hp) (E : XK), (A.deeper (envOfC x (defScope st) s.heap.objs.size f cdv)).guards = some [] → Room k (A.deeper (envOfC x (defScope st) s.heap.objs.size f cdv)) →
      ∃ t, PSs (cxOf CX0 P w K mg base N x (defScope st) f cdv A outer s H E).nox (defBody st) t ∧ ∀ vs Q, sp vs H Q E → t { nx := fun _ H' => Q .non H', rt := Q } (L2.start N vs) H) : FnG P w K mg base (k + 1) f fd ps sp := by
  obtain ⟨oc, od, kV, doc, pm, an, cdv, ct, osl, rfl, lk, hcd⟩ := F.ex
  refine ⟨len, fun A outer s H args us vs Q E hG hr e0 hbd r hsp => ?_⟩
  obtain ⟨t, ht, hq⟩ := hb cdv A outer s H E hG (hr.deeper _)
  have keep : ∀ b o, base.get? b = some o → s.heap.get? b = some o := fun b o e => (e0.bs b o e).1
  have KX : K.In s.heap := e0.mod.kin.keeps keep
  have lim : s.heap.NoLimit := e0.mod.nolimit.keeps keep
  refine codeAny_call_function hr.depth (KX _ _ lk) rfl S.co S.gen rfl (PySem.W.codeRec_of KX hcd) (hbd _ _ _ _ ?_)
  refine wpAny_newFunctionEnv_cells S.kind (fun y hy => ?_) fun env he s1 ic => ?_
  · rcases S.par y.1 (List.of_mem_zip hy).1 with q | q
    · exact .inl q
    · exact .inr ⟨q, PySem.W.cellsFrom_some _ _ _ (.inl q)⟩
  · subst he
    have I : Inv (cxOf CX0 P w K mg base N x (defScope st) f cdv A outer s H E) [] (L2.start N vs) H s1 := inv_start S hr.hd e0 (len _ _ _ _ hsp) r ic
    refine ⟨lim.keeps ic.toInCall.keep, codeAny_func (wpAny_mono (ht.nox.run [] s1 (L2.start N vs) H _ I (hq vs Q hsp)) (fun fl s' hs => ?_) fun e s' hs => hs)⟩
    match fl, hs with
    | .ret u, ⟨v, σ', H', J, rv, q⟩ => exact ⟨v, H', J.os, J.bare, J.base, J.hok, rv, q⟩
    | .next, ⟨σ', H', J, q⟩ => exact ⟨.non, H', J.os, J.bare, J.base, J.hok, rfl, q⟩
    | .brk, ⟨_, _, _, q⟩ => exact q.elim
    | .cont, ⟨_, _, _, q⟩ => exact q.elim
theorem cal_g {x : Str} {st : Stmt} {N ps : List Str} {k : Nat} {sp : Sp} (F : Dfn K mg x st ps) (S : FnScope N ps (defScope st)) (len : ∀ vs H Q E, sp vs H Q E → vs.length = ps.length)
    (hb : ∀ (f : Addr) (cdv : Value) (A : Around) (outer : List PySem.Env) (s : Shared) (H : Hp) (E : XK), (A.deeper (envOfC x (defScope st) s.heap.objs.size f cdv)).guards = some [] → Room k (A.deeper (envOfC x (defScope st) s.heap.objs.size f cdv)) →
      ∃ t, PSs (cxOf CX0 P w K mg base N x (defScope st) f cdv A outer s H E).nox (defBody st) t ∧ ∀ vs Q, sp vs H Q E → t { nx := fun _ H' => Q .non H', rt := Q } (L2.start N vs) H) : CalG P w K mg base (k + 1) x sp := by
  obtain ⟨f, fd, F, hm, b⟩ := F.ex
  exact ⟨f, fd, ps, fn_g F S len (hb f), hm, F.kp, b⟩
end
/-! ### the end -/
/-- the heap behind the top as the layer sees it: the script alone may be tracked, and it is frozen -/
def scriptH (K : PySem.W.Frag) (a : Addr) (vs : List Value) (ns : List Int) : Hp := fun b => if b = a ∧ K.lookup a = none then some (.frz { cls := .type "list", data := .seq vs.toArray } (.lst (ns.map V.int))) else none
theorem scriptH_some {K : PySem.W.Frag} {a b : Addr} {vs : List Value} {ns : List Int} {o : HO} (h : scriptH K a vs ns b = some o) : b = a ∧ K.lookup a = none ∧ o = .frz { cls := .type "list", data := .seq vs.toArray } (.lst (ns.map V.int)) := by
  unfold scriptH at h
  by_cases c : b = a ∧ K.lookup a = none
  · rw [if_pos c] at h
    exact ⟨c.1, c.2, (Option.some.inj h).symm⟩
  · rw [if_neg c] at h
    cases h
theorem none_by {K : PySem.W.Frag} {a b : Addr} {vs : List Value} {ns : List Int} (h : b = a → K.lookup a = none → False) : scriptH K a vs ns b = none := by
  cases q : scriptH K a vs ns b with
  | none => rfl
  | some o =>
    obtain ⟨e1, e2, _⟩ := scriptH_some q
    exact (h e1 e2).elim
theorem top_call {P : Program} {w : World} {K : PySem.W.Frag} {mg mb : Str → Option Value} {k : Nat} {fa a : Addr} {fd : FuncData} {x : Str} {sp : Sp} {s₁ : Shared} {vs : List Value} {ns : List Int}
    (KX : K.In s₁.heap) (hns : s₁.heap.Ns mainGlobals mg) (hb : s₁.heap.Ns builtinsNs mb) (hbb : ∀ x : Str, x ≠ "__name__" → mb x = bootBuiltins x) (hlim : s₁.heap.NoLimit) (hg : s₁.gens = #[])
    (ha : s₁.heap.get? a = some { cls := .type "list", data := .seq vs.toArray }) (hi : IntsAre vs ns) (hl : ns.length ≤ sizeLine) (hr : Room k callerA)
    (F : ∀ base : Heap, K.In base → base.Ns mainGlobals mg → FnG P w K mg base k fa fd [x] sp) (hbind : ∀ (s : Shared) (u : Value), BindsTo s fd ⟨[u], []⟩ [(x, u)])
    (hsp : ∀ H : Hp, SqL K H a (ns.map V.int) → sp [.ref a] H (fun v _ => v = .bl true) fun _ _ _ => False) :
    codeAny (model P w) callerA (.call (.ref fa) ⟨[.ref a], []⟩) (fun r s' => r = .ok (.ret (.bool true)) ∧ OldK s₁.heap s'.heap ∧ s'.os = s₁.os ∧ AllBare s'.gens) s₁ := by
  have rv := vals_ints hi
  have hs : SqL K (scriptH K a vs ns) a (ns.map V.int) := by
    cases hk : K.lookup a with
    | none => exact .inl (.inr ⟨_, if_pos ⟨rfl, hk⟩⟩)
    | some o =>
      have e := KX a o hk
      rw [ha] at e
      cases e
      exact .inr ⟨_, vs.toArray, _, hk, rfl, rfl, rfl, by rw [List.size_toArray, hi.length]; exact hl, by simpa using rv⟩
  have hok : HOk P w (scriptH K a vs ns) s₁.heap := fun b o h => by
    obtain ⟨rfl, _, rfl⟩ := scriptH_some h
    exact ⟨ha, by rw [List.length_map]; exact hl, vs, _, rv, ha⟩
  have old : ∀ {b : Addr} {o : Obj}, s₁.heap.get? b = some o → scriptH K a vs ns b = none → (hidT s₁.heap (scriptH K a vs ns)).get? b = some o := fun e n => hidT_get e n
  have nsK : ∀ {b : Addr} {m : Str → Option Value}, s₁.heap.Ns b m → (hidT s₁.heap (scriptH K a vs ns)).Ns b m := fun {b m} ⟨o, es, ep, e, d, r⟩ => ⟨o, es, ep, old e (none_by fun z _ => by
    subst z
    rw [ha] at e
    cases e
    exact nomatch (show Data.seq vs.toArray _ = Data.dict es ep from d)), d, r⟩
  have kin : K.In (hidT s₁.heap (scriptH K a vs ns)) := fun b o e => old (KX b o e) (none_by fun z q => by
    subst z
    rw [q] at e
    cases e)
  have mod : Mod K mg (hidT s₁.heap (scriptH K a vs ns)) := ⟨kin, nsK hns, ⟨mb, nsK hb, hbb⟩, let ⟨mc, h1, h2⟩ := hlim; ⟨mc, nsK h1, h2⟩⟩
  have e0 : Env0 P w K mg (hidT s₁.heap (scriptH K a vs ns)) callerA [] s₁ (scriptH K a vs ns) := ⟨rfl, mod, fun b o e => of_hidT e, Nat.le_of_eq (hidT_size _ _), trivial, fun b hb => absurd (show b ∈ ([] : List Addr) from hb) (by simp), hok, .of_eq hg⟩
  refine codeAny_mono ((F _ kin (nsK hns)).run callerA [] s₁ _ ⟨[.ref a], []⟩ [.ref a] [.ref a] _ _ rfl hr e0 (hbind s₁ (.ref a)) (.cons rfl .nil) (hsp _ hs)) fun r s' h => ?_
  match r, h with
  | .error e, h => exact h.elim
  | .ok .next, h => exact h.elim
  | .ok .brk, h => exact h.elim
  | .ok .cont, h => exact h.elim
  | .ok (.ret u), ⟨v, H', os, bare, un, hok', r', q⟩ =>
    have q' : v = .bl true := q
    subst q'
    obtain rfl : u = Value.bool true := r'
    refine ⟨rfl, OldK.of_keep fun b o e => ?_, os, bare⟩
    cases q : scriptH K a vs ns b with
    | none => exact un.keep b o e q (fun z => absurd (show b ∈ ([] : List Addr) from z) (by simp)) (by simp)
    | some u =>
      obtain ⟨rfl, _, rfl⟩ := scriptH_some q
      obtain ⟨e1, _⟩ := hok b _ q
      obtain ⟨e2, _⟩ := hok' b _ (un.frzs b _ _ q)
      rw [e] at e1
      cases e1
      exact e2
/-- the row from the law as a function of the script -/
theorem walk_v {l : PySem.W.OpenLaw} {n k : Nat} {q : Program} {loose : List Str} {XP : (Str → Option Value) → Heap → Prop} {YP : World → Heap → Prop} {d : DefRec} {K : Params → PySem.W.Frag} {f : List PD → Option PD} {x : Str}
    (hn : l.most = some n) (hn2 : n ≤ sizeLine) (hdf : d.params.defaults = []) (hr : Room k callerA) (hY : ∀ (w : World) (h : Heap), YP w h → (K w.params).In h)
    (F : ∀ (w : World) (mg : Str → Option Value) (fa : Addr) (h : Heap), (K w.params).In h → h.Ns mainGlobals mg → mg d.name = some (.ref fa) →
      ∃ fd : FuncData, (∀ (s : Shared) (u : Value), BindsTo s fd ⟨[u], []⟩ [(x, u)]) ∧ ∀ base : Heap, (K w.params).In base → base.Ns mainGlobals mg → FnG l.prog w (K w.params) mg base k fa fd [x] (@spF ⟨K w.params⟩ f))
    (hf : ∀ ns : List Int, ns.length ≤ n → f [scrD (ns.map PyData.int)] = some (.bool true)) :
    PySem.W.WalkO q loose XP YP l.row.toRowW d [] (fun f vs => PySem.call f vs) := by
  refine Att.attach_call hn hdf fun w s₀ s₁ mg mb fa o pm cd doc a vs ns G Y ho hd hcd hmg hobj hints hlen hg => ?_
  obtain ⟨fd, hb, hF⟩ := F w mg fa _ (hY w _ Y) G.T.g hmg
  refine top_call (hY w _ Y) G.T.g G.T.b G.T.builtins G.T.nolimit hg hobj hints (Nat.le_trans hlen hn2) hr hF hb fun H hS => ?_
  letI : KK := ⟨K w.params⟩
  have e : ∀ x, ¬ (fun _ : Addr => False) x := fun x z => z
  have eh : hid (fun _ => False) H = H := funext fun x => hid_out (e x)
  refine ⟨fun _ => False, [scrD (ns.map PyData.int)], .bool true, fun x z => z.elim, .cons (.scr (xs := ns.map V.int) (by rw [eh]; exact hS) (RpAll.ofInts ns)) .nil, hf ns hlen, fun v H2 _ rv => ?_⟩
  cases rv
  rfl
end Uv

namespace Uv
open PySem PySem.Spec PyProof.Rows L2
open Evl (Ex)
variable [kk : KK]
def wCallD (f : List PD → Option (List Cel)) (as : XWA) : XWO := fun ρ => (as ρ).bind fun x => (f x.1).bind fun cs => some (cs, x.2)
/-! ### x[k].append(e), e drawn: the list within is kept aside meanwhile -/
def sAppS (i : Nat) (k : XE) (a : XW) : XS := fun ρ => (ownAt ρ i).bind fun cs => ((k (vw ρ)).bind isI).bind fun kk => (ixN cs.length kk).bind fun n => (subAt cs n).bind fun ds => (a (ρ.set i .un)).bind fun x =>
  match x.2[i]? with
  | some .un => if ds.length < 100000 then some (.nxt (x.2.set i (.own (cs.set n (.sub (ds ++ [x.1])))))) else none
  | _ => none
theorem StOk.protect {pn : Option V} {F : Hs} {T : Trs} {H : Hp} {σ : L2.St} {ρ : Env} (st : StOk pn F T H σ ρ) {i : Nat} (hi : i < ρ.length) : StOk pn (FL F (T i)) (setT T i []) H σ (ρ.set i .un) ∧ SF (FL F (T i)) (setT T i []) = SF F T := by
  have eS : SF (FL F (T i)) (setT T i []) = SF F T := funext fun x => propext ⟨fun h => by
      rcases h with (h | h) | ⟨j, h⟩
      · exact .inl h
      · exact .inr ⟨i, h⟩
      · by_cases c : j = i
        · subst c; rw [setT_same] at h; cases h
        · rw [setT_ne c] at h; exact .inr ⟨j, h⟩, fun h => by
      rcases h with h | ⟨j, h⟩
      · exact .inl (.inl h)
      · by_cases c : j = i
        · subst c; exact .inl (.inr h)
        · exact .inr ⟨j, by rw [setT_ne c]; exact h⟩⟩
  have mem : ∀ j x, x ∈ setT T i [] j → x ∈ T j ∧ j ≠ i := fun j x h => by
    by_cases c : j = i
    · subst c; rw [setT_same] at h; cases h
    · rw [setT_ne c] at h; exact ⟨h, c⟩
  refine ⟨⟨by rw [List.length_set]; exact st.len, fun x h => h.elim (st.al x) fun z => st.als x (.inr ⟨i, z⟩), fun j x h z => ?_, fun j k x h h' => st.dis j k x (mem j x h).1 (mem k x h').1, fun j => ?_, fun j hj => ?_, fun j q hq => ?_, st.pin⟩, eS⟩
  · obtain ⟨h1, h2⟩ := mem j x h
    exact z.elim (st.off j x h1) fun z => h2 (st.dis j i x h1 z)
  · by_cases c : j = i
    · subst c; rw [setT_same]; exact List.nodup_nil
    · rw [setT_ne c]; exact st.nd j
  · rw [List.length_set] at hj
    rw [setT_ne (by omega)]
    exact st.out j hj
  · by_cases c : i = j
    · subst c
      rw [List.getElem?_set_self hi] at hq
      cases hq
      rw [setT_same]
      exact ⟨_, List.getElem?_eq_getElem (by rw [st.len]; exact hi), rfl⟩
    · rw [List.getElem?_set_ne c] at hq
      rw [setT_ne (fun z => c z.symm), eS]
      exact st.sl j q hq
theorem ss_appS {i : Nat} {tk te : TE} {k : XE} {a : XW} (hi0 : i ≠ 0) (hk : SE tk k) (h : SW te a) : SS (tDrop (tBM K "list" rAppend (tOp (rIx K) (tVar i) tk) (tCons te tNil))) (sAppS i k a) := fun pn F T H σ ρ o D st e q => by
  obtain ⟨cs, h2, e⟩ := bind_some e
  obtain ⟨kk', h3, e⟩ := bind_some e
  obtain ⟨dk, h3, h4⟩ := bind_some h3
  obtain ⟨n, hn, e⟩ := bind_some e
  obtain ⟨ds, hd, e⟩ := bind_some e
  obtain ⟨⟨d, ρ1⟩, h5, e⟩ := bind_some e
  have ed : dk = _ := isI_eq h4
  subst ed
  have hu : ρ1[i]? = some .un ∧ ds.length < 100000 ∧ o = .nxt (ρ1.set i (.own (cs.set n (.sub (ds ++ [d]))))) := by
    revert e
    show (match ρ1[i]? with | some .un => if ds.length < 100000 then some (Out.nxt (ρ1.set i (.own (cs.set n (.sub (ds ++ [d])))))) else none | _ => none) = some o → _
    cases hq : ρ1[i]? with
    | none => intro e; cases e
    | some s =>
      cases s with
      | un =>
        intro e
        by_cases c : ds.length < 100000
        · have e : (if ds.length < 100000 then some (Out.nxt (ρ1.set i (.own (cs.set n (.sub (ds ++ [d])))))) else none) = some o := e
          rw [if_pos c] at e
          cases e
          exact ⟨rfl, c, rfl⟩
        · have e : (if ds.length < 100000 then some (Out.nxt (ρ1.set i (.own (cs.set n (.sub (ds ++ [d])))))) else none) = some o := e
          rw [if_neg c] at e
          cases e
      | dat _ => intro e; cases e
      | own _ => intro e; cases e
      | dic _ => intro e; cases e
  obtain ⟨hu1, hu2, rfl⟩ := hu
  have hi := ownAt_eq h2
  have il : i < ρ.length := (List.getElem?_eq_some_iff.mp hi).1
  refine ix_sub st hi hn (subAt_eq hd) hk h3 fun b H2 e2 hb => ?_
  have st2 := st.ex e2
  have s2 : Stp F T H T H2 := Stp.ex st.al e2
  obtain ⟨a9, vs9, k1, k2, k3⟩ := hb
  obtain ⟨a', vs', B, g1, g2, g3, g4⟩ := st2.at_own hi
  have ea : a' = a9 := by rw [k1] at g1; cases g1; rfl
  subst ea
  have ev : vs' = vs9 := by rw [k2] at g2; cases g2; rfl
  subst ev
  have nd := st2.nd i
  obtain ⟨st3, eS⟩ := st2.protect il
  obtain ⟨b', ws, _, _, q3, q4, q5, q6, q7, q8, _⟩ := st2.writeSub (ds' := ds) hi (subAt_eq hd)
  refine ⟨.inl ⟨rfl, ?_⟩, h pn _ _ H2 σ _ d ρ1 st3 h5 _ fun v T4 H4 st4 s4 rv => ?_⟩
  · obtain ⟨a8, vs8, b8, ws8, u1, u2, u3, u4, u5, u6, _⟩ := st2.writeSub (ds' := ds) hi (subAt_eq hd)
    have ea : a8 = a' := by rw [k1] at u1; cases u1; rfl
    subst ea
    have ev : vs8 = vs' := by rw [k2] at u2; cases u2; rfl
    subst ev
    have eb : b8 = b := by rw [k3] at u3; cases u3; rfl
    subst eb
    exact ⟨ws8, .inl (.inl u5)⟩
  · -- the slot again
    have hT : T i = a' :: B := g4
    have ow : Own (hid (SF F T) H2) H2 (.ref a') cs (T i) := ⟨a', vs', B, rfl, k2, g3, hT⟩
    have vis4 := s4.vis
    rw [eS] at vis4
    have ow4 : Own (hid (SF (FL F (T i)) T4) H4) H4 (.ref a') cs (T i) := ow.mv vis4 fun x hx => s4.fr x (.inr hx)
    have il4 : i < ρ1.length := (List.getElem?_eq_some_iff.mp hu1).1
    obtain ⟨st5, vis5⟩ := st4.own (i := i) hi0 il4 ow4 nd (fun x hx => st2.off i x hx)
    have eσ : σ.set i (some (.ref a')) = σ := by
      apply List.ext_getElem?
      intro j
      by_cases c : i = j
      · subst c
        rw [List.getElem?_set_self (by rw [st.len]; exact il)]
        exact k1.symm
      · rw [List.getElem?_set_ne c]
    rw [eσ] at st5
    have hi5 : (ρ1.set i (.own cs))[i]? = some (.own cs) := List.getElem?_set_self il4
    obtain ⟨a8, vs8, b8, ws8, u1, u2, u3, u4, u5, u6, f⟩ := st5.writeSub (ds' := ds) hi5 (subAt_eq hd)
    have ea : a8 = a' := by rw [k1] at u1; cases u1; rfl
    subst ea
    have fr4 : H4 a8 = H2 a8 := s4.fr a8 (.inr (by rw [hT]; exact List.mem_cons_self ..))
    have ev : vs8 = vs' := by rw [fr4, k2] at u2; cases u2; rfl
    subst ev
    have eb : b8 = b := by rw [k3] at u3; cases u3; rfl
    subst eb
    have rv5 := rv.ex vis5
    obtain ⟨st6, s6⟩ := f (ws8 ++ [v]) (ds ++ [d]) (u6.append (.cons rv5 .nil))
    rw [List.set_set] at st6
    refine ⟨b8, ws8, v, rfl, rfl, u5, by rw [u6.length]; exact Evl.sz_lt hu2, q σ _ _ st6 ?_⟩
    refine (s2.trans ⟨fun x hx => s4.fr x (.inl hx), vis4.trans vis5⟩).trans s6
/-! ### sorted -/
def insI (x : Int) : List Int → List Int
  | [] => [x]
  | y :: ys => if x ≤ y then x :: y :: ys else y :: insI x ys
def sortI : List Int → List Int
  | [] => []
  | x :: xs => insI x (sortI xs)
theorem insI_perm (x : Int) : ∀ ys : List Int, (insI x ys).Perm (x :: ys)
  | [] => .refl _
  | y :: ys => by
    unfold insI
    by_cases c : x ≤ y
    · rw [if_pos c]
    · rw [if_neg c]
      exact ((insI_perm x ys).cons y).trans (.swap x y ys)
theorem sortI_perm : ∀ xs : List Int, (sortI xs).Perm xs
  | [] => .refl _
  | x :: xs => (insI_perm x _).trans ((sortI_perm xs).cons x)
theorem insI_sorted (x : Int) : ∀ {ys : List Int}, ys.Pairwise (· ≤ ·) → (insI x ys).Pairwise (· ≤ ·)
  | [], _ => by simp [insI]
  | y :: ys, h => by
    unfold insI
    obtain ⟨h1, h2⟩ := List.pairwise_cons.mp h
    by_cases c : x ≤ y
    · rw [if_pos c]
      refine List.pairwise_cons.mpr ⟨fun z hz => ?_, h⟩
      rcases List.mem_cons.mp hz with e | e
      · rw [e]; exact c
      · exact Int.le_trans c (h1 z e)
    · rw [if_neg c]
      refine List.pairwise_cons.mpr ⟨fun z hz => ?_, insI_sorted x h2⟩
      rcases List.mem_cons.mp ((insI_perm x ys).mem_iff.mp hz) with e | e
      · rw [e]; omega
      · exact h1 z e
theorem sortI_sorted : ∀ xs : List Int, (sortI xs).Pairwise (· ≤ ·)
  | [] => .nil
  | x :: xs => insI_sorted x (sortI_sorted xs)
theorem sorted_eq : ∀ {xs ys : List Int}, xs.Perm ys → xs.Pairwise (· ≤ ·) → ys.Pairwise (· ≤ ·) → xs = ys
  | [], ys, p, _, _ => (List.perm_nil.mp p.symm).symm ▸ rfl
  | x :: xs, [], p, _, _ => absurd (List.perm_nil.mp p) (by simp)
  | x :: xs, y :: ys, p, h, h' => by
    obtain ⟨h1, h2⟩ := List.pairwise_cons.mp h
    obtain ⟨h3, h4⟩ := List.pairwise_cons.mp h'
    have e : x = y := by
      have a1 : x ∈ y :: ys := p.mem_iff.mp (List.mem_cons_self ..)
      have a2 : y ∈ x :: xs := p.mem_iff.mpr (List.mem_cons_self ..)
      rcases List.mem_cons.mp a1 with e | e
      · exact e
      · rcases List.mem_cons.mp a2 with f | f
        · exact f.symm
        · exact Int.le_antisymm (h1 y f) (h3 x e)
    subst e
    rw [sorted_eq p.cons_inv h2 h4]
end Uv

namespace Uv
open PySem PySem.Spec PyProof.Rows L2 Srt SrtO
open Evl (Ex)
section
variable {prog : Program} {w : World} {A : Around} {E : Value → Shared → Prop} {s : Shared}
/-- a tuple's items, collected -/
theorem collectT {l : Addr} {vs : List Value} {Q : List Value → Shared → Prop} (tp : s.heap.IsTuple l vs.toArray) (sz : vs.length ≤ sizeLine)
    (k : Q vs { s with heap := (s.heap.push (seqObj "list" #[] 0)).update s.heap.objs.size (Obj.mapSeq (· ++ vs.toArray)) }) : wpAny (model prog w) A (collect (.ref l)) Q E s := by
  obtain ⟨ob, g, c, m, dt⟩ := tp
  have g2 : (s.heap.push (seqObj "list" #[] 0)).get? l = some ob := Heap.get?_push_of_some _ g
  have lo : (s.heap.push (seqObj "list" #[] 0)).get? s.heap.objs.size = some (seqObj "list" #[] 0) := Heap.get?_push_size _ rfl
  unfold collect; refine wpAny_bind (wpAny_runValue (codeAny_builtin entry_proto_collect' ?_))
  show wpAny _ _ (do again (.builtin "list.__iadd__" ⟨[← newList [], .ref l], []⟩)) _ _ s
  refine wpAny_bind (wpAny_newList (wpAny_pure ⟨Code.quiet_builtin _ (by decide +kernel), codeAny_builtin entry_list_iadd' ?_⟩))
  show wpAny _ _ (Builtin.List.listExtendWith (.ref s.heap.objs.size) (.ref l) (.ref s.heap.objs.size)) _ _ { s with heap := s.heap.push (seqObj "list" #[] 0) }
  unfold Builtin.List.listExtendWith; refine wpAny_bind (wpAny_typeOf (T := "tuple") ⟨ob, g2, c⟩ ?_)
  have tt : (Value.type "tuple" == Value.type "tuple") = true := by rfl
  rw [if_pos (by rw [tt, Bool.or_true])]
  refine wpAny_bind (listItems_at g2 dt (wpAny_bind (listItems_at lo rfl ?_)))
  rw [if_neg (by simp)]
  refine wpAny_bind (listUpdate_at lo rfl (wpAny_pure ?_) (Nat.zero_le _) (by show (#[] ++ vs.toArray).size ≤ sizeLine + 1; simp; omega))
  refine wpAny_bind (wpAny_load (get?_update_seq lo _) ?_)
  show wpAny _ _ (pure ((#[] : Array Value) ++ vs.toArray).toList) Q E _
  have z : ((#[] : Array Value) ++ vs.toArray).toList = vs := by simp
  rw [z]; exact wpAny_pure k
/-- sorted(t), t a tuple: the new list at size + 1 -/
theorem sortT {l : Addr} {vs : List Value} {lt : Value → Value → Bool} {Q : Value → Shared → Prop} (O : Swo lt) (tp : s.heap.IsTuple l vs.toArray) (sz : vs.length ≤ sizeLine)
    (ord : 2 ≤ vs.length → ∀ (h₁ : Heap) (a : Addr), h₁.get? a = some (seqObj "list" vs.toArray 0) → (∀ b o, s.heap.get? b = some o → b ≠ a ∧ h₁.get? b = some o) → SortableO prog w A.in1.in1 { s with heap := h₁ } a vs lt)
    (k : ∀ out : List Value, Srtd lt out → Stb lt out vs → Q (.ref (s.heap.objs.size + 1)) { s with heap := sortedAll s.heap vs out.toArray }) : wpAny (model prog w) A (call (.builtin "sorted") [.ref l]) Q E s := by
  obtain ⟨h1, e1⟩ : ∃ h1, h1 = (s.heap.push (seqObj "list" #[] 0)).update s.heap.objs.size (Obj.mapSeq (· ++ vs.toArray)) := ⟨_, rfl⟩
  have z : h1.objs.size = s.heap.objs.size + 1 := by rw [e1, Heap.size_update, size_push']
  have at1 : (h1.push (seqObj "list" vs.toArray 0)).get? (s.heap.objs.size + 1) = some (seqObj "list" vs.toArray 0) := by rw [← z]; exact Heap.get?_push_size _ rfl
  have old : ∀ b o, s.heap.get? b = some o → b ≠ s.heap.objs.size + 1 ∧ (h1.push (seqObj "list" vs.toArray 0)).get? b = some o := fun b o g => by
    have lt' : b < s.heap.objs.size := Heap.lt_size g
    refine ⟨Nat.ne_of_lt (Nat.lt_succ_of_lt lt'), Heap.get?_push_of_some _ ?_⟩
    rw [e1, Heap.get?_update_ne _ _ _ _ (Nat.ne_of_lt lt')]; exact Heap.get?_push_of_some _ g
  refine Calls.call_function_entry kind_sorted plain_sorted entry_sorted (args_sorted1 _) ?_; unfold Builtin.«sorted»
  refine wpAny_bind (m := checkCount "sorted" 1 1 _) (wpAny_pure (wpAny_bind (collectT tp sz (wpAny_bind (wpAny_newList ?_ sz)))))
  rw [← e1]
  show wpAny _ _ _ _ _ { s with heap := h1.push (seqObj "list" vs.toArray 0) }
  rw [z]
  refine wpAny_bind (wpAny_holding (wpAny_call_entry slot_list_sort ⟨_, at1, rfl⟩ entry_list_sort (list_sort_ord O at1 sz (fun h2 => ord h2 _ _ at1 old) fun out c1 c2 => ⟨_, rfl, wpAny_pure ⟨_, rfl, ?_⟩⟩) (args_list_sort _)))
  have kk := k out c1 c2
  unfold sortedAll at kk
  rw [← e1] at kk
  exact kk
end
def rSortedT (K : PySem.W.Frag) : List V → Hp → VK → Prop := fun vs H Q => ∃ (a : Addr) (ns : List Int), vs = [V.ref a] ∧ SqT K H a (ns.map V.int) ∧ ∀ (ms : List Int) (p : Addr), ms.Perm ns → ms.Pairwise (· ≤ ·) → H p = none → Q (.ref p) (upd H p (.lst (ms.map V.int)))
theorem cr_sortedT {X : Cx} : CallR X (.builtin "sorted") (rSortedT X.K) := by
  intro pins s σ H vs us Q I r ⟨a, ns, ev, hq, q⟩
  subst ev
  obtain ⟨its, rv, tp, sz⟩ := I.tuple hq
  rw [Vals.ref1 r]
  have hi := rv.ints
  refine sortT swo_int tp (by rw [← rv.length]; exact sz) (fun h2 h₁ a' _ _ => ints_sortable hi h2) fun out c1 c2 => ?_
  obtain ⟨k1, k2, k3⟩ := ints_out hi c1 c2
  obtain ⟨ep, at1⟩ := PyProof.Rows.sortedAll_at s.heap its out.toArray
  have ll : ((out.map iv).map V.int).length ≤ sizeLine := by rw [List.length_map, k2.length_eq]; rw [List.length_map] at sz; exact sz
  have I2 := I.laid (t' := s.toks) (o := .lst ((out.map iv).map V.int)) (fun _ _ => PyProof.Rows.sortedAll_old) (Nat.le_succ _) (show ObjOk X.prog X.w _ _ _ (.lst _) from ⟨ll, out, ep, vals_of_ints k1, at1⟩)
  exact ⟨.ref _, _, I2, rfl, q _ _ k2 k3 (I.hok.fresh (Nat.le_succ _))⟩
def rSortedU (K : PySem.W.Frag) : List V → Hp → VK → Prop := fun xs H Q => rSortedI K xs H Q ∨ rSortedT K xs H Q
variable [kk : KK]
theorem cr_sortedU {X : Cx} : CallR X (.builtin "sorted") (rSortedU X.K) := CallR.or cr_sortedI cr_sortedT
def sortP : PD → Option PD
  | .list ds => (unI ds).bind fun ns => some (.list ((sortI ns).map PyData.int))
  | .tuple ds => (unI ds).bind fun ns => some (.list ((sortI ns).map PyData.int))
  | _ => none
theorem sc_sort : SC (rSortedU K) (on1 sortP) := sc_on1 fun x z h S H v al rv Q q => by
  have fin : ∀ ns ms : List Int, ms.Perm ns → ms.Pairwise (· ≤ ·) → ms = sortI ns := fun ns ms p o => sorted_eq (p.trans (sortI_perm ns).symm) o (sortI_sorted ns)
  cases rv with
  | lst ha ra =>
    obtain ⟨ns, h1, h2⟩ := bind_some h
    have e := unI_eq h1
    subst e
    have e := ra.ints
    subst e
    cases h2
    refine .inl ⟨_, ns, rfl, .inl (.inl (hid_le _ _ ha)), fun ms p pm so hp => ?_⟩
    have e := fin ns ms pm so
    subst e
    exact q _ _ (Ex.new hp) (.lst (new_ok al hp) (RpAll.ofInts _))
  | tup ha _ ra =>
    obtain ⟨ns, h1, h2⟩ := bind_some h
    have e := unI_eq h1
    subst e
    have e := ra.ints
    subst e
    cases h2
    refine .inr ⟨_, ns, rfl, .inl (.inr ⟨_, hid_le _ _ ha⟩), fun ms p pm so hp => ?_⟩
    have e := fin ns ms pm so
    subst e
    exact q _ _ (Ex.new hp) (.lst (new_ok al hp) (RpAll.ofInts _))
  | _ => cases h
end Uv

namespace Uv
open PySem PySem.Spec PyProof.Rows L2
open Evl (Ex)
variable [kk : KK]
/-! ### new lists by operations -/
abbrev NewL (S : Hs) (H : Hp) (ds : List PD) (Q : VK) : Prop := ∀ p vs H2, Ex H H2 → H p = none → H2 p = some (.lst vs) → RpAll (hid (fun x => x = p ∨ S x) H2) vs ds → Q (.ref p) H2
def RoF (r : R2) (x y : PD) (ds : List PD) : Prop := ∀ S H vx vy, Al S H → Rp (hid S H) vx x → Rp (hid S H) vy y → ∀ Q : VK, NewL S H ds Q → r vx vy H Q
def SOF (r : R2) (f : PD → PD → Option PD) : Prop := ∀ x y z, f x y = some z → ∃ ds, z = .list ds ∧ RoF r x y ds
theorem ex_free {H H1 : Hp} {p : Addr} (e : Ex H H1) (hp : H1 p = none) : H p = none := by
  cases q : H p with
  | none => rfl
  | some o => rw [e _ _ q] at hp; cases hp
section
variable {r : R2} {f : PD → PD → Option PD} {ta tb : TE} {a b : XE}
theorem sef_op (hr : SOF r f) (ha : SE ta a) (hb : SE tb b) : SEF (tOp r ta tb) (xOp f a b) := fun ρ d h => by
  obtain ⟨x, h1, h⟩ := bind_some h
  obtain ⟨y, h2, h⟩ := bind_some h
  obtain ⟨ds, rfl, g⟩ := hr x y d h
  refine ⟨ds, rfl, fun S σ H al en Q q => ha ρ x h1 S σ H al en _ fun v H1 e1 rv => hb ρ y h2 S σ H1 (al.ex e1) (en.ex (hid_ex e1)) _ fun u H2 e2 ru => ?_⟩
  exact g S H2 v u ((al.ex e1).ex e2) (rv.ex (hid_ex e2)) ru Q fun p vs H3 e3 hp h3 ra => q p vs H3 ((e1.trans e2).trans e3) (ex_free (e1.trans e2) hp) h3 ra
/-- a new list of drawn things -/
def wOO (f : PD → PD → Option PD) (a b : XW) : XWO := fun ρ => (a ρ).bind fun x => (b x.2).bind fun y => ((f x.1 y.1).bind asList).bind fun ds => some (ds.map Cel.dat, y.2)
theorem swo_op {a b : XW} (hr : SOF r f) (ha : SW ta a) (hb : SW tb b) : SWO (tOp r ta tb) (wOO f a b) := fun pn F T H σ ρ cs ρ' st e Q q => by
  obtain ⟨⟨x, ρ1⟩, h1, e⟩ := bind_some e
  obtain ⟨⟨y, ρ2⟩, h2, e⟩ := bind_some e
  obtain ⟨ds, h3, e⟩ := bind_some e
  obtain ⟨d, h3, h4⟩ := bind_some h3
  have ed := asList_eq h4
  subst ed
  cases e
  obtain ⟨ds', e', g⟩ := hr _ _ _ h3
  cases e'
  refine ha pn F T H σ ρ x ρ1 st h1 _ fun v T1 H1 st1 s1 rv => hb pn F T1 H1 σ ρ1 y _ st1 h2 _ fun u T2 H2 st2 s2 ru => ?_
  refine g (SF F T2) H2 v u st2.als (rv.ex s2.vis) ru Q fun p vs H3 e3 hp h3 ra => ?_
  obtain ⟨st3, vis⟩ := st2.fresh e3 hp (by rw [h3]; exact fun z => nomatch z)
  have s12 := s1.trans s2
  refine q _ [p] T2 H3 st3 (by simp) (fun x hx => ?_) (fun x hx => ((Stp.ex (T := T2) st2.al e3).fr x hx).trans (s12.fr x hx)) (s12.vis.trans vis) ⟨p, vs, [], rfl, h3, Cels.dats (by rw [SF_FL1]; exact ra), rfl⟩
  have ex : x = p := by simpa using hx
  rw [ex]
  exact st2.al.new hp
end
/-- lists put together -/
def catP : PD → PD → Option PD
  | .list xs, .list ys => if xs.length + ys.length ≤ 100000 then some (.list (xs ++ ys)) else none
  | _, _ => none
theorem sof_cat : SOF (rAddU K) catP := fun x y z h => by
  cases x with
  | list xs =>
    cases y with
    | list ys =>
      have h : (if xs.length + ys.length ≤ 100000 then some (PyData.list (xs ++ ys)) else none) = some z := h
      by_cases c : xs.length + ys.length ≤ 100000
      · rw [if_pos c] at h
        cases h
        refine ⟨_, rfl, fun S H vx vy al rx ry Q q => ?_⟩
        cases rx with
        | lst ha ra =>
          cases ry with
          | lst hb rb => exact .inr (.inl ⟨_, _, _, _, rfl, rfl, hid_le _ _ ha, hid_le _ _ hb, by rw [ra.length, rb.length]; exact Evl.sz_of c, fun p hp => q p _ _ (Ex.new hp) hp upd_same ((ra.append rb).ex (hid_cons (Ex.new hp) hp))⟩)
      · rw [if_neg c] at h; cases h
    | _ => cases h
  | _ => cases h
/-- a list so many times -/
def repP : PD → PD → Option PD
  | .list xs, .int j => if 0 ≤ j ∧ j ≤ 100000 ∧ xs.length * j.toNat ≤ 100000 then some (.list (List.replicate j.toNat xs).flatten) else none
  | _, _ => none
theorem sof_rep : SOF rMulU repP := fun x y z h => by
  cases x with
  | list xs =>
    cases y with
    | int j =>
      have h : (if 0 ≤ j ∧ j ≤ 100000 ∧ xs.length * j.toNat ≤ 100000 then some (PyData.list (List.replicate j.toNat xs).flatten) else none) = some z := h
      by_cases c : 0 ≤ j ∧ j ≤ 100000 ∧ xs.length * j.toNat ≤ 100000
      · rw [if_pos c] at h
        cases h
        refine ⟨_, rfl, fun S H vx vy al rx ry Q q => ?_⟩
        cases rx with
        | lst ha ra =>
          cases ry with
          | int _ =>
            refine .inr ⟨_, _, _, rfl, rfl, hid_le _ _ ha, by omega, by omega, ?_, fun p hp => q p _ _ (Ex.new hp) hp upd_same ((ra.rep j.toNat).ex (hid_cons (Ex.new hp) hp))⟩
            rw [ra.length]
            exact Evl.sz_of c.2.2
      · rw [if_neg c] at h; cases h
    | _ => cases h
  | _ => cases h
/-- a list's part -/
def cutP : PD → Option Int → Option Int → Option PD
  | .list ds, l, h => some (.list (cutD ds l h))
  | .dict [(.none, .list ds)], l, h => some (.list (cutD ds l h))
  | _, _, _ => none
def xCut (a : XE) (lo hi : XO) : XE := fun ρ => (a ρ).bind fun d => (lo ρ).bind fun l => (hi ρ).bind fun h => cutP d l h
theorem sef_cut {ta : TE} {tl th : TO} {a : XE} {lo hi : XO} (ha : SE ta a) (hl : SP tl lo) (hh : SP th hi) : SEF (tSl (rSlU K) ta tl th) (xCut a lo hi) := fun ρ d h => by
  obtain ⟨x, h1, h⟩ := bind_some h
  obtain ⟨l, h2, h⟩ := bind_some h
  obtain ⟨u, h3, h⟩ := bind_some h
  have main : ∀ ds : List PD, (x = .list ds ∨ x = scrD ds) → FrL (tSl (rSlU K) ta tl th) ρ (cutD ds l u) := fun ds hx S σ H al en Q q => by
    refine ha ρ x h1 S σ H al en _ fun v H1 e1 rv => hl ρ l h2 S σ H1 (al.ex e1) (en.ex (hid_ex e1)) _ fun H2 e2 => hh ρ u h3 S σ H2 ((al.ex e1).ex e2) ((en.ex (hid_ex e1)).ex (hid_ex e2)) _ fun H3 e3 => ?_
    have e23 := e2.trans e3
    have e13 := e1.trans e23
    have rv3 := rv.ex (hid_ex (S := S) e23)
    rcases hx with rfl | rfl
    · cases rv3 with
      | lst ha3 ra3 => exact .inl ⟨_, _, rfl, .inl (.inl (hid_le _ _ ha3)), fun p hp => q p _ _ (e13.trans (Ex.new hp)) (ex_free e13 hp) upd_same ((ra3.cut l u).ex (hid_cons (Ex.new hp) hp))⟩
    · cases rv3 with
      | dct _ _ hp _ => rcases zip_str hp with e | ⟨k, d, r, e⟩ <;> cases e
      | scr hs ra3 => exact .inl ⟨_, _, rfl, sqx hid_le hs, fun p hp => q p _ _ (e13.trans (Ex.new hp)) (ex_free e13 hp) upd_same ((ra3.cut l u).ex (hid_cons (Ex.new hp) hp))⟩
  revert h
  unfold cutP
  split
  · intro h; cases h; exact ⟨_, rfl, main _ (.inl rfl)⟩
  · intro h; cases h; exact ⟨_, rfl, main _ (.inr rfl)⟩
  · intro h; cases h
/-! ### starred things in displays and calls -/
def partsP : PD → Option (List PD)
  | .list ds => some ds
  | .tuple ds => some ds
  | _ => none
def xStar (a : XE) (as : XA) : XA := fun ρ => (a ρ).bind fun x => (partsP x).bind fun xs => (as ρ).bind fun ys => some (xs ++ ys)
theorem parts_at {S : Hs} {H : Hp} {v : V} {x : PD} {xs : List PD} (r : Rp (hid S H) v x) (h : partsP x = some xs) : ∃ p vs, v = .ref p ∧ (SqT K H p vs ∨ SqL K H p vs) ∧ RpAll (hid S H) vs xs := by
  cases r with
  | lst ha ra => cases h; exact ⟨_, _, rfl, .inr (.inl (.inl (hid_le _ _ ha))), ra⟩
  | tup ha pl ra => cases h; exact ⟨_, _, rfl, .inl (.inl (.inr ⟨_, hid_le _ _ ha⟩)), ra⟩
  | _ => cases h
theorem sa_star {ta : TE} {ts : TA} {a : XE} {as : XA} (ha : SE ta a) (hs : SA ts as) : SA (StX.tStar K ta ts) (xStar a as) := fun ρ ds h S σ H al en Q q => by
  obtain ⟨x, h1, h⟩ := bind_some h
  obtain ⟨xs, h2, h⟩ := bind_some h
  obtain ⟨ys, h3, h⟩ := bind_some h
  cases h
  refine ha ρ x h1 S σ H al en _ fun v H1 e1 rv => ?_
  obtain ⟨p, vs, rfl, sq, ra⟩ := parts_at rv h2
  exact ⟨p, vs, rfl, sq, hs ρ ys h3 S σ H1 (al.ex e1) (en.ex (hid_ex e1)) _ fun us H2 e2 ru => q _ H2 (e1.trans e2) ((ra.ex (hid_ex e2)).append ru)⟩
/-! ### x is None, x is True, and not -/
def oIsU : R2 := fun x y H Q => oIsN x y H Q ∨ ∃ b c, x = .bl b ∧ y = .bl c ∧ Q (.bl (b == c)) H
def oNotU : R2 := fun x y H Q => oNotN x y H Q ∨ ∃ b c, x = .bl b ∧ y = .bl c ∧ Q (.bl (b != c)) H
theorem op_isU {X : Cx} : OpR X (compareOp .Is) oIsU := OpR.or op_isN fun pins s σ H x y v u Q I rx ry h => by
  obtain ⟨b, c, rfl, rfl, q⟩ := h
  cases rx
  cases ry
  exact PyProof.Rows.is_bool (fin_bl I q rfl)
theorem op_notU {X : Cx} : OpR X (compareOp .IsNot) oNotU := OpR.or op_notN fun pins s σ H x y v u Q I rx ry h => by
  obtain ⟨b, c, rfl, rfl, q⟩ := h
  cases rx
  cases ry
  exact PyProof.Rows.isnot_bool (fin_bl I q rfl)
def isU : PD → PD → Option PD
  | .bool b, .bool c => some (.bool (b == c))
  | x, .none => some (.bool (isNone x))
  | _, _ => none
def isntU : PD → PD → Option PD
  | .bool b, .bool c => some (.bool (b != c))
  | x, .none => some (.bool (!isNone x))
  | _, _ => none
theorem so_isU : SO oIsU isU := fun x y z h S H vx vy al rx ry Q q => by
  cases ry with
  | non =>
    have e : z = .bool (isNone x) := by cases x <;> (cases h; rfl)
    subst e
    exact .inl ⟨rfl, q _ H (Ex.refl H) (by rw [isNone_of rx]; exact .bl _)⟩
  | bl c =>
    cases rx with
    | bl b => cases h; exact .inr ⟨b, c, rfl, rfl, q _ H (Ex.refl H) (.bl _)⟩
    | _ => cases h
  | _ => cases x <;> cases h
theorem so_isntU : SO oNotU isntU := fun x y z h S H vx vy al rx ry Q q => by
  cases ry with
  | non =>
    have e : z = .bool (!isNone x) := by cases x <;> (cases h; rfl)
    subst e
    exact .inl ⟨rfl, q _ H (Ex.refl H) (by rw [isNone_of rx]; exact .bl _)⟩
  | bl c =>
    cases rx with
    | bl b => cases h; exact .inr ⟨b, c, rfl, rfl, q _ H (Ex.refl H) (.bl _)⟩
    | _ => cases h
  | _ => cases x <;> cases h
/-! ### a def that isn't gone into -/
section
variable {P : Program} {w : World} {mg : Str → Option Value} {base : Heap}
theorem cal_no {x : Str} {st : Stmt} {ps : List Str} {k : Nat} {sp : Sp} (F : Dfn K mg x st ps) (no : ∀ vs H Q E, ¬ sp vs H Q E) : CalG P w K mg base k x sp := by
  obtain ⟨f, fd, F, hm, b⟩ := F.ex
  exact ⟨f, fd, ps, ⟨fun vs H Q E h => (no vs H Q E h).elim, fun A outer s H args us vs Q E _ _ _ _ _ h => (no vs H Q E h).elim⟩, hm, F.kp, b⟩
theorem cal_none {x : Str} {st : Stmt} {ps : List Str} {k : Nat} (F : Dfn K mg x st ps) : CalG P w K mg base k x (spF fun _ => none) := cal_no F fun vs H Q E ⟨_, _, _, _, _, h, _⟩ => nomatch h
theorem cal_noneW {x : Str} {st : Stmt} {ps : List Str} {k : Nat} (F : Dfn K mg x st ps) : CalG P w K mg base k x (spW fun _ _ => none) := cal_no F fun vs H Q E ⟨_, _, _, _, _, _, _, _, _, _, _, _, _, _, h, _⟩ => nomatch h
end
/-- a comprehension within a comprehension -/
theorem rel_open {env : PySem.Env} {names : List (Str × NameKind)} {x : Str} (h : names.lookup x = some .cell ∨ names.lookup x = some .free) :
    (names.map fun (n, k) => if (k == NameKind.free && env.scope.kind == .function && env.kindOf n == some .cell) then (n, NameKind.cell) else (n, k)).lookup x = some .cell ∨
    (names.map fun (n, k) => if (k == NameKind.free && env.scope.kind == .function && env.kindOf n == some .cell) then (n, NameKind.cell) else (n, k)).lookup x = some .free := by
  induction names with
  | nil => rcases h with h | h <;> cases h
  | cons y ys ih =>
    obtain ⟨n, k⟩ := y
    rw [List.map_cons]
    by_cases c : (k == NameKind.free && env.scope.kind == .function && env.kindOf n == some .cell) = true
    · simp only [c, if_true, List.lookup_cons]
      cases e : x == n with
      | true => exact .inl rfl
      | false => rw [List.lookup_cons, e] at h; exact ih h
    · dsimp only
      rw [if_neg c, List.lookup_cons]
      cases e : x == n with
      | true => rw [List.lookup_cons, e] at h; exact h
      | false => rw [List.lookup_cons, e] at h; exact ih h
theorem blkOk_in {X : Cx} {s : Shared} {H : Hp} {sc0 scope : Scope} {cl : List (Str × Addr)} {C : Addr} {fp : List Addr} {N : List Str} {own : List (Str × Nat)} (hN : (X.blk s H sc0 (compEnvC sc0 cl C X.env) fp).N = N) (h : blkC N sc0 scope own = true) :
    BlkOk (X.blk s H sc0 (compEnvC sc0 cl C X.env) fp).N (X.blk s H sc0 (compEnvC sc0 cl C X.env) fp).env.scope scope own := by
  rw [hN]
  have b := blkOk_by h
  exact ⟨b.kind, b.uniq, b.ix, fun y hy e => rel_open (b.free y hy e), b.own⟩
end Uv

namespace Un
open PySem PySem.Spec PyProof.Rows L2
theorem tuple_mul1 (l : Addr) (its : Array Value) (n : Nat) (dd : Option Addr) (sl : Array (Option Value)) (u : Tok) :
    Meets (Builtin.«tuple.__mul__» ⟨[.ref l, .int 1 u], []⟩) (fun _ R st => st.heap.get? l = some { cls := .type "tuple", dict := dd, data := .seq its n, slots := sl } ∧ R (.ok (.ret (Value.ref l))) st) :=
  .of_wp fun prog w A R st hh => by
    obtain ⟨hp, gn, dr, tk, os⟩ := st
    obtain ⟨hl, hh⟩ := hh
    have f1 := AutoSeq1.idx_int
    have c0 : (decide ((1 : Int) < -(2 ^ 63)) || decide ((1 : Int) ≥ 2 ^ 63)) = false := by decide
    have c1 : (its.isEmpty || (1 : Int) == 1) = true := by simp
    wp_walk using AutoSeq1.wpAny_loadPart' hl
    exact ⟨_, rfl, hh⟩
/-- t * k, k from 1 on: once it is t itself -/
def rRepA (K : PySem.W.Frag) : R2 := fun x y H Q => ∃ l k xs, x = .ref l ∧ y = .int k ∧ SqT K H l xs ∧ xs ≠ [] ∧ 1 ≤ k ∧ k ≤ 1000 ∧ xs.length ≤ 1000 ∧ (k = 1 → Q (.ref l) H) ∧ (2 ≤ k → ∀ p, H p = none → Q (.ref p) (upd H p (.tup (List.replicate k.toNat xs).flatten)))
theorem op_repA {X : Cx} : OpR X (binaryOp .Mult) (rRepA X.K) := by
  intro pins s σ H x y v u Q I rx ry h
  obtain ⟨l, k, xs, rfl, rfl, hT, hne, h1, h2, hz, q1, q2⟩ := h
  by_cases hk : k = 1
  · subst hk
    cases rx
    obtain ⟨t, rfl⟩ := ry
    obtain ⟨its, r, ⟨⟨cls, dd, data, sl⟩, ho, hc, n, hd⟩, hs⟩ := I.tuple hT
    simp only at hc hd
    subst hc hd
    refine wpAny_binaryOp_repeat_ref (T := "tuple") (U := "int") (by decide) ⟨_, ho, rfl⟩ (fun s' => typeIs_int s' 1 t) noFill_tuple_mul F.fills_int_mul F.slot_int_rmul repeat_tuple F.slot_int_index.lookup ?_
    refine call_meets F.slot_int_rmul (typeIs_int s 1 t) F.entry_int_rmul (F.args_int_rmul_2 _ _) (int_rmul_tuple 1 t l its.toArray n dd sl) ⟨ho, rfl, ⟨_, ho, rfl⟩, ?_⟩
    exact call_meets F.slot_tuple_mul ⟨_, ho, rfl⟩ F.entry_tuple_mul (F.args_tuple_mul_2 _ _) (tuple_mul1 l its.toArray n dd sl t) ⟨ho, .ref l, H, I, rfl, q1 rfl⟩
  · exact op_repT pins s σ H _ _ v u Q I rx ry ⟨l, k, xs, rfl, rfl, hT, hne, by omega, h2, hz, q2 (by omega)⟩
end Un

namespace Uv
open PySem PySem.Spec PyProof.Rows L2
open Evl (Ex)
/-! ### xs[::-1] of a list or a tuple -/
section
variable {prog : Program} {w : World} {A : Around} {E : Value → Shared → Prop} {s : Shared}
theorem applied_back {sl : Addr} {n : Nat} {tk : Tok} {Q : Int × Int × Nat → Shared → Prop} (hs : s.heap.IsSliceOf sl .none .none (.int (-1) tk)) (h : Q ((n : Int) - 1, -1, n) s) : wpAny (model prog w) A (Builtin.Slice.sliceApplied (.ref sl) (pure (n : Int))) Q E s := by
  obtain ⟨ob, hob, hcl, hda⟩ := id hs
  unfold Builtin.Slice.sliceApplied Builtin.Slice.sliceFields
  refine wpAny_bind (wpAny_bind (wpAny_field hob hda (x := .none) rfl (wpAny_bind (wpAny_field hob hda (x := .none) rfl (wpAny_bind (wpAny_field hob hda (x := .int (-1) tk) rfl (wpAny_pure ?_)))))))
  refine wpAny_bind (HT.slicePart_ (.int (-1) tk) ?_)
  show wpAny _ _ (if ((-1 : Int) == 0) = true then _ else _) _ _ s
  rw [if_neg (by decide)]
  refine wpAny_bind (HT.slicePart_ .none (wpAny_bind (HT.slicePart_ .none (wpAny_bind (wpAny_pure ?_)))))
  have e1 : Builtin.Slice.sliceAdjust none none (-1) (n : Int) = ((n : Int) - 1, -1) := rfl
  have e2 : Builtin.Slice.slicePlaces ((n : Int) - 1) (-1) (-1) = n := by
    unfold Builtin.Slice.slicePlaces
    rw [if_neg (by decide)]
    split
    · rw [show (- (-1 : Int)) = 1 by decide, Int.ediv_one]
      omega
    · omega
  show wpAny _ _ (match Builtin.Slice.sliceAdjust none none (-1) (n : Int) with | (a, b) => pure (a, (-1 : Int), Builtin.Slice.slicePlaces a b (-1))) _ _ s
  rw [e1]
  show wpAny _ _ (pure ((n : Int) - 1, (-1 : Int), Builtin.Slice.slicePlaces ((n : Int) - 1) (-1) (-1))) _ _ s
  rw [e2]
  exact wpAny_pure h
theorem pick_back (xs : Array Value) : ((List.range xs.size).filterMap fun (m : Nat) => xs[(((xs.size : Int) - 1) + (m : Int) * (-1)).toNat]?).toArray = xs.toList.reverse.toArray := by
  congr 1
  have e : (fun (m : Nat) => xs[(((xs.size : Int) - 1) + (m : Int) * (-1)).toNat]?) = fun m => xs[xs.size - 1 - m]? := by
    funext m
    congr 1
    omega
  rw [e]
  have k := PySem.W.krv_range xs.size
  have k2 : (List.range xs.size).filterMap (fun m => xs[xs.size - 1 - m]?) = ((List.range xs.size).map fun m => xs.size - 1 - m).filterMap (xs[·]?) := by
    rw [List.filterMap_map]
    rfl
  rw [k2, k, List.filterMap_reverse, PySem.W.krv_all]
theorem getItem_tuple_back {t sl : Addr} {its : Array Value} {tk : Tok} {Q : Value → Shared → Prop} (ht : IsTup s.heap t its) (hs : s.heap.IsSliceOf sl .none .none (.int (-1) tk))
    (h : Q (.ref s.heap.objs.size) { s with heap := s.heap.push { cls := .type "tuple", data := .seq its.toList.reverse.toArray } }) (hz : its.size ≤ sizeLine) : wpAny (model prog w) A (getItem (.ref t) (.ref sl)) Q E s := by
  have ok : sizeOk (.seq its.toList.reverse.toArray) := by
    show its.toList.reverse.toArray.size ≤ sizeLine
    rw [List.size_toArray, List.length_reverse, Array.length_toList]
    exact hz
  obtain ⟨ob, hob, hcl, hda⟩ := id hs
  have ty : s.TypeIs (.ref sl) "slice" := ⟨ob, hob, hcl⟩
  unfold getItem
  try with_reducible refine wpAny_holding ?_
  first | refine wpAny_bind (wpAny_pure ?_) | skip
  refine wpAny_bind (wpAny_sequenceKey ht.typeIs (by decide) ?_)
  refine wpAny_bind (wpAny_callSpecial?_slot (name := Str.ofString "__getitem__") ht.typeIs PyProof.Rows.slot_tuple_getitem (wpAny_call_entry PyProof.Rows.slot_tuple_getitem ht.typeIs entry_tuple_getitem ?_ (args_tuple_getitem _ _)))
  show wpAny _ _ (Builtin.Tuple.tupleItemsOf (.ref t) >>= _) _ _ s
  refine wpAny_bind (tupleItemsOf_ ht (wpAny_bind (wpAny_typeOf ty ?_)))
  rw [if_pos (by decide)]
  refine wpAny_bind (applied_back hs ?_)
  have no : ¬ ((((its.size : Int) - 1) == 0 && (-1 : Int) == 1 && its.size == its.size) = true) := by
    rw [show ((-1 : Int) == 1) = false from rfl]
    simp
  show wpAny _ _ (if (((its.size : Int) - 1) == 0 && (-1 : Int) == 1 && its.size == its.size) = true then _ else _) _ _ s
  rw [if_neg no, pick_back]
  first
    | exact wpAny_bind (m := Builtin.Tuple.tupleExact _) (wpAny_newObj_type (wpAny_pure ⟨_, rfl, wpAny_pure h⟩) ok)
    | exact wpAny_bind (m := Builtin.Tuple.tupleExact _) (wpAny_newObj_type (wpAny_bind (wpAny_pure (wpAny_pure ⟨_, rfl, wpAny_pure h⟩))) ok)
    | exact wpAny_bind (wpAny_bind (m := Builtin.Tuple.tupleExact _) (wpAny_newObj_type (wpAny_pure (wpAny_pure ⟨_, rfl, wpAny_pure h⟩)) ok))
    | exact wpAny_bind (wpAny_bind (m := Builtin.Tuple.tupleExact _) (wpAny_newObj_type (wpAny_pure ⟨_, rfl, wpAny_pure h⟩) ok))
end
/-- the reading of e[::-1] -/
def tBack (K : PySem.W.Frag) (te : TE) : TE := fun σ H Q => te σ H fun x H1 => ∃ a xs, x = .ref a ∧ ((SqL K H1 a xs ∧ ∀ p, H1 p = none → Q (.ref p) (upd H1 p (.lst xs.reverse))) ∨ (SqT K H1 a xs ∧ ∀ p o, H1 p = none → Plain o → Q (.ref p) (upd H1 p (fz o xs.reverse))))
theorem rev_vals {vs : List V} {us : List Value} (h : Vals vs us) : Vals vs.reverse us.reverse := by
  induction h with
  | nil => exact .nil
  | cons r _ ih => rw [List.reverse_cons, List.reverse_cons]; exact ih.append (.cons r .nil)
theorem pe_back {X : Cx} {e : Expr} {te : TE} {p1 p2 p3 pos : Pos} {k1} (he : PE X e te) : PE X (.Subscript e (.Slice none none (some (.UnaryOp .USub (.Constant (.int 1) k1 p1) p2)) p3) pos) (tBack X.K te) := by
  refine ⟨fun pins s σ H Q I h => ?_⟩
  refine Subscript_ (thn (he.run pins s σ H _ I h) fun v s1 ⟨x, H1, I1, r1, q1⟩ => ?_)
  refine wpAny_Slice ?_
  rw [evalPart_none, evalPart_some]
  refine wpAny_pure (wpAny_pure ?_)
  have un : PE X (.UnaryOp .USub (.Constant (.int 1) k1 p1) p2) (tUn (rU fun i => .int (-i)) (tC (.int 1))) := pe_un un_neg pe_int
  refine thn (un.run pins s1 σ H1 (fun z H' => z = .int (-1) ∧ H' = H1) I1 ⟨1, rfl, rfl, rfl⟩) fun vk s2 ⟨z, H2, I2, rz, ez, eH⟩ => ?_
  subst ez eH
  obtain ⟨tk, rfl⟩ := rz
  obtain ⟨a, xs, rfl, q1⟩ := q1
  cases r1
  have I4 : Inv X pins σ H2 { s2 with heap := s2.heap.push { cls := .type "slice", data := .fields #[.none, .none, .int (-1) tk] } } := I2.kept (t' := s2.toks) fun b ob q => Heap.get?_push_of_some _ q
  rcases q1 with ⟨hx, q⟩ | ⟨hx, q⟩
  · obtain ⟨its, r, pl, hz⟩ := I4.list hx
    have hl := r.length
    refine tail_any (ops := [.ref a, .ref s2.heap.objs.size]) pl.isList.typeIs PySem.list_getitem_lookup ?_ (by with_unfolding_all rfl)
    refine wpAny_getItem_list_slice pl.isList (Heap.IsSliceOf.new ..) .none .none (.int (-1) tk) (by decide) ?_ (by rw [List.size_toArray, ← hl]; exact hz)
    rw [PySem.W.krv_pick]
    have ok := I4.laid (t' := s2.toks) (o := .lst xs.reverse) (fun b ob q => Heap.get?_push_of_some _ q) (Nat.le_refl _) (show ObjOk X.prog X.w _ _ _ (.lst xs.reverse) from ⟨by rw [List.length_reverse]; exact hz, _, 0, rev_vals r, Heap.get?_push_size _ rfl⟩)
    exact ⟨.ref _, _, ok, rfl, q _ (I4.hok.fresh (Nat.le_refl _))⟩
  · obtain ⟨its, r, pt, hz⟩ := I4.tuple hx
    have hl := r.length
    refine tail_any (ops := [.ref a, .ref s2.heap.objs.size]) pt.typeIs PyProof.Rows.slot_tuple_getitem.lookup ?_ (by with_unfolding_all rfl)
    refine getItem_tuple_back pt (Heap.IsSliceOf.new ..) ?_ (by rw [List.size_toArray, ← hl]; exact hz)
    have ok := I4.laid (t' := s2.toks) (o := fz _ xs.reverse) (fun b ob q => Heap.get?_push_of_some _ q) (Nat.le_refl _) (show ObjOk X.prog X.w _ _ _ (.frz _ (.tup xs.reverse)) from ⟨Heap.get?_push_size _ rfl, by rw [List.length_reverse]; exact hz, _, rev_vals r, IsTup.new _ _⟩)
    exact ⟨.ref _, _, ok, rfl, q _ _ (I4.hok.fresh (Nat.le_refl _)) ⟨rfl, rfl⟩⟩
end Uv

namespace Uv
open PySem PySem.Spec PyProof.Rows L2
open Evl (Ex)
/-! ### t * k of a tuple, k from 0 on -/
theorem tuple_mul0 (l : Addr) (its : Array Value) (n : Nat) (dd : Option Addr) (sl : Array (Option Value)) (u : Tok) (hne : its.isEmpty = false) :
    Meets (Builtin.«tuple.__mul__» ⟨[.ref l, .int 0 u], []⟩) (fun _ R st => st.heap.get? l = some { cls := .type "tuple", dict := dd, data := .seq its n, slots := sl } ∧ R (.ok (.ret (Value.ref st.heap.objs.size))) { st with heap := st.heap.push { cls := Value.type "tuple", data := Data.seq #[] }, toks := st.toks }) :=
  .of_wp fun prog w A R st hh => by
    obtain ⟨hp, gn, dr, tk, os⟩ := st
    obtain ⟨hl, hh⟩ := hh
    have f1 := AutoSeq1.idx_int
    have c0 : (decide ((0 : Int) < -(2 ^ 63)) || decide ((0 : Int) ≥ 2 ^ 63)) = false := by decide
    have c1 : (its.isEmpty || (0 : Int) == 1) = false := by rw [hne]; rfl
    wp_walk using AutoSeq1.wpAny_loadPart' hl
    repeat (first
      | (refine wpAny_ite_false (decide_eq_false (by rw [c0]; exact Bool.false_ne_true)) ?_; wp_walk using AutoSeq1.wpAny_loadPart' hl)
      | (refine wpAny_ite_false (decide_eq_false (by rw [c1]; exact Bool.false_ne_true)) ?_; wp_walk using AutoSeq1.wpAny_loadPart' hl))
    exact ⟨_, rfl, hh⟩
def rRepF (K : PySem.W.Frag) : R2 := fun x y H Q => ∃ l k xs, x = .ref l ∧ y = .int k ∧ SqT K H l xs ∧ xs ≠ [] ∧ 0 ≤ k ∧ k ≤ 1000 ∧ xs.length ≤ 1000 ∧ (k = 1 → Q (.ref l) H) ∧ (k ≠ 1 → ∀ p o, H p = none → Plain o → Q (.ref p) (upd H p (fz o (List.replicate k.toNat xs).flatten)))
theorem op_repF {X : Cx} : OpR X (binaryOp .Mult) (rRepF X.K) := by
  intro pins s σ H x y v u Q I rx ry h
  obtain ⟨l, k, xs, rfl, rfl, hT, hne, h1, h2, hz, q1, q2⟩ := h
  cases rx
  obtain ⟨t, rfl⟩ := ry
  obtain ⟨its, r, ⟨⟨cls, dd, data, sl⟩, ho, hc, n, hd⟩, hs⟩ := I.tuple hT
  simp only at hc hd
  subst hc hd
  have hle : its.length = xs.length := r.length.symm
  have hi : its.toArray.isEmpty = false := by
    cases its with
    | nil => exact absurd (List.eq_nil_of_length_eq_zero hle.symm) hne
    | cons a b => rfl
  refine wpAny_binaryOp_repeat_ref (T := "tuple") (U := "int") (by decide) ⟨_, ho, rfl⟩ (fun s' => typeIs_int s' k t) noFill_tuple_mul F.fills_int_mul F.slot_int_rmul repeat_tuple F.slot_int_index.lookup ?_
  refine call_meets F.slot_int_rmul (typeIs_int s k t) F.entry_int_rmul (F.args_int_rmul_2 _ _) (int_rmul_tuple k t l its.toArray n dd sl) ⟨ho, rfl, ⟨_, ho, rfl⟩, ?_⟩
  have new : ∀ (us : List Value) (vs : List V), Vals vs us → vs.length ≤ sizeLine → (∀ p o, H p = none → Plain o → Q (.ref p) (upd H p (fz o vs))) → EP X pins σ Q (.ref s.heap.objs.size) { s with heap := s.heap.push { cls := Value.type "tuple", data := Data.seq us.toArray }, toks := s.toks } := fun us vs rv hv q => by
    have ok := I.laid (t' := s.toks) (o := fz _ vs) (fun b ob e => Heap.get?_push_of_some _ e) (Nat.le_refl _) (show ObjOk X.prog X.w _ _ _ (.frz _ (.tup vs)) from ⟨Heap.get?_push_size _ rfl, hv, us, rv, IsTup.new _ _⟩)
    exact ⟨.ref s.heap.objs.size, _, ok, rfl, q _ _ (I.hok.fresh (Nat.le_refl _)) ⟨rfl, rfl⟩⟩
  by_cases hk : k = 1
  · subst hk
    exact call_meets F.slot_tuple_mul ⟨_, ho, rfl⟩ F.entry_tuple_mul (F.args_tuple_mul_2 _ _) (Un.tuple_mul1 l its.toArray n dd sl t) ⟨ho, .ref l, H, I, rfl, q1 rfl⟩
  · have q2 := q2 hk
    by_cases h0 : k = 0
    · subst h0
      exact call_meets F.slot_tuple_mul ⟨_, ho, rfl⟩ F.entry_tuple_mul (F.args_tuple_mul_2 _ _) (tuple_mul0 l its.toArray n dd sl t hi) ⟨ho, new [] [] .nil (Nat.zero_le _) q2⟩
    · have hm : ((its.toArray.size : Nat) : Int) * k ≤ 1000000 := by
        rw [List.size_toArray, hle]
        have a1 : ((xs.length : Nat) : Int) * k ≤ 1000 * k := Int.mul_le_mul_of_nonneg_right (by omega) (by omega)
        omega
      have flen : (List.replicate k.toNat its).flatten.length ≤ sizeLine := by
        rw [PyProof.Rows.lm_len_rep_flat, hle, sizeLine_eq]
        have a1 : k.toNat * xs.length ≤ 1000 * 1000 := Nat.mul_le_mul (by omega) hz
        omega
      have rep : ∀ m : Nat, Vals (List.replicate m xs).flatten (List.replicate m its).flatten := fun m => by
        induction m with
        | zero => exact .nil
        | succ m ih => rw [List.replicate_succ, List.replicate_succ, List.flatten_cons, List.flatten_cons]; exact r.append ih
      have c0 : (decide (k < -(2 ^ 63)) || decide (k ≥ 2 ^ 63)) = false := by rw [decide_eq_false (by omega), decide_eq_false (by omega)]; rfl
      have c1 : (its.toArray.isEmpty || k == 1) = false := by rw [hi, Bool.false_or]; exact beq_eq_false_iff_ne.mpr hk
      have c2 : (decide (k ≤ 0) || its.toArray.isEmpty) = false := by rw [hi, Bool.or_false]; exact decide_eq_false (by omega)
      have c4 : Builtin.Tuple.tupleTooMany (((its.toArray.size : Nat) : Int) * k) = false := by unfold Builtin.Tuple.tupleTooMany; rw [sizeLine_eq]; exact decide_eq_false (by omega)
      refine call_meets F.slot_tuple_mul ⟨_, ho, rfl⟩ F.entry_tuple_mul (F.args_tuple_mul_2 _ _) (tuple_mulW l its.toArray n dd sl k t c0 c1 c2 (by omega) c4 (by rw [size_rep, List.size_toArray]; exact flen)) ⟨ho, ?_⟩
      rw [size_rep]
      exact new _ _ (rep k.toNat) (by rw [(rep k.toNat).length]; exact flen) q2
/-! ### tuple(range(n)) -/
def tTupRgF (te : L2.St → Hp → (Int → Int → Hp → Prop) → Prop) : TE := fun σ H Q => te σ H fun a b H1 => RgOk a b ∧ ∀ q o, H1 q = none → Plain o → Q (.ref q) (upd H1 q (fz o (rgV a b)))
theorem pe_tupRgF {X : Cx} {e : Expr} {te : L2.St → Hp → (Int → Int → Hp → Prop) → Prop} {p pos : Pos} (hc : X.calm = true) (hg : Gl X "tuple") (hm : X.mg "tuple" = none) (he : PRg X e te) (na : starEach [e] X.env = (false, eval e X.env) :: starEach [] X.env := by rfl) : PE X (.Call (.Name "tuple" p) [e] [] pos) (tTupRgF te) := by
  refine ⟨fun pins s σ H Q I h => ?_⟩
  refine Call_ (ld_blt I hg hm boot_tuple (PyProof.Rows.callWith_type1 (args_cons (thn (he pins s σ H _ I h) fun x s1 ⟨r, a, b, t, u, v, H1, ex, hr, I1, ok, q⟩ => args_nil ?_) na) na))
  subst ex
  obtain ⟨b1, b2, b3, b4, b5⟩ := ok
  refine call_tuple_range (n := (b - a).toNat) (I1.ok.hd hc) hr (small_one b1 b2 b3 b4) (rangeSize_nat a b) b5 fun h' tk acc hk hi => ?_
  have I2 : Inv X pins σ H1 { s1 with heap := h', toks := tk } := I1.kept hk
  have sz : (rgV a b).length ≤ sizeLine := by rw [rgV_length, sizeLine_eq]; omega
  have I3 := I2.laid (t' := tk) (o := fz _ (rgV a b)) (fun c o e => Heap.get?_push_of_some _ e) (Nat.le_refl _) (show ObjOk X.prog X.w _ _ _ (.frz _ (.tup (rgV a b))) from ⟨Heap.get?_push_size _ rfl, sz, acc.toList, vals_rg hi, by rw [Array.toArray_toList]; exact IsTup.new _ _⟩)
  exact ⟨.ref h'.objs.size, _, I3, rfl, q _ _ (I2.hok.fresh (Nat.le_refl _)) ⟨rfl, rfl⟩⟩
/-! ### a, b, c = x, y, z -/
def tPar3 (i j k : Nat) (ta : TA) : TS := fun D σ H => ta σ H fun vs H1 => ∃ v w z, vs = [v, w, z] ∧ D.nx (((σ.set i (some v)).set j (some w)).set k (some z)) H1
theorem ps_par3 {X : Cx} {i j k : Nat} {x y z : Str} {a b c : Expr} {ta : TA} {px py pz pt pos : Pos} {kt k2 pt2} (hc : X.calm = true) (hN : X.N.Nodup) (hi : X.N[i]? = some x) (hj : X.N[j]? = some y) (hk : X.N[k]? = some z) (hij : i ≠ j) (hik : i ≠ k) (hjk : j ≠ k)
    (hx : X.env.scope.names.lookup x = some .local) (hy : X.env.scope.names.lookup y = some .local) (hz : X.env.scope.names.lookup z = some .local) (ha : PA X [a, b, c] ta)
    (hw : swappedStores [.Tuple [.Name x px, .Name y py, .Name z pz] kt pt] (.Tuple [a, b, c] k2 pt2) X.env = pure (some [x, y, z]))
    (hs : swapsWithSole [.Tuple [.Name x px, .Name y py, .Name z pz] kt pt] (.Tuple [a, b, c] k2 pt2) pos.line X.env = pure false := by rfl) :
    PS X (.Assign [.Tuple [.Name x px, .Name y py, .Name z pz] kt pt] (.Tuple [a, b, c] k2 pt2) pos) (tPar3 i j k ta) := by
  refine ⟨fun pins s σ H D I h => ?_⟩
  rw [exec_Assign_arm]
  refine wpAny_bind (wpAny_standAt ?_)
  rw [hs]
  refine wpAny_bind (wpAny_pure ?_)
  rw [if_neg (by decide)]
  refine wpAny_bind (Tuple_ (thn (ha.run _ pins s σ H _ I h) fun us s1 ⟨vs, H1, I1, r1, q1⟩ => ?_))
  obtain ⟨v1, v2, v3, e1, q1⟩ := q1
  subst e1
  obtain ⟨u1, u2, u3, rfl, r1, r2, r3⟩ := vals3 r1
  refine wpAny_newObj_type ?_ (by show 3 ≤ sizeLine; decide)
  have I2 : Inv X pins σ H1 { s1 with heap := s1.heap.push { cls := .type "tuple", data := .seq [u1, u2, u3].toArray } } := I1.kept (t' := s1.toks) fun b o e => Heap.get?_push_of_some _ e
  rw [hw]
  refine wpAny_bind (wpAny_pure ?_)
  show wpAny (model X.prog X.w) X.A (do rule "assign.swapped-stores"; let items ← unpackItems (.ref s1.heap.objs.size) 3 none; assignInOrder [fun v => bindName X.env z v, fun v => bindName X.env y v, fun v => bindName X.env x v] items.reverse; pure Flow.next) _ _ _
  refine wpAny_bind (wpAny_rule (wpAny_bind (unpackItems_tuple (items := #[u1, u2, u3]) (I.ok.hd hc) (IsTup.new s1.heap _) fun h' hx' => ?_)))
  have I3 := I2.kept (h' := h') (t' := s1.toks) fun b o e => hx' b o (Nat.ne_of_lt (Heap.lt_size e)) e
  show wpAny _ _ (assignInOrder [fun v => bindName X.env z v, fun v => bindName X.env y v, fun v => bindName X.env x v] [u3, u2, u1] >>= fun _ => pure Flow.next) _ _ _
  refine wpAny_bind (assignInOrder_cons (wpAny_bindName (store_ok I3 hN hk (.inl hz) r3 (fun s2 I4 => ?_) (.inr hz))))
  refine assignInOrder_cons (wpAny_bindName (store_ok I4 hN hj (.inl hy) r2 (fun s3 I5 => ?_) (.inr hy)))
  refine assignInOrder_cons (wpAny_bindName (store_ok I5 hN hi (.inl hx) r1 (fun s4 I6 => assignInOrder_nil (wpAny_pure ?_)) (.inr hx)))
  rw [List.set_comm _ _ (Ne.symm hjk), List.set_comm _ _ (Ne.symm hik), List.set_comm _ _ (Ne.symm hij)] at I6
  exact ⟨_, H1, I6, q1⟩
/-! ### xs[i] op= e of a list -/
theorem get_list {X : Cx} : PGet X (rIxL X.K) := fun pins s σ H o i ov iv Q I ro ri h => by
  obtain ⟨p, xs, k, z, rfl, rfl, hq, he, q⟩ := h
  cases ro
  obtain ⟨t, rfl⟩ := ri
  obtain ⟨its, r, pl, hz⟩ := I.list hq
  obtain ⟨j, h1, h2, h3, h4, h5⟩ := atI_get he
  obtain ⟨u, eu, ru⟩ := r.get h2
  have hl := r.length
  have hn := line63
  have fin : EP X pins σ Q u s := ⟨z, H, I, ru, q⟩
  by_cases h0 : 0 ≤ k
  · have hj : k.toNat = j := by
      rw [seqIndex_of h0 h5] at h1
      exact Option.some.inj h1
    exact wpAny_getItem_list pl.isList h0 (by omega) (by rw [hj]; simpa using eu) fin
  · have hj : (k + (its.toArray.size : Int)).toNat = j := by
      rw [seqIndex_neg (by omega) h4] at h1
      rw [List.size_toArray, ← hl]
      exact Option.some.inj h1
    exact wpAny_getItem_list_neg pl.isList (by omega) (by rw [List.size_toArray] <;> omega) (by omega) (by rw [hj]; simpa using eu) fin
section
variable [kk : KK]
def sAug (i : Nat) (f : Int → Int → Int) (k a : XE) : XS := fun ρ => (ownAt ρ i).bind fun cs => ((k (vw ρ)).bind isI).bind fun k => (ixN cs.length k).bind fun n => ((datAt cs n).bind isI).bind fun x => ((a (vw ρ)).bind isI).bind fun y => some (.nxt (ρ.set i (.own (cs.set n (.dat (.int (f x y)))))))
theorem Cels.dat_at {G H : Hp} : ∀ (n : Nat) {vs : List V} {cs : List Cel} {B : List Addr} {d : PD}, Cels G H vs cs B → cs[n]? = some (.dat d) → ∃ v, vs[n]? = some v ∧ Rp G v d
  | _, _, _, _, _, .nil, h => by simp at h
  | 0, _, _, _, _, .dat r c, h => by simp at h; subst h; exact ⟨_, rfl, r⟩
  | 0, _, _, _, _, .sub _ _ c, h => by simp at h
  | n + 1, _, _, _, _, .dat h0 c, h => by obtain ⟨v, h1, h2⟩ := Cels.dat_at n c (by simpa using h); exact ⟨v, by simpa using h1, h2⟩
  | n + 1, _, _, _, _, .sub h1 h2 c, h => by obtain ⟨v, h1, h2⟩ := Cels.dat_at n c (by simpa using h); exact ⟨v, by simpa using h1, h2⟩
theorem ss_aug {i : Nat} {f : Int → Int → Int} {tk te : TE} {k a : XE} (hk : SE tk k) (ha : SE te a) : SS (tAugS (tVar i) tk te (rIxL K) (ipI f) rSetL) (sAug i f k a) := fun pn F T H σ ρ o D st e q => by
  obtain ⟨cs, h2, e⟩ := bind_some e
  obtain ⟨kk', h3, e⟩ := bind_some e
  obtain ⟨dk, h3, h4⟩ := bind_some h3
  obtain ⟨n, hn, e⟩ := bind_some e
  obtain ⟨x, hx, e⟩ := bind_some e
  obtain ⟨dx, hx, hx'⟩ := bind_some hx
  obtain ⟨y, hy, e⟩ := bind_some e
  obtain ⟨dy, hy, hy'⟩ := bind_some hy
  cases e
  have e1 : dk = _ := isI_eq h4
  have e2 : dx = _ := isI_eq hx'
  have e3 : dy = _ := isI_eq hy'
  subst e1 e2 e3
  obtain ⟨a', vs', B', ha', hv', hc', hT⟩ := st.at_own (ownAt_eq h2)
  refine ⟨.ref a', ha', hk _ _ h3 F σ H st.al st.vw _ fun vk H2 e2 rk => ?_⟩
  cases rk
  have st2 := st.ex e2
  have s2 : Stp F T H T H2 := Stp.ex st.al e2
  obtain ⟨a2, vs2, B2, ha2, hv2, hc2, hT2⟩ := st2.at_own (ownAt_eq h2)
  have ea : a2 = a' := by rw [ha2] at ha'; cases ha'; rfl
  subst ea
  obtain ⟨v, g1, g2⟩ := Cels.dat_at n hc2 (datAt_eq hx)
  cases g2
  refine ⟨a2, vs2, kk', .int x, rfl, rfl, .inl (.inl hv2), ?_, ha _ _ hy F σ H2 st2.al st2.vw _ fun vy H3 e3 ry => ?_⟩
  · unfold atI
    rw [hc2.length, hn]
    exact g1
  · cases ry
    have st3 := st2.ex e3
    have s3 : Stp F T H2 T H3 := Stp.ex st2.al e3
    obtain ⟨a3, vs3, B3, ha3, hv3, hc3, hT3⟩ := st3.at_own (ownAt_eq h2)
    have ea : a3 = a2 := by rw [ha3] at ha2; cases ha2; rfl
    subst ea
    obtain ⟨st4, s4⟩ := st3.write (ownAt_eq h2) hT3 ha3 (hc3.set n (datAt_eq hx) (.int (f x y)))
    exact ⟨x, y, rfl, rfl, a3, vs3, kk', n, rfl, rfl, hv3, by rw [hc3.length]; exact hn, q σ T _ st4 ((s2.trans s3).trans s4)⟩
/-! names set together, three -/
def three : List Cel → Option (Cel × Cel × Cel)
  | [a, b, c] => some (a, b, c)
  | _ => none
theorem three_eq {cs : List Cel} {c d e : Cel} (h : three cs = some (c, d, e)) : cs = [c, d, e] := by
  unfold three at h
  split at h
  · cases h; rfl
  · cases h
def sPar3 (i j k : Nat) (as : XWC) : XS := fun ρ => (as ρ).bind fun x => (three x.1).bind fun c => if i < x.2.length ∧ j < x.2.length ∧ k < x.2.length then some (.nxt (((x.2.set i (toSl c.1)).set j (toSl c.2.1)).set k (toSl c.2.2))) else none
theorem cels_split {G H : Hp} {v : V} {vs : List V} {c : Cel} {cs : List Cel} {B : List Addr} (h : Cels G H (v :: vs) (c :: cs) B) : ∃ B1 B2, B = B1 ++ B2 ∧ Cels G H [v] [c] B1 ∧ Cels G H vs cs B2 := by
  cases h with
  | dat r n => exact ⟨[], B, rfl, .dat r .nil, n⟩
  | sub hb r n => exact ⟨[_], _, rfl, .sub hb r .nil, n⟩
theorem ss_par3 {i j k : Nat} {ts : TA} {as : XWC} (hi : i ≠ 0) (hj : j ≠ 0) (hk : k ≠ 0) (hs : SWC ts as) : SS (tPar3 i j k ts) (sPar3 i j k as) := fun pn F T H σ ρ o D st e q => by
  obtain ⟨⟨cs, ρ1⟩, h1, e⟩ := bind_some e
  obtain ⟨⟨c, d, g⟩, h2, e⟩ := bind_some e
  have ec : cs = _ := three_eq h2
  subst ec
  by_cases hl : i < ρ1.length ∧ j < ρ1.length ∧ k < ρ1.length
  · rw [if_pos hl] at e
    cases e
    refine hs pn F T H σ ρ _ ρ1 st h1 _ fun vs B T1 H1 st1 nd off fr vis hc => ?_
    obtain ⟨v, w, z, rfl⟩ : ∃ v w z, vs = [v, w, z] := by
      have := hc.length
      match vs, this with
      | [v, w, z], _ => exact ⟨v, w, z, rfl⟩
    refine ⟨v, w, z, rfl, ?_⟩
    obtain ⟨B1, B', rfl, c1, c'⟩ := cels_split hc
    obtain ⟨B2, B3, rfl, c2, c3⟩ := cels_split c'
    have eF : FL F (B1 ++ (B2 ++ B3)) = FL (FL (FL F B3) B2) B1 := by rw [FL_app, FL_app]; exact FL_perm fun x => by simp only [List.mem_append]; exact ⟨fun h => by rcases h with h | h | h <;> simp [h], fun h => by rcases h with h | h | h <;> simp [h]⟩
    rw [eF] at st1 c1 c2 c3 vis
    have n1 := List.nodup_append.mp nd
    have n2 := List.nodup_append.mp n1.2.1
    obtain ⟨T2, st2, vis2⟩ := StOk.cel (F := FL (FL F B3) B2) hi hl.1 st1 n1.1 (fun x hx y => y.elim (fun y => y.elim (off x (List.mem_append_left _ hx)) fun y => n1.2.2 x hx x (List.mem_append_right _ y) rfl) fun y => n1.2.2 x hx x (List.mem_append_left _ y) rfl) c1
    have c2' := c2.mv vis2 fun x hx => (rfl : H1 x = H1 x)
    obtain ⟨T3, st3, vis3⟩ := StOk.cel (F := FL F B3) hj (by rw [List.length_set]; exact hl.2.1) st2 n2.1 (fun x hx y => y.elim (off x (List.mem_append_right _ (List.mem_append_left _ hx))) fun y => n2.2.2 x hx x y rfl) c2'
    have c3' := c3.mv (vis2.trans vis3) fun x hx => (rfl : H1 x = H1 x)
    obtain ⟨T4, st4, vis4⟩ := StOk.cel (F := F) hk (by rw [List.length_set, List.length_set]; exact hl.2.2) st3 n2.2.1 (fun x hx => off x (List.mem_append_right _ (List.mem_append_right _ hx))) c3'
    exact q _ T4 H1 st4 ⟨fr, ((vis.trans vis2).trans vis3).trans vis4⟩
  · rw [if_neg hl] at e; cases e
/-! the same where names are taken by comprehensions: a tuple is made and parted -/
theorem ss_unp3 {i j k : Nat} {ts : TA} {as : XWC} (hi : i ≠ 0) (hj : j ≠ 0) (hk : k ≠ 0) (hs : SWC ts as) : SS (tAsg (tTupF ts) (gTU K 3 (gCons (gName i) (gCons (gName j) (gCons (gName k) gNil))))) (sPar3 i j k as) := fun pn F T H σ ρ o D st e q => by
  obtain ⟨⟨cs, ρ1⟩, h1, e⟩ := bind_some e
  obtain ⟨⟨c, d, g⟩, h2, e⟩ := bind_some e
  have ec : cs = _ := three_eq h2
  subst ec
  by_cases hl : i < ρ1.length ∧ j < ρ1.length ∧ k < ρ1.length
  · rw [if_pos hl] at e
    cases e
    refine hs pn F T H σ ρ _ ρ1 st h1 _ fun vs B T1 H0 st0 nd off fr0 vis0 hc0 => ?_
    obtain ⟨v, w, z, rfl⟩ : ∃ v w z, vs = [v, w, z] := by
      have := hc0.length
      match vs, this with
      | [v, w, z], _ => exact ⟨v, w, z, rfl⟩
    refine ⟨by show 3 ≤ sizeLine; decide, fun p ob hp pl => .inl ⟨p, [v, w, z], rfl, .inl (.inr ⟨_, upd_same⟩), rfl, ?_⟩⟩
    have ex : Ex H0 (upd H0 p (fz ob [v, w, z])) := Ex.new hp
    have st1 := st0.ex ex
    have vis := vis0.trans (hid_ex (S := SF (FL F B) T1) ex)
    have hB : ∀ x ∈ B, upd H0 p (fz ob [v, w, z]) x = H0 x := fun x hx => by
      obtain ⟨ws, e⟩ := hc0.lst x hx
      rw [e, ex _ _ e]
    have hc := hc0.mv (hid_ex (S := SF (FL F B) T1) ex) hB
    have fr : ∀ x, F x → upd H0 p (fz ob [v, w, z]) x = H x := fun x hx => by
      rw [← fr0 x hx]
      cases e : H0 x with
      | none => exact absurd e (st0.al x (.inl hx))
      | some o => exact ex _ _ e
    obtain ⟨B1, B', rfl, c1, c'⟩ := cels_split hc
    obtain ⟨B2, B3, rfl, c2, c3⟩ := cels_split c'
    have eF : FL F (B1 ++ (B2 ++ B3)) = FL (FL (FL F B3) B2) B1 := by rw [FL_app, FL_app]; exact FL_perm fun x => by simp only [List.mem_append]; exact ⟨fun h => by rcases h with h | h | h <;> simp [h], fun h => by rcases h with h | h | h <;> simp [h]⟩
    rw [eF] at st1 c1 c2 c3 vis
    have n1 := List.nodup_append.mp nd
    have n2 := List.nodup_append.mp n1.2.1
    obtain ⟨T2, st2, vis2⟩ := StOk.cel (F := FL (FL F B3) B2) hi hl.1 st1 n1.1 (fun x hx y => y.elim (fun y => y.elim (off x (List.mem_append_left _ hx)) fun y => n1.2.2 x hx x (List.mem_append_right _ y) rfl) fun y => n1.2.2 x hx x (List.mem_append_left _ y) rfl) c1
    have c2' := c2.mv vis2 fun x hx => rfl
    obtain ⟨T3, st3, vis3⟩ := StOk.cel (F := FL F B3) hj (by rw [List.length_set]; exact hl.2.1) st2 n2.1 (fun x hx y => y.elim (off x (List.mem_append_right _ (List.mem_append_left _ hx))) fun y => n2.2.2 x hx x y rfl) c2'
    have c3' := c3.mv (vis2.trans vis3) fun x hx => rfl
    obtain ⟨T4, st4, vis4⟩ := StOk.cel (F := F) hk (by rw [List.length_set, List.length_set]; exact hl.2.2) st3 n2.2.1 (fun x hx => off x (List.mem_append_right _ (List.mem_append_right _ hx))) c3'
    exact ⟨v, [w, z], rfl, w, [z], rfl, z, [], rfl, rfl, q _ T4 _ st4 ⟨fr, ((vis.trans vis2).trans vis3).trans vis4⟩⟩
  · rw [if_neg hl] at e; cases e
theorem ss_unp2 {i j : Nat} {ts : TA} {as : XWC} (hi : i ≠ 0) (hj : j ≠ 0) (hs : SWC ts as) : SS (tAsg (tTupF ts) (gTU K 2 (gCons (gName i) (gCons (gName j) gNil)))) (sPar i j as) := fun pn F T H σ ρ o D st e q => by
  obtain ⟨⟨cs, ρ1⟩, h1, e⟩ := bind_some e
  obtain ⟨⟨c, d⟩, h2, e⟩ := bind_some e
  have ec : cs = _ := two_eq h2
  subst ec
  by_cases hl : i < ρ1.length ∧ j < ρ1.length
  · rw [if_pos hl] at e
    cases e
    refine hs pn F T H σ ρ _ ρ1 st h1 _ fun vs B T1 H0 st0 nd off fr0 vis0 hc0 => ?_
    obtain ⟨v, w, rfl⟩ : ∃ v w, vs = [v, w] := by
      have := hc0.length
      match vs, this with
      | [v, w], _ => exact ⟨v, w, rfl⟩
    refine ⟨by show 2 ≤ sizeLine; decide, fun p ob hp pl => .inl ⟨p, [v, w], rfl, .inl (.inr ⟨_, upd_same⟩), rfl, ?_⟩⟩
    have ex : Ex H0 (upd H0 p (fz ob [v, w])) := Ex.new hp
    have st1 := st0.ex ex
    have vis := vis0.trans (hid_ex (S := SF (FL F B) T1) ex)
    have hB : ∀ x ∈ B, upd H0 p (fz ob [v, w]) x = H0 x := fun x hx => by
      obtain ⟨ws, e⟩ := hc0.lst x hx
      rw [e, ex _ _ e]
    have hc := hc0.mv (hid_ex (S := SF (FL F B) T1) ex) hB
    have fr : ∀ x, F x → upd H0 p (fz ob [v, w]) x = H x := fun x hx => by
      rw [← fr0 x hx]
      cases e : H0 x with
      | none => exact absurd e (st0.al x (.inl hx))
      | some o => exact ex _ _ e
    obtain ⟨B1, B2, rfl, c1, c2⟩ := cels_split hc
    have eF : FL F (B1 ++ B2) = FL (FL F B2) B1 := by rw [FL_app]; exact FL_perm fun x => by simp [or_comm]
    rw [eF] at st1 c1 c2 vis
    have n1 := List.nodup_append.mp nd
    obtain ⟨T2, st2, vis2⟩ := StOk.cel (F := FL F B2) hi hl.1 st1 n1.1 (fun x hx y => y.elim (off x (List.mem_append_left _ hx)) fun y => n1.2.2 x hx x y rfl) c1
    have c2' := c2.mv vis2 fun x hx => rfl
    obtain ⟨T3, st3, vis3⟩ := StOk.cel (F := F) hj (by rw [List.length_set]; exact hl.2) st2 n1.2.1 (fun x hx => off x (List.mem_append_right _ hx)) c2'
    exact ⟨v, [w], rfl, w, [], rfl, rfl, q _ T3 _ st3 ⟨fr, (vis.trans vis2).trans vis3⟩⟩
  · rw [if_neg hl] at e; cases e
/-! ### e[::-1] -/
def backP : PD → Option PD
  | .list ds => some (.list ds.reverse)
  | .tuple ds => some (.tuple ds.reverse)
  | _ => none
def backL : PD → Option PD
  | .list ds => some (.list ds.reverse)
  | _ => none
theorem RpAll.rev {H : Hp} : ∀ {vs : List V} {ds : List PD}, RpAll H vs ds → RpAll H vs.reverse ds.reverse
  | _, _, .nil => .nil
  | _, _, .cons h r => by rw [List.reverse_cons, List.reverse_cons]; exact (RpAll.rev r).append (.cons h .nil)
theorem se_back {te : TE} {a : XE} (ha : SE te a) : SE (tBack K te) (xUn backP a) := fun ρ d h S σ H al en Q q => by
  obtain ⟨x, h1, h⟩ := bind_some h
  refine ha ρ x h1 S σ H al en _ fun v H1 e1 rv => ?_
  cases rv with
  | lst hh ra =>
    cases h
    exact ⟨_, _, rfl, .inl ⟨.inl (.inl (hid_le _ _ hh)), fun p hp => q _ _ (e1.trans (Ex.new hp)) (.lst (new_ok (al.ex e1) hp) (ra.rev.ex (hid_ex (Ex.new hp))))⟩⟩
  | tup hh pl ra =>
    cases h
    exact ⟨_, _, rfl, .inr ⟨.inl (.inr ⟨_, hid_le _ _ hh⟩), fun p o hp pl => q _ _ (e1.trans (Ex.new hp)) (.tup (new_ok (al.ex e1) hp) pl (ra.rev.ex (hid_ex (Ex.new hp))))⟩⟩
  | _ => cases h
theorem sef_back {te : TE} {a : XE} (ha : SE te a) : SEF (tBack K te) (xUn backL a) := fun ρ d h => by
  obtain ⟨x, h1, h⟩ := bind_some h
  cases x with
  | list ds =>
    cases h
    refine ⟨_, rfl, fun S σ H al en Q q => ha ρ _ h1 S σ H al en _ fun v H1 e1 rv => ?_⟩
    cases rv with
    | lst hh ra => exact ⟨_, _, rfl, .inl ⟨.inl (.inl (hid_le _ _ hh)), fun p hp => q p _ _ (e1.trans (Ex.new hp)) (ex_free e1 hp) upd_same (ra.rev.ex (hid_cons (Ex.new hp) hp))⟩⟩
  | _ => cases h
theorem sw_back {te : TE} {a : XW} (ha : SW te a) : SW (tBack K te) (wUn backP a) := fun pn F T H σ ρ d ρ' st e Q q => by
  obtain ⟨⟨x, ρ1⟩, h1, e⟩ := bind_some e
  obtain ⟨z, h3, e⟩ := bind_some e
  cases e
  refine ha pn F T H σ ρ x _ st h1 _ fun v T1 H1 st1 s1 rv => ?_
  cases rv with
  | lst hh ra =>
    cases h3
    exact ⟨_, _, rfl, .inl ⟨.inl (.inl (hid_le _ _ hh)), fun p hp => q _ T1 _ (st1.ex (Ex.new hp)) (s1.trans (Stp.ex st1.al (Ex.new hp))) (.lst (new_ok st1.als hp) (ra.rev.ex (hid_ex (Ex.new hp))))⟩⟩
  | tup hh pl ra =>
    cases h3
    exact ⟨_, _, rfl, .inr ⟨.inl (.inr ⟨_, hid_le _ _ hh⟩), fun p o hp pl => q _ T1 _ (st1.ex (Ex.new hp)) (s1.trans (Stp.ex st1.al (Ex.new hp))) (.tup (new_ok st1.als hp) pl (ra.rev.ex (hid_ex (Ex.new hp))))⟩⟩
  | _ => cases h3
/-! ### list(range(n)), tuple(range(n)) -/
def rgP : PD → Option (List PD)
  | .int n => if -(2 ^ 62) ≤ n ∧ n ≤ 100000 then some ((List.range n.toNat).map fun k => .int (k : Nat)) else none
  | _ => none
def rgL (d : PD) : Option PD := (rgP d).bind fun ds => some (.list ds)
def rgT (d : PD) : Option PD := (rgP d).bind fun ds => some (.tuple ds)
theorem rp_rg {H : Hp} {n : Int} : RpAll H (rgV 0 n) ((List.range n.toNat).map fun k => .int (k : Nat)) := by
  unfold rgV
  rw [Int.sub_zero]
  generalize List.range n.toNat = l
  induction l with
  | nil => exact .nil
  | cons k l ih =>
    rw [List.map_cons, List.map_cons, Int.zero_add]
    exact .cons (.int _) ih
theorem rg_ok {n : Int} (h : -(2 ^ 62) ≤ n ∧ n ≤ 100000) : RgOk 0 n := ⟨by omega, by omega, h.1, by omega, by omega⟩
theorem sef_rgL {ta : TE} {a : XE} (ha : SE ta a) : SEF (tLstRg (tRg1 ta)) (xUn rgL a) := fun ρ d h => by
  obtain ⟨x, h1, h⟩ := bind_some h
  obtain ⟨ds, h2, h⟩ := bind_some h
  cases h
  cases x with
  | int n =>
    have h2 : (if -(2 ^ 62) ≤ n ∧ n ≤ 100000 then some ((List.range n.toNat).map fun k => PyData.int (k : Nat)) else none) = some ds := h2
    by_cases c : -(2 ^ 62) ≤ n ∧ n ≤ 100000
    · rw [if_pos c] at h2
      cases h2
      refine ⟨_, rfl, fun S σ H al en Q q => ha ρ _ h1 S σ H al en _ fun v H1 e1 rv => ?_⟩
      cases rv
      exact ⟨n, rfl, rg_ok c, fun p hp => q p _ _ (e1.trans (Ex.new hp)) (ex_free e1 hp) upd_same rp_rg⟩
    · rw [if_neg c] at h2; cases h2
  | _ => cases h2
theorem se_rgT {ta : TE} {a : XE} (ha : SE ta a) : SE (tTupRgF (tRg1 ta)) (xUn rgT a) := fun ρ d h S σ H al en Q q => by
  obtain ⟨x, h1, h⟩ := bind_some h
  obtain ⟨ds, h2, h⟩ := bind_some h
  cases h
  refine ha ρ _ h1 S σ H al en _ fun v H1 e1 rv => ?_
  cases rv with
  | int n =>
    have h2 : (if -(2 ^ 62) ≤ n ∧ n ≤ 100000 then some ((List.range n.toNat).map fun k => PyData.int (k : Nat)) else none) = some ds := h2
    by_cases c : -(2 ^ 62) ≤ n ∧ n ≤ 100000
    · rw [if_pos c] at h2
      cases h2
      exact ⟨n, rfl, rg_ok c, fun p o hp pl => q _ _ (e1.trans (Ex.new hp)) (.tup (new_ok (al.ex e1) hp) pl rp_rg)⟩
    · rw [if_neg c] at h2; cases h2
  | _ => cases h2
/-! ### t * k -/
def mulU : PD → PD → Option PD
  | .tuple xs, .int j => if xs ≠ [] ∧ 0 ≤ j ∧ j ≤ 1000 ∧ xs.length ≤ 1000 then some (.tuple (List.replicate j.toNat xs).flatten) else none
  | x, y => mulP x y
def rMulV (K : PySem.W.Frag) : R2 := fun x y H Q => rMulU x y H Q ∨ rRepF K x y H Q
theorem op_mulV {X : Cx} : OpR X (binaryOp .Mult) (rMulV X.K) := OpR.or op_mulU op_repF
theorem so_mulV : SO (rMulV K) mulU := fun x y z h S H vx vy al rx ry Q q => by
  cases rx with
  | @tup a o xs ds ha pa ra =>
    cases ry with
    | int j =>
      have h : (if ds ≠ [] ∧ 0 ≤ j ∧ j ≤ 1000 ∧ ds.length ≤ 1000 then some (PyData.tuple (List.replicate j.toNat ds).flatten) else none) = some z := h
      by_cases c : ds ≠ [] ∧ 0 ≤ j ∧ j ≤ 1000 ∧ ds.length ≤ 1000
      · rw [if_pos c] at h
        cases h
        refine .inr ⟨a, j, xs, rfl, rfl, .inl (.inr ⟨_, hid_le _ _ ha⟩), fun e => ?_, c.2.1, c.2.2.1, by rw [ra.length]; exact c.2.2.2, fun e => ?_, fun e p o' hp pl => q _ _ (Ex.new hp) (.tup (new_ok al hp) pl ((ra.rep j.toNat).ex (hid_ex (Ex.new hp))))⟩
        · subst e
          cases ra
          exact c.1 rfl
        · subst e
          refine q _ H (Ex.refl H) ?_
          have e : (List.replicate (1 : Int).toNat ds).flatten = ds := by simp
          rw [e]
          exact .tup ha pa ra
      · rw [if_neg c] at h; cases h
    | _ => cases h
  | int i => exact .inl (so_mul _ _ z (by cases y <;> exact h) S H _ vy al (.int i) ry Q q)
  | lst ha ra => exact .inl (so_mul _ _ z (by cases y <;> exact h) S H _ vy al (.lst ha ra) ry Q q)
  | _ => cases y <;> cases h
/-! ### min and max of three -/
def minU : List PD → Option PD
  | [.int i, .int j, .int k] => some (.int (if k < (if j < i then j else i) then k else (if j < i then j else i)))
  | xs => minP xs
def rMinV (K : PySem.W.Frag) : List V → Hp → VK → Prop := fun xs H Q => rMinU K xs H Q ∨ rNuC3 nuMin3 xs H Q
theorem cr_minV {X : Cx} (hc : X.calm = true) : CallR X (.builtin "min") (rMinV X.K) := CallR.or (cr_minU hc) (call_min3Nu hc)
theorem sc_minV : SC (rMinV K) minU := fun xs z h S H vs al rs Q q => by
  by_cases c : ∃ i j k, xs = [.int i, .int j, .int k]
  · obtain ⟨i, j, k, rfl⟩ := c
    cases h
    cases rs with
    | cons r1 rs =>
      cases rs with
      | cons r2 rs =>
        cases rs with
        | cons r3 rs =>
          cases rs
          cases r1; cases r2; cases r3
          refine .inr ⟨.int i, .int j, .int k, .int (if k < (if j < i then j else i) then k else (if j < i then j else i)), rfl, ?_, q _ H (Ex.refl H) (.int _)⟩
          unfold nuMin3 nuMin2
          by_cases c1 : j < i
          · by_cases c2 : k < j <;> simp [nuLt, nuCB, c1, c2]
          · by_cases c2 : k < i <;> simp [nuLt, nuCB, c1, c2]
  · refine .inl (sc_min xs z ?_ S H vs al rs Q q)
    unfold minU at h
    split at h
    · exact absurd ⟨_, _, _, rfl⟩ c
    · exact h
end
end Uv

namespace Uv
open PySem PySem.Spec PyProof.Rows L2
open Evl (Ex)
/-! ### a > b of sequences -/
def rGtD (K : PySem.W.Frag) : R2 := fun x y H Q => ∃ d e, Dp K H x d ∧ Dp K H y e ∧ SeqAt.shaped d = true ∧ PySem.W.alike d e = true ∧ d ≠ .none ∧ Q (.bl (PySem.W.dataLt e d)) H
theorem shaped_dep {d : PyData} (h : SeqAt.shaped d = true) : d.depth ≤ 64 := by
  unfold SeqAt.shaped at h
  rw [Bool.and_eq_true] at h
  exact of_decide_eq_true h.2
theorem op_gtD {X : Cx} (hu : X.A.units + 64 < cLine) : OpR X (compareOp .Gt) (rGtD X.K) := by
  intro pins s σ H x y v u Q I rx ry h
  obtain ⟨d, e, hd, he, sd, al, hn, q⟩ := h
  obtain ⟨as, r1⟩ := Dp.reads I d x v hd rx
  obtain ⟨bs, r2⟩ := Dp.reads I e y u he ry
  have := shaped_dep sd
  exact PySem.W.gt_data r1 r2 al hn (by omega) ⟨.bl _, H, I, rfl, q⟩
variable [kk : KK]
def rGtU (K : PySem.W.Frag) : R2 := fun x y H Q => oGt x y H Q ∨ rGtD K x y H Q
theorem op_gtU {X : Cx} (hu : X.A.units + 64 < cLine) : OpR X (compareOp .Gt) (rGtU X.K) := OpR.or op_gt (op_gtD hu)
def gtU : PD → PD → Option PD
  | .int i, .int j => some (.bool (decide (j < i)))
  | x, y => if SeqAt.shaped x = true ∧ SeqAt.shaped y = true ∧ PySem.W.alike x y = true ∧ isNone x = false then some (.bool (PySem.W.dataLt y x)) else none
omit kk in
theorem gtU_eq {x y z : PD} (h : gtU x y = some z) : (∃ i j, x = .int i ∧ y = .int j ∧ z = .bool (decide (j < i))) ∨ (SeqAt.shaped x = true ∧ SeqAt.shaped y = true ∧ PySem.W.alike x y = true ∧ isNone x = false ∧ z = .bool (PySem.W.dataLt y x)) := by
  unfold gtU at h
  split at h
  · cases h
    exact .inl ⟨_, _, rfl, rfl, rfl⟩
  · split at h
    · rename_i c
      cases h
      exact .inr ⟨c.1, c.2.1, c.2.2.1, c.2.2.2, rfl⟩
    · cases h
theorem so_gtU : SO (rGtU K) gtU := fun x y z h S H vx vy al rx ry Q q => by
  rcases gtU_eq h with ⟨i, j, rfl, rfl, rfl⟩ | ⟨c1, c2, c3, c4, rfl⟩
  · cases rx; cases ry
    exact .inl ⟨i, j, rfl, rfl, q _ H (Ex.refl H) (.bl _)⟩
  · refine .inr ⟨x, y, (rx.ex hid_le).dp (nodict c1), (ry.ex hid_le).dp (nodict c2), c1, c3, ?_, q _ H (Ex.refl H) (.bl _)⟩
    rintro rfl
    exact nomatch c4
/-! lists of whole numbers -/
def lexI : List Int → List Int → Bool
  | [], [] => false
  | [], _ :: _ => true
  | _ :: _, [] => false
  | a :: l, b :: m => if a = b then lexI l m else decide (a < b)
omit kk in
theorem alike_ints {α β : Type} {f : α → Int} {g : β → Int} : ∀ (l : List α) (m : List β), PySem.W.alikeAll (l.map fun x => PyData.int (f x)) (m.map fun x => PyData.int (g x)) = true
  | [], _ => by simp [PySem.W.alikeAll]
  | _ :: _, [] => by simp [PySem.W.alikeAll]
  | a :: l, b :: m => by
    rw [List.map_cons, List.map_cons, PySem.W.alikeAll, alike_ints l m]
    rfl
omit kk in
theorem toks_ints : ∀ (l m : List Int), PyProof.Rows.lexLt itemOrd (PySem.W.keyToksAll (l.map PyData.int)) (PySem.W.keyToksAll (m.map PyData.int)) = lexI l m
  | [], [] => rfl
  | [], _ :: _ => rfl
  | _ :: _, [] => rfl
  | a :: l, b :: m => by
    have ih := toks_ints l m
    rw [List.map_cons, List.map_cons, PySem.W.keyToksAll, PySem.W.keyToksAll, PySem.W.keyToks, PySem.W.keyToks]
    show PyProof.Rows.lexLt itemOrd (.inl 1 :: (.inl a :: PySem.W.keyToksAll (l.map PyData.int))) (.inl 1 :: (.inl b :: PySem.W.keyToksAll (m.map PyData.int))) = _
    rw [lex_cons, lex_cons, ih]
    show ((decide ((1 : Int) < 1)) || (!(decide ((1 : Int) < 1)) && (decide (a < b) || (!(decide (b < a)) && lexI l m)))) = _
    show _ = if a = b then lexI l m else decide (a < b)
    by_cases c : a = b
    · subst c; simp
    · rw [if_neg c]
      by_cases c2 : a < b
      · simp [c2]
      · have : b < a := by omega
        simp [c2, this]
end Uv

namespace Uv
open PySem PySem.Spec PyProof.Rows L2
open Evl (Ex)
/-! ### zip of three tuples: its objects lie one behind the other, the tuples ahead of them -/
abbrev Tri (h : Heap) (T : Addr) (a b c : Value) : Prop := h.get? T = some { cls := .type "tuple", data := .seq #[a, b, c] }
structure Z3 (h : Heap) (n l1 l2 l3 : Nat) (k : Nat) : Prop where
  z : IsZip h (n + 5) (n + 3) (n + 4) .none
  ti : Tri h (n + 3) (.ref n) (.ref (n + 1)) (.ref (n + 2))
  to : ∃ a b c, Tri h (n + 4) a b c
  t1 : h.IsTupleIter n l1 k
  t2 : h.IsTupleIter (n + 1) l2 k
  t3 : h.IsTupleIter (n + 2) l3 k
section
variable {prog : Program} {w : World} {A : Around} {E : Value → Shared → Prop} {s : Shared}
theorem tri_set {T : Addr} {a b c x : Value} {k : Nat} {Q : Unit → Shared → Prop} (hT : Tri s.heap T a b c)
    (h : ∀ h', h'.get? T = some { cls := .type "tuple", data := .seq ((#[a, b, c] : Array Value).setIfInBounds k x) } → Heap.SameBut T s.heap h' → Q () { s with heap := h' }) :
    wpAny (model prog w) A (updateSeq T (·.setIfInBounds k x)) Q E s :=
  wpAny_updateSeq hT rfl (h _ (by rw [Heap.get?_update_self _ hT rfl]; simp [Obj.mapSeq]) (Heap.SameBut.update ..))
theorem same_up {a c : Addr} {o : Obj} {h h' : Heap} (k : Heap.SameBut a h h') (hc : c ≠ a) (e : h.get? c = some o) : h'.get? c = some o := k.extBut c o hc e
theorem z3_item {n l1 l2 l3 : Nat} {k : Nat} {xs ys ws : Array Value} {x y v : Value} {Q : Value → Shared → Prop} (st : Z3 s.heap n l1 l2 l3 k) (n1 : l1 < n) (n2 : l2 < n) (n3 : l3 < n) (p1 : s.heap.IsTuple l1 xs) (p2 : s.heap.IsTuple l2 ys) (p3 : s.heap.IsTuple l3 ws) (hx : xs[k]? = some x) (hy : ys[k]? = some y) (hv : ws[k]? = some v)
    (hQ : ∀ h', IsZip h' (n + 5) (n + 3) (n + 4) (rawInt s.heap.objs.size) → Tri h' (n + 4) x y v → h'.IsTupleIter n l1 (k + 1) → h'.IsTupleIter (n + 1) l2 (k + 1) → h'.IsTupleIter (n + 2) l3 (k + 1) → Tri h' s.heap.objs.size x y v → h'.objs.size = s.heap.objs.size + 1 →
      (∀ c o, c ≠ n + 5 → c ≠ n + 4 → c ≠ n → c ≠ n + 1 → c ≠ n + 2 → s.heap.get? c = some o → h'.get? c = some o) → Q (.ref s.heap.objs.size) { s with heap := h' }) :
    wpAny (model prog w) A (Builtin.«zip.__next__» ⟨[.ref (n + 5)], []⟩) (fun fin s' => ∃ v, fin = .done (.ret v) ∧ Q v s') E s := by
  obtain ⟨hz, hti, ⟨a, b, c, hto⟩, q1, q2, q3⟩ := st
  show wpAny _ _ (field (.ref (n + 5)) 2 >>= _) _ _ _
  refine wpAny_bind (wpAny_field hz rfl (x := .bool false) rfl ?_)
  show wpAny _ _ (field (.ref (n + 5)) 3 >>= _) _ _ _
  refine wpAny_bind (wpAny_field hz rfl (x := .ref (n + 3)) rfl (wpAny_bind (wpAny_seqItems hti rfl ?_)))
  show wpAny _ _ (Builtin.SmallTypes.ownedTupleIsFree (.ref (n + 5)) >>= _) _ _ _
  refine wpAny_bind ?_
  unfold Builtin.SmallTypes.ownedTupleIsFree
  refine wpAny_bind (wpAny_field hz rfl (x := .none) rfl (wpAny_pure ?_))
  simp only [if_true]
  refine wpAny_bind (wpAny_rule (wpAny_bind (wpAny_field hz rfl (x := .ref (n + 4)) rfl ?_)))
  refine wpAny_bind (wpAny_setField_rec hz (by simp) fun g1 z1 k1 => wpAny_bind ?_)
  replace z1 : IsZip g1 (n + 5) (n + 3) (n + 4) .ellipsis := z1
  simp only [List.zipIdx_cons, List.zipIdx_nil, List.forIn_cons, List.forIn_nil]
  -- the first
  refine wpAny_bind (wpAny_bind (wpAny_onRaise (?_ : wpAny _ _ (Builtin.SmallTypes.nextOf (.ref n) >>= _) _ _ _)))
  refine wpAny_bind (RZ.nextOf_tuple_item (q1.extBut k1.extBut (by show @Ne Nat _ _; omega)) (p1.extBut k1.extBut (by show @Ne Nat _ _; omega)) hx fun g2 r1 k2 => wpAny_pure ?_)
  have o2 : Tri g2 (n + 4) a b c := same_up k2 (by show @Ne Nat _ _; omega) (same_up k1 (by show @Ne Nat _ _; omega) hto)
  refine wpAny_bind (wpAny_seqItems o2 rfl (wpAny_bind (tri_set o2 fun g3 o3 k3 => wpAny_bind (wpAny_letGo (wpAny_pure ?_)))))
  replace o3 : Tri g3 (n + 4) x b c := o3
  -- the second
  refine wpAny_bind (wpAny_bind (wpAny_onRaise (?_ : wpAny _ _ (Builtin.SmallTypes.nextOf (.ref (n + 1)) >>= _) _ _ _)))
  refine wpAny_bind (RZ.nextOf_tuple_item (((q2.extBut k1.extBut (by show @Ne Nat _ _; omega)).extBut k2.extBut (by show @Ne Nat _ _; omega)).extBut k3.extBut (by show @Ne Nat _ _; omega)) (((p2.extBut k1.extBut (by show @Ne Nat _ _; omega)).extBut k2.extBut (by show @Ne Nat _ _; omega)).extBut k3.extBut (by show @Ne Nat _ _; omega)) hy fun g4 r2 k4 => wpAny_pure ?_)
  have o4 : Tri g4 (n + 4) x b c := same_up k4 (by show @Ne Nat _ _; omega) o3
  refine wpAny_bind (wpAny_seqItems o4 rfl (wpAny_bind (tri_set o4 fun g5 o5 k5 => wpAny_bind (wpAny_letGo (wpAny_pure ?_)))))
  replace o5 : Tri g5 (n + 4) x y c := o5
  -- the third
  refine wpAny_bind (wpAny_bind (wpAny_onRaise (?_ : wpAny _ _ (Builtin.SmallTypes.nextOf (.ref (n + 2)) >>= _) _ _ _)))
  refine wpAny_bind (RZ.nextOf_tuple_item (((((q3.extBut k1.extBut (by show @Ne Nat _ _; omega)).extBut k2.extBut (by show @Ne Nat _ _; omega)).extBut k3.extBut (by show @Ne Nat _ _; omega)).extBut k4.extBut (by show @Ne Nat _ _; omega)).extBut k5.extBut (by show @Ne Nat _ _; omega)) (((((p3.extBut k1.extBut (by show @Ne Nat _ _; omega)).extBut k2.extBut (by show @Ne Nat _ _; omega)).extBut k3.extBut (by show @Ne Nat _ _; omega)).extBut k4.extBut (by show @Ne Nat _ _; omega)).extBut k5.extBut (by show @Ne Nat _ _; omega)) hv fun g6 r3 k6 => wpAny_pure ?_)
  have o6 : Tri g6 (n + 4) x y c := same_up k6 (by show @Ne Nat _ _; omega) o5
  refine wpAny_bind (wpAny_seqItems o6 rfl (wpAny_bind (tri_set o6 fun g7 o7 k7 => wpAny_bind (wpAny_letGo (wpAny_pure (wpAny_pure ?_))))))
  replace o7 : Tri g7 (n + 4) x y v := o7
  -- what comes of it
  refine wpAny_bind (wpAny_seqItems o7 rfl (wpAny_bind (wpAny_newTuple ?_)))
  have sz : g7.objs.size = s.heap.objs.size := by rw [k7.1, k6.1, k5.1, k4.1, k3.1, k2.1, k1.1]
  have z7 : IsZip g7 (n + 5) (n + 3) (n + 4) .ellipsis := same_up k7 (by show @Ne Nat _ _; omega) (same_up k6 (by show @Ne Nat _ _; omega) (same_up k5 (by show @Ne Nat _ _; omega) (same_up k4 (by show @Ne Nat _ _; omega) (same_up k3 (by show @Ne Nat _ _; omega) (same_up k2 (by show @Ne Nat _ _; omega) z1)))))
  have kp : ∀ c o, c ≠ n + 5 → c ≠ n + 4 → c ≠ n → c ≠ n + 1 → c ≠ n + 2 → s.heap.get? c = some o → g7.get? c = some o := fun c o c1 c2 c3 c4 c5 e =>
    same_up k7 c2 (same_up k6 c5 (same_up k5 c2 (same_up k4 c4 (same_up k3 c2 (same_up k2 c3 (same_up k1 c1 e))))))
  have i1 : g7.IsTupleIter n l1 (k + 1) := ((((r1.extBut k3.extBut (by show @Ne Nat _ _; omega)).extBut k4.extBut (by show @Ne Nat _ _; omega)).extBut k5.extBut (by show @Ne Nat _ _; omega)).extBut k6.extBut (by show @Ne Nat _ _; omega)).extBut k7.extBut (by show @Ne Nat _ _; omega)
  have i2 : g7.IsTupleIter (n + 1) l2 (k + 1) := ((r2.extBut k5.extBut (by show @Ne Nat _ _; omega)).extBut k6.extBut (by show @Ne Nat _ _; omega)).extBut k7.extBut (by show @Ne Nat _ _; omega)
  have i3 : g7.IsTupleIter (n + 2) l3 (k + 1) := r3.extBut k7.extBut (by show @Ne Nat _ _; omega)
  have lz : n + 5 < g7.objs.size := Heap.lt_size z7
  refine wpAny_bind (?_ : wpAny _ _ (Builtin.SmallTypes.ownedTupleHandOut (.ref (n + 5)) (.ref g7.objs.size)) _ _ _)
  unfold Builtin.SmallTypes.ownedTupleHandOut
  have z8 : IsZip (g7.push { cls := .type "tuple", data := .seq #[x, y, v] }) (n + 5) (n + 3) (n + 4) .ellipsis := Heap.get?_push_of_some _ z7
  refine wpAny_bind (wpAny_setField_rec z8 (by simp) fun g9 z9 k9 => ?_)
  replace z9 : IsZip g9 (n + 5) (n + 3) (n + 4) (rawInt g7.objs.size) := z9
  refine wpAny_setField_rec z9 (by simp) fun g10 z10 k10 => ?_
  replace z10 : IsZip g10 (n + 5) (n + 3) (n + 4) (rawInt g7.objs.size) := z10
  have up : ∀ c o, c ≠ n + 5 → g7.get? c = some o → g10.get? c = some o := fun c o c1 e => same_up k10 c1 (same_up k9 c1 (Heap.get?_push_of_some _ e))
  have t10 : Tri g10 g7.objs.size x y v := same_up k10 (by show @Ne Nat _ _; omega) (same_up k9 (by show @Ne Nat _ _; omega) (Heap.get?_push_size _ rfl))
  have s10 : g10.objs.size = g7.objs.size + 1 := by rw [k10.1, k9.1, Heap.size_push]
  rw [sz] at z10 t10 s10
  refine wpAny_pure ⟨_, rfl, (?_ : Q (.ref g7.objs.size) _)⟩
  rw [sz]
  exact hQ g10 z10 (up _ _ (by show @Ne Nat _ _; omega) o7) (i1.at fun o e => up _ o (by show @Ne Nat _ _; omega) e) (i2.at fun o e => up _ o (by show @Ne Nat _ _; omega) e) (i3.at fun o e => up _ o (by show @Ne Nat _ _; omega) e) t10 s10 fun c o c1 c2 c3 c4 c5 e => up c o c1 (kp c o c1 c2 c3 c4 c5 e)
theorem z3_end {n l1 l2 l3 : Nat} {k : Nat} {xs ys ws : Array Value} {Q : Fin → Shared → Prop} (hh : A.handled = none) (st : Z3 s.heap n l1 l2 l3 k) (n1 : l1 < n) (n2 : l2 < n) (n3 : l3 < n) (p1 : s.heap.IsTuple l1 xs) (p2 : s.heap.IsTuple l2 ys) (p3 : s.heap.IsTuple l3 ws) (fin : xs[k]? = none ∨ ys[k]? = none ∨ ws[k]? = none)
    (hE : ∀ h' e, (∀ c o, c ≠ n + 5 → c ≠ n + 4 → c ≠ n → c ≠ n + 1 → c ≠ n + 2 → s.heap.get? c = some o → h'.get? c = some o) → (∃ o, h'.get? e = some o ∧ o.cls = .type "StopIteration") → E (.ref e) { s with heap := h' }) :
    wpAny (model prog w) A (Builtin.«zip.__next__» ⟨[.ref (n + 5)], []⟩) Q E s := by
  obtain ⟨hz, hti, ⟨a, b, c, hto⟩, q1, q2, q3⟩ := st
  show wpAny _ _ (field (.ref (n + 5)) 2 >>= _) _ _ _
  refine wpAny_bind (wpAny_field hz rfl (x := .bool false) rfl ?_)
  show wpAny _ _ (field (.ref (n + 5)) 3 >>= _) _ _ _
  refine wpAny_bind (wpAny_field hz rfl (x := .ref (n + 3)) rfl (wpAny_bind (wpAny_seqItems hti rfl ?_)))
  show wpAny _ _ (Builtin.SmallTypes.ownedTupleIsFree (.ref (n + 5)) >>= _) _ _ _
  refine wpAny_bind ?_
  unfold Builtin.SmallTypes.ownedTupleIsFree
  refine wpAny_bind (wpAny_field hz rfl (x := .none) rfl (wpAny_pure ?_))
  simp only [if_true]
  refine wpAny_bind (wpAny_rule (wpAny_bind (wpAny_field hz rfl (x := .ref (n + 4)) rfl ?_)))
  refine wpAny_bind (wpAny_setField_rec hz (by simp) fun g1 z1 k1 => wpAny_bind ?_)
  replace z1 : IsZip g1 (n + 5) (n + 3) (n + 4) .ellipsis := z1
  -- where one of them is at its end
  have stop : ∀ {g g' : Heap} {e : Addr}, IsZip g (n + 5) (n + 3) (n + 4) .ellipsis → (∃ o, g.get? e = some o ∧ o.cls = .type "StopIteration") → (∀ c o, c ≠ n + 5 → c ≠ n + 4 → c ≠ n → c ≠ n + 1 → c ≠ n + 2 → s.heap.get? c = some o → g.get? c = some o) → wpAny (model prog w) A (setField (.ref (n + 5)) 0 .none) (fun _ s' => E (.ref e) s') E { s with heap := g } := fun {g g' e} hg he keep => by
    obtain ⟨o, ho, hc⟩ := he
    have ne : e ≠ n + 5 := fun q => by
      subst q
      rw [hg] at ho
      cases ho
      simp at hc
    exact wpAny_setField_rec (s := { s with heap := g }) hg (by simp) fun g' _ k' => hE g' e (fun c o c1 c2 c3 c4 c5 q => same_up k' c1 (keep c o c1 c2 c3 c4 c5 q)) ⟨o, same_up k' ne ho, hc⟩
  simp only [List.zipIdx_cons, List.zipIdx_nil, List.forIn_cons, List.forIn_nil]
  refine wpAny_bind (wpAny_bind (wpAny_onRaise (?_ : wpAny _ _ (Builtin.SmallTypes.nextOf (.ref n) >>= _) _ _ _)))
  cases hx : xs[k]? with
  | none =>
    refine wpAny_bind (RZ.nextOf_tuple_end hh (q1.extBut k1.extBut (by show @Ne Nat _ _; omega)) (p1.extBut k1.extBut (by show @Ne Nat _ _; omega)) hx fun g2 e k2 he => ?_)
    exact stop (g' := g2) (k2 _ _ (by show @Ne Nat _ _; omega) z1) he fun c o c1 c2 c3 c4 c5 q => k2 _ _ c3 (same_up k1 c1 q)
  | some x =>
    refine wpAny_bind (RZ.nextOf_tuple_item (q1.extBut k1.extBut (by show @Ne Nat _ _; omega)) (p1.extBut k1.extBut (by show @Ne Nat _ _; omega)) hx fun g2 r1 k2 => wpAny_pure ?_)
    have o2 : Tri g2 (n + 4) a b c := same_up k2 (by show @Ne Nat _ _; omega) (same_up k1 (by show @Ne Nat _ _; omega) hto)
    refine wpAny_bind (wpAny_seqItems o2 rfl (wpAny_bind (tri_set o2 fun g3 o3 k3 => wpAny_bind (wpAny_letGo (wpAny_pure ?_)))))
    replace o3 : Tri g3 (n + 4) x b c := o3
    have z3 : IsZip g3 (n + 5) (n + 3) (n + 4) .ellipsis := same_up k3 (by show @Ne Nat _ _; omega) (same_up k2 (by show @Ne Nat _ _; omega) z1)
    refine wpAny_bind (wpAny_bind (wpAny_onRaise (?_ : wpAny _ _ (Builtin.SmallTypes.nextOf (.ref (n + 1)) >>= _) _ _ _)))
    have q2' := ((q2.extBut k1.extBut (by show @Ne Nat _ _; omega)).extBut k2.extBut (by show @Ne Nat _ _; omega)).extBut k3.extBut (by show @Ne Nat _ _; omega)
    have p2' := ((p2.extBut k1.extBut (by show @Ne Nat _ _; omega)).extBut k2.extBut (by show @Ne Nat _ _; omega)).extBut k3.extBut (by show @Ne Nat _ _; omega)
    cases hy : ys[k]? with
    | none =>
      refine wpAny_bind (RZ.nextOf_tuple_end hh q2' p2' hy fun g4 e k4 he => ?_)
      exact stop (g' := g4) (k4 _ _ (by show @Ne Nat _ _; omega) z3) he fun c o c1 c2 c3 c4 c5 q => k4 _ _ c4 (same_up k3 c2 (same_up k2 c3 (same_up k1 c1 q)))
    | some y =>
      have hv : ws[k]? = none := by
        rcases fin with q | q | q
        · rw [hx] at q; cases q
        · rw [hy] at q; cases q
        · exact q
      refine wpAny_bind (RZ.nextOf_tuple_item q2' p2' hy fun g4 r2 k4 => wpAny_pure ?_)
      have o4 : Tri g4 (n + 4) x b c := same_up k4 (by show @Ne Nat _ _; omega) o3
      refine wpAny_bind (wpAny_seqItems o4 rfl (wpAny_bind (tri_set o4 fun g5 o5 k5 => wpAny_bind (wpAny_letGo (wpAny_pure ?_)))))
      have z5 : IsZip g5 (n + 5) (n + 3) (n + 4) .ellipsis := same_up k5 (by show @Ne Nat _ _; omega) (same_up k4 (by show @Ne Nat _ _; omega) z3)
      refine wpAny_bind (wpAny_bind (wpAny_onRaise (?_ : wpAny _ _ (Builtin.SmallTypes.nextOf (.ref (n + 2)) >>= _) _ _ _)))
      refine wpAny_bind (RZ.nextOf_tuple_end hh (((((q3.extBut k1.extBut (by show @Ne Nat _ _; omega)).extBut k2.extBut (by show @Ne Nat _ _; omega)).extBut k3.extBut (by show @Ne Nat _ _; omega)).extBut k4.extBut (by show @Ne Nat _ _; omega)).extBut k5.extBut (by show @Ne Nat _ _; omega)) (((((p3.extBut k1.extBut (by show @Ne Nat _ _; omega)).extBut k2.extBut (by show @Ne Nat _ _; omega)).extBut k3.extBut (by show @Ne Nat _ _; omega)).extBut k4.extBut (by show @Ne Nat _ _; omega)).extBut k5.extBut (by show @Ne Nat _ _; omega)) hv fun g6 e k6 he => ?_)
      exact stop (g' := g6) (k6 _ _ (by show @Ne Nat _ _; omega) z5) he fun c o c1 c2 c3 c4 c5 q => k6 _ _ c5 (same_up k5 c2 (same_up k4 c4 (same_up k3 c2 (same_up k2 c3 (same_up k1 c1 q)))))
theorem next3_item {n l1 l2 l3 : Nat} {k : Nat} {xs ys ws : Array Value} {x y v : Value} {Q : Option Value → Shared → Prop} (st : Z3 s.heap n l1 l2 l3 k) (n1 : l1 < n) (n2 : l2 < n) (n3 : l3 < n) (p1 : s.heap.IsTuple l1 xs) (p2 : s.heap.IsTuple l2 ys) (p3 : s.heap.IsTuple l3 ws) (hx : xs[k]? = some x) (hy : ys[k]? = some y) (hv : ws[k]? = some v)
    (hQ : ∀ h', IsZip h' (n + 5) (n + 3) (n + 4) (rawInt s.heap.objs.size) → Tri h' (n + 4) x y v → h'.IsTupleIter n l1 (k + 1) → h'.IsTupleIter (n + 1) l2 (k + 1) → h'.IsTupleIter (n + 2) l3 (k + 1) → Tri h' s.heap.objs.size x y v → h'.objs.size = s.heap.objs.size + 1 →
      (∀ c o, c ≠ n + 5 → c ≠ n + 4 → c ≠ n → c ≠ n + 1 → c ≠ n + 2 → s.heap.get? c = some o → h'.get? c = some o) → Q (some (.ref s.heap.objs.size)) { s with heap := h' }) :
    wpAny (model prog w) A (pyNext (.ref (n + 5))) Q E s := by
  have ty : s.TypeIs (.ref (n + 5)) "zip" := ⟨_, st.z, rfl⟩
  unfold pyNext
  exact wpAny_bind (wpAny_attempt (wpAny_callSpecial?_slot (name := Str.ofString "__next__") ty F.slot_zip_next (wpAny_call_entry F.slot_zip_next ty F.entry_zip_next
    (z3_item st n1 n2 n3 p1 p2 p3 hx hy hv fun h' b1 b2 b3 b4 b5 b6 b7 b8 => wpAny_pure (hQ h' b1 b2 b3 b4 b5 b6 b7 b8)) (F.args_zip_next_1 _))))
theorem next3_end {n l1 l2 l3 : Nat} {k : Nat} {xs ys ws : Array Value} {Q : Option Value → Shared → Prop} (hh : A.handled = none) (st : Z3 s.heap n l1 l2 l3 k) (n1 : l1 < n) (n2 : l2 < n) (n3 : l3 < n) (p1 : s.heap.IsTuple l1 xs) (p2 : s.heap.IsTuple l2 ys) (p3 : s.heap.IsTuple l3 ws) (fin : xs[k]? = none ∨ ys[k]? = none ∨ ws[k]? = none)
    (hQ : ∀ h', (∀ c o, c ≠ n + 5 → c ≠ n + 4 → c ≠ n → c ≠ n + 1 → c ≠ n + 2 → s.heap.get? c = some o → h'.get? c = some o) → Q none { s with heap := h' }) :
    wpAny (model prog w) A (pyNext (.ref (n + 5))) Q E s := by
  have ty : s.TypeIs (.ref (n + 5)) "zip" := ⟨_, st.z, rfl⟩
  unfold pyNext
  refine wpAny_bind (wpAny_attempt (wpAny_callSpecial?_slot (name := Str.ofString "__next__") ty F.slot_zip_next (wpAny_call_entry F.slot_zip_next ty F.entry_zip_next (z3_end hh st n1 n2 n3 p1 p2 p3 fin fun h' e keep he => ?_) (F.args_zip_next_1 _))))
  obtain ⟨o, ho, hc⟩ := he
  exact wpAny_bind (wpAny_isInstance (T := "StopIteration") (b := true) ⟨o, ho, hc⟩ isSubtype_stop (wpAny_pure (hQ _ keep)))
end
/-! how it comes to be -/
theorem z3_type (a b c : Value) : checkTypeCall "zip" ⟨[a, b, c], []⟩ = pure () := by kernel_rfl
theorem z3_new (a b c : Value) : checkBuiltinCall "zip.__new__" ⟨[.type "zip", a, b, c], []⟩ = pure () := by kernel_rfl
theorem z3_init (a b c d : Value) : argsOk "object.__init__" ⟨[a, b, c, d], []⟩ := by
  unfold argsOk
  rw [signature?_of (id := "object.__init__") (n := ['_', '_', 't', 'i', 'n', 'i', '_', '_']) (o := ['t', 'c', 'e', 'j', 'b', 'o']) (by kernel_rfl) F.owner_object]
  kernel_rfl
abbrev itO (l : Addr) : Obj := { cls := .type "tuple_iterator", data := .fields #[.ref l, .int 0 0] }
abbrev lay1 (h : Heap) (l1 : Addr) : Heap := h.push (itO l1)
abbrev lay2 (h : Heap) (l1 l2 : Addr) : Heap := (lay1 h l1).push (itO l2)
abbrev lay3 (h : Heap) (l1 l2 l3 : Addr) : Heap := (lay2 h l1 l2).push (itO l3)
abbrev lay4 (h : Heap) (l1 l2 l3 : Addr) : Heap := (lay3 h l1 l2 l3).push { cls := .type "tuple", data := .seq #[.ref h.objs.size, .ref (lay1 h l1).objs.size, .ref (lay2 h l1 l2).objs.size] }
abbrev lay5 (h : Heap) (l1 l2 l3 : Addr) : Heap := (lay4 h l1 l2 l3).push { cls := .type "tuple", data := .seq #[.none, .none, .none] }
abbrev lay6 (h : Heap) (l1 l2 l3 : Addr) : Heap := (lay5 h l1 l2 l3).push { cls := .type "zip", data := .fields #[.none, .bool false, .bool false, .ref (lay3 h l1 l2 l3).objs.size, .ref (lay4 h l1 l2 l3).objs.size] }
theorem z3_meets (l1 l2 l3 : Addr) (xs ys ws : Array Value) :
    Meets (Builtin.«zip.__new__» ⟨[.type "zip", .ref l1, .ref l2, .ref l3], []⟩) (fun _ R s => s.heap.IsTuple l1 xs ∧ s.heap.IsTuple l2 ys ∧ s.heap.IsTuple l3 ws ∧ R (.ok (.ret (.ref (lay5 s.heap l1 l2 l3).objs.size))) { s with heap := lay6 s.heap l1 l2 l3 }) :=
  .of_wp fun prog w A R s h => by
    obtain ⟨hp, g, d, tk, os⟩ := s
    obtain ⟨p1, p2, p3, h⟩ := h
    have hsub := sub_zip
    have e1 : Heap.IsTuple (Shared.heap ⟨hp, g, d, tk, os⟩) l1 xs := p1
    have e2 : Heap.IsTuple (Shared.heap ⟨hp.push { cls := .type "tuple_iterator", data := .fields #[.ref l1, .int 0 0] }, g, d, tk, os⟩) l2 ys := Heap.IsTuple.push p2 _
    have e3 : Heap.IsTuple (Shared.heap ⟨(hp.push { cls := .type "tuple_iterator", data := .fields #[.ref l1, .int 0 0] }).push { cls := .type "tuple_iterator", data := .fields #[.ref l2, .int 0 0] }, g, d, tk, os⟩) l3 ws := Heap.IsTuple.push (Heap.IsTuple.push p3 _) _
    wp_walk using wpAny_pyIter_tuple e1, wpAny_pyIter_tuple e2, wpAny_pyIter_tuple e3
    exact ⟨_, rfl, h⟩
section
variable {prog : Program} {w : World} {A : Around} {E : Value → Shared → Prop} {s : Shared}
theorem call_zip3 {l1 l2 l3 : Addr} {xs ys ws : Array Value} {Q : Value → Shared → Prop} (p1 : s.heap.IsTuple l1 xs) (p2 : s.heap.IsTuple l2 ys) (p3 : s.heap.IsTuple l3 ws)
    (h : ∀ h', Z3 h' s.heap.objs.size l1 l2 l3 0 → h'.objs.size = s.heap.objs.size + 6 → (∀ c o, s.heap.get? c = some o → h'.get? c = some o) → Q (.ref (s.heap.objs.size + 5)) { s with heap := h' }) :
    wpAny (model prog w) A (call (.type "zip") [.ref l1, .ref l2, .ref l3]) Q E s := by
  refine callType_new F.called_zip (by decide) (z3_type _ _ _) (z3_new _ _ _) (fun obj => z3_init obj _ _ _) F.entry_zip_new (z3_meets l1 l2 l3 xs ys ws) ⟨p1, p2, p3, ?_⟩
  have y1 : (lay1 s.heap l1).objs.size = s.heap.objs.size + 1 := Heap.size_push ..
  have y2 : (lay2 s.heap l1 l2).objs.size = s.heap.objs.size + 2 := by rw [Heap.size_push, y1]
  have y3 : (lay3 s.heap l1 l2 l3).objs.size = s.heap.objs.size + 3 := by rw [Heap.size_push, y2]
  have y4 : (lay4 s.heap l1 l2 l3).objs.size = s.heap.objs.size + 4 := by rw [Heap.size_push, y3]
  have y5 : (lay5 s.heap l1 l2 l3).objs.size = s.heap.objs.size + 5 := by rw [Heap.size_push, y4]
  have y6 : (lay6 s.heap l1 l2 l3).objs.size = s.heap.objs.size + 6 := by rw [Heap.size_push, y5]
  have u5 : ∀ {c o}, (lay5 s.heap l1 l2 l3).get? c = some o → (lay6 s.heap l1 l2 l3).get? c = some o := fun e => Heap.get?_push_of_some _ e
  have u4 : ∀ {c o}, (lay4 s.heap l1 l2 l3).get? c = some o → (lay6 s.heap l1 l2 l3).get? c = some o := fun e => u5 (Heap.get?_push_of_some _ e)
  have u3 : ∀ {c o}, (lay3 s.heap l1 l2 l3).get? c = some o → (lay6 s.heap l1 l2 l3).get? c = some o := fun e => u4 (Heap.get?_push_of_some _ e)
  have u2 : ∀ {c o}, (lay2 s.heap l1 l2).get? c = some o → (lay6 s.heap l1 l2 l3).get? c = some o := fun e => u3 (Heap.get?_push_of_some _ e)
  have u1 : ∀ {c o}, (lay1 s.heap l1).get? c = some o → (lay6 s.heap l1 l2 l3).get? c = some o := fun e => u2 (Heap.get?_push_of_some _ e)
  have f6 : (lay6 s.heap l1 l2 l3).get? (lay5 s.heap l1 l2 l3).objs.size = some _ := Heap.get?_push_size _ rfl
  have f5 : (lay6 s.heap l1 l2 l3).get? (lay4 s.heap l1 l2 l3).objs.size = some _ := u5 (Heap.get?_push_size _ rfl)
  have f4 : (lay6 s.heap l1 l2 l3).get? (lay3 s.heap l1 l2 l3).objs.size = some _ := u4 (Heap.get?_push_size _ rfl)
  have f3 : (lay6 s.heap l1 l2 l3).get? (lay2 s.heap l1 l2).objs.size = some _ := u3 (Heap.get?_push_size _ rfl)
  have f2 : (lay6 s.heap l1 l2 l3).get? (lay1 s.heap l1).objs.size = some _ := u2 (Heap.get?_push_size _ rfl)
  have f1 : (lay6 s.heap l1 l2 l3).get? s.heap.objs.size = some _ := u1 (Heap.get?_push_size _ rfl)
  show _ ∧ _
  rw [y3, y4, y5] at f6
  rw [y1, y2, y3] at f4
  rw [y4] at f5
  rw [y2] at f3
  rw [y1] at f2
  rw [y5]
  exact ⟨⟨_, f6, rfl⟩, h _ ⟨f6, f4, ⟨_, _, _, f5⟩, ⟨_, f1, rfl, rfl⟩, ⟨_, f2, rfl, rfl⟩, ⟨_, f3, rfl, rfl⟩⟩ y6 fun c o e => u1 (Heap.get?_push_of_some _ e)⟩
end
/-! as something walked through -/
def It3 (K : PySem.W.Frag) (a b c : Addr) : It :=
  ⟨fun i H => ∃ (xs ys ws : List V) (x y v : V), SqT K H a xs ∧ SqT K H b ys ∧ SqT K H c ws ∧ xs[i]? = some x ∧ ys[i]? = some y ∧ ws[i]? = some v,
    fun i H u H' => ∃ T x y v, u = .ref T ∧ H T = none ∧ H' = upd H T (.tup [x, y, v]) ∧ (∀ xs, SqT K H a xs → xs[i]? = some x) ∧ (∀ ys, SqT K H b ys → ys[i]? = some y) ∧ ∀ ws, SqT K H c ws → ws[i]? = some v,
    fun i H => ∃ xs ys ws : List V, SqT K H a xs ∧ SqT K H b ys ∧ SqT K H c ws ∧ (xs.length ≤ i ∨ ys.length ≤ i ∨ ws.length ≤ i)⟩
abbrev foot (n : Nat) : List Addr := [n + 5, n + 3, n + 4, n, n + 1, n + 2]
theorem foot_mem {n : Nat} {b : Addr} : b ∈ foot n ↔ (b = n + 5 ∨ b = n + 3 ∨ b = n + 4 ∨ b = n ∨ b = n + 1 ∨ b = n + 2) := by simp [foot]
theorem turn_zip3 {P : Program} {w : World} {K : PySem.W.Frag} {elts : List Expr} {kk : Nat} {tpos : Pos} {n a b c : Nat} (ha : a < n) (hb : b < n) (hc : c < n) :
    Turn P w K (.Tuple elts kk tpos) (It3 K a b c) (foot n) (n + 5) (fun i h => Z3 h n a b c i) where
  mem := by simp
  obj := fun i h st d hd => by
    obtain ⟨hz, hti, ⟨x, y, v, hto⟩, ⟨o1, e1, _, d1⟩, ⟨o2, e2, _, d2⟩, ⟨o3, e3, _, d3⟩⟩ := st
    rcases foot_mem.mp hd with q | q | q | q | q | q
    · rw [q]; exact ⟨_, hz, fun v q => nomatch q⟩
    · rw [q]; exact ⟨_, hti, fun v q => nomatch q⟩
    · rw [q]; exact ⟨_, hto, fun v q => nomatch q⟩
    · rw [q]; exact ⟨o1, e1, fun v q => by rw [d1] at q; cases q⟩
    · rw [q]; exact ⟨o2, e2, fun v q => by rw [d2] at q; cases q⟩
    · rw [q]; exact ⟨o3, e3, fun v q => by rw [d3] at q; cases q⟩
  keep := fun i h h' st k => by
    obtain ⟨hz, hti, ⟨x, y, v, hto⟩, t1, t2, t3⟩ := st
    exact ⟨k _ (by simp) _ hz, k _ (by simp) _ hti, ⟨x, y, v, k _ (by simp) _ hto⟩, t1.at fun o q => k _ (by simp) o q, t2.at fun o q => k _ (by simp) o q, t3.at fun o q => k _ (by simp) o q⟩
  item := by
    intro X hP hw hK hca i pins s σ H E I hf st hg
    subst hP hw hK
    obtain ⟨xs, ys, ws, x, y, v, sx, sy, sv, hx, hy, hv⟩ := hg
    obtain ⟨its, rv, p, _⟩ := I.tuple sx
    obtain ⟨its2, rv2, p2, _⟩ := I.tuple sy
    obtain ⟨its3, rv3, p3, _⟩ := I.tuple sv
    obtain ⟨u, hu, ru⟩ := rv.get hx
    obtain ⟨u2, hu2, ru2⟩ := rv2.get hy
    obtain ⟨u3, hu3, ru3⟩ := rv3.get hv
    have zl : n + 5 < s.heap.objs.size := Heap.lt_size st.z
    have hti := st.ti
    refine next3_item st ha hb hc p p2 p3 (x := u) (y := u2) (v := u3) (by simpa using hu) (by simpa using hu2) (by simpa using hu3) fun h' z' o' t1 t2 t3 hT sz keep => ⟨_, rfl, ?_⟩
    refine wpAny_letOwnedTupleGo_zip (s := { s with heap := h' }) z' fun h'' z'' sb => ?_
    have hT2 : h''.get? s.heap.objs.size = some { cls := .type "tuple", data := .seq #[u, u2, u3] } := (sb.2 _ (Nat.ne_of_gt zl)).trans hT
    have new : ObjOk X.prog X.w (upd H s.heap.objs.size (.tup [x, y, v])) h'' s.heap.objs.size (.tup [x, y, v]) := ⟨by show 3 ≤ sizeLine; decide, [u, u2, u3], .cons ru (.cons ru2 (.cons ru3 .nil)), ⟨_, hT2, rfl, _, rfl⟩⟩
    have I1 : Inv X pins σ (upd H s.heap.objs.size (.tup [x, y, v])) { s with heap := h'' } := I.turnedNew (t' := s.toks) (ch := foot n) (fun d o hd q => by
      have nd : ∀ m, m ∈ foot n → d ≠ m := fun m hm e => hd (e ▸ hm)
      exact (sb.2 d (nd _ (by simp))).trans (keep d o (nd _ (by simp)) (nd _ (by simp)) (nd _ (by simp)) (nd _ (by simp)) (nd _ (by simp)) q)) hf (Nat.le_refl _) new
    refine ⟨.ref s.heap.objs.size, _, I1, rfl, ⟨_, x, y, v, rfl, I.hok.fresh (Nat.le_refl _), rfl, fun l hl => by rw [I.tuple_inj hl sx]; exact hx, fun l hl => by rw [I.tuple_inj hl sy]; exact hy, fun l hl => by rw [I.tuple_inj hl sv]; exact hv⟩, ⟨z'', ?_, ⟨u, u2, u3, ?_⟩, ?_, ?_, ?_⟩, fun d hd => ?_⟩
    · exact (sb.2 _ (by show @Ne Nat _ _; omega)).trans (keep _ _ (by show @Ne Nat _ _; omega) (by show @Ne Nat _ _; omega) (by show @Ne Nat _ _; omega) (by show @Ne Nat _ _; omega) (by show @Ne Nat _ _; omega) hti)
    · exact (sb.2 _ (by show @Ne Nat _ _; omega)).trans o'
    · exact t1.at fun o q => (sb.2 _ (by show @Ne Nat _ _; omega)).trans q
    · exact t2.at fun o q => (sb.2 _ (by show @Ne Nat _ _; omega)).trans q
    · exact t3.at fun o q => (sb.2 _ (by show @Ne Nat _ _; omega)).trans q
    · have lt : d < s.heap.objs.size := by
        have zl' : n + 5 < s.heap.objs.size := zl
        rcases foot_mem.mp hd with q | q | q | q | q | q <;> (rw [q]; show @LT.lt Nat _ _ _; omega)
      rw [upd_ne (Nat.ne_of_lt lt)]
      exact (hf d hd).1
  done := by
    intro X hP hw hK hca i pins s σ H E I hf st hg
    subst hP hw hK
    obtain ⟨xs, ys, ws, sx, sy, sv, fin⟩ := hg
    obtain ⟨its, rv, p, _⟩ := I.tuple sx
    obtain ⟨its2, rv2, p2, _⟩ := I.tuple sy
    obtain ⟨its3, rv3, p3, _⟩ := I.tuple sv
    have e1 := rv.length
    have e2 := rv2.length
    have e3 := rv3.length
    have he : its.toArray[i]? = none ∨ its2.toArray[i]? = none ∨ its3.toArray[i]? = none := by
      rcases fin with q | q | q
      · exact .inl (by simp; omega)
      · exact .inr (.inl (by simp; omega))
      · exact .inr (.inr (by simp; omega))
    refine next3_end (I.ok.hd hca) st ha hb hc p p2 p3 he fun h' keep => ⟨rfl, I.turnedL (t' := s.toks) (ch := foot n) (fun d o hd q => ?_) hf⟩
    have nd : ∀ m, m ∈ foot n → d ≠ m := fun m hm e => hd (e ▸ hm)
    exact keep d o (nd _ (by simp)) (nd _ (by simp)) (nd _ (by simp)) (nd _ (by simp)) (nd _ (by simp)) q
  self := fun A i s Q E st h => wpAny_pyIter_zip st.z h
def iZip3 (K : PySem.W.Frag) (ta : TA) : TI := fun σ H R => ta σ H fun vs H1 => ∃ a b c xs ys ws, vs = [.ref a, .ref b, .ref c] ∧ SqT K H1 a xs ∧ SqT K H1 b ys ∧ SqT K H1 c ws ∧ R (It3 K a b c) H1
theorem pi_zip3 {X : Cx} {e e2 e3 : Expr} {ta : TA} {p pos tpos : Pos} {elts : List Expr} {kk : Nat} (hg : Gl X "zip") (hm : X.mg "zip" = none) (ha : PA X [e, e2, e3] ta)
    (hs : starEach [e, e2, e3] X.env = (false, eval e X.env) :: starEach [e2, e3] X.env := by rfl) (hpl : (backTo pos (starEach [e2, e3] X.env)).any (·.1) = false := by rfl) :
    PI X (.Tuple elts kk tpos) (.Call (.Name "zip" p) [e, e2, e3] [] pos) (iZip3 X.K ta) := by
  refine ⟨fun pins s σ H R I h => ?_⟩
  refine Call_ (ld_blt I hg hm PyProof.Rows.boot_zip (PyProof.Rows.callWith_type1 (thn (ha.run pos pins s σ H _ I h) fun us s1 ⟨vs, H1, I1, r1, q1⟩ => ?_) hs hpl))
  obtain ⟨a, b, c, xs, ys, ws, rfl, sx, sy, sv, q⟩ := q1
  cases r1 with
  | cons r rr =>
    cases rr with
    | cons r' rr =>
      cases rr with
      | cons r'' rr =>
        cases rr
        cases r
        cases r'
        cases r''
        obtain ⟨its, rv, p1, _⟩ := I1.tuple sx
        obtain ⟨its2, rv2, p2, _⟩ := I1.tuple sy
        obtain ⟨its3, rv3, p3, _⟩ := I1.tuple sv
        obtain ⟨o1, ho1, _⟩ := id p1
        obtain ⟨o2, ho2, _⟩ := id p2
        obtain ⟨o3, ho3, _⟩ := id p3
        have fresh : ∀ d, d ∈ foot s1.heap.objs.size → FpOk X pins H1 d := fun d hd => by
          have le : s1.heap.objs.size ≤ d := by
            rcases foot_mem.mp hd with z | z | z | z | z | z <;> (rw [z]; show @LE.le Nat _ _ _; omega)
          exact I1.fpOk le (I1.hok.fresh le)
        refine call_zip3 p1 p2 p3 fun h' st sz keep => wpAny_pyIter_zip st.z ?_
        have I2 : Inv X pins σ H1 { s1 with heap := h' } := I1.kept (t' := s1.toks) keep
        exact ⟨_, foot s1.heap.objs.size, _, _, H1, rfl, I2, turn_zip3 (Heap.lt_size ho1) (Heap.lt_size ho2) (Heap.lt_size ho3), st, fresh, q⟩
variable [kk : KK]
def zipD3 : List PD → List PD → List PD → List PD
  | x :: xs, y :: ys, z :: zs => .tuple [x, y, z] :: zipD3 xs ys zs
  | _, _, _ => []
def zip3P : List PD → Option (List PD)
  | [.tuple xs, .tuple ys, .tuple zs] => some (zipD3 xs ys zs)
  | _ => none
omit kk in
theorem zipD3_len : ∀ (xs ys zs : List PD), (zipD3 xs ys zs).length = min xs.length (min ys.length zs.length)
  | [], _, _ => by simp [zipD3]
  | _ :: _, [], _ => by simp [zipD3]
  | _ :: _, _ :: _, [] => by simp [zipD3]
  | x :: xs, y :: ys, z :: zs => by
    rw [zipD3, List.length_cons, zipD3_len xs ys zs, List.length_cons, List.length_cons, List.length_cons]
    omega
omit kk in
theorem zipD3_get : ∀ {xs ys zs : List PD} {i : Nat} {d : PD}, (zipD3 xs ys zs)[i]? = some d → ∃ x y z, xs[i]? = some x ∧ ys[i]? = some y ∧ zs[i]? = some z ∧ d = .tuple [x, y, z]
  | [], _, _, _, _, h => by simp [zipD3] at h
  | _ :: _, [], _, _, _, h => by simp [zipD3] at h
  | _ :: _, _ :: _, [], _, _, h => by simp [zipD3] at h
  | x :: xs, y :: ys, z :: zs, 0, d, h => by
    rw [zipD3] at h
    exact ⟨x, y, z, rfl, rfl, rfl, by simpa using h.symm⟩
  | x :: xs, y :: ys, z :: zs, i + 1, d, h => by
    rw [zipD3] at h
    exact zipD3_get (i := i) (by simpa using h)
theorem loose3 {S' : Hs} {H2 : Hp} {T : Addr} {u v t : V} {x y z : PD} (al : Al S' H2) (hT : H2 T = none) (ru : Rp (hid S' H2) u x) (rv : Rp (hid S' H2) v y) (rt : Rp (hid S' H2) t z) : Ex H2 (upd H2 T (.tup [u, v, t])) ∧ Rk true (hid S' (upd H2 T (.tup [u, v, t]))) (.ref T) (.tuple [x, y, z]) :=
  ⟨Ex.new hT, .inr ⟨rfl, T, _, _, rfl, new_ok al hT, .cons (ru.ex (hid_ex (Ex.new hT))) (.cons (rv.ex (hid_ex (Ex.new hT))) (.cons (rt.ex (hid_ex (Ex.new hT))) .nil)), rfl⟩⟩
section
variable {S : Hs} {H : Hp}
theorem wk_zip3 {a b c : Addr} {o o' o'' : Obj} {vs us ts : List V} {xs ys zs : List PD} (ha : hid S H a = some (fz o vs)) (ra : RpAll (hid S H) vs xs) (hb : hid S H b = some (fz o' us)) (rb : RpAll (hid S H) us ys) (hc : hid S H c = some (fz o'' ts)) (rc : RpAll (hid S H) ts zs) : Wk true S (It3 K a b c) (zipD3 xs ys zs) H := fun S' H2 e2 al2 => by
  have s1 : SqT K H2 a vs := .inl (.inr ⟨_, hid_le _ _ (e2 _ _ ha)⟩)
  have s2 : SqT K H2 b us := .inl (.inr ⟨_, hid_le _ _ (e2 _ _ hb)⟩)
  have s3 : SqT K H2 c ts := .inl (.inr ⟨_, hid_le _ _ (e2 _ _ hc)⟩)
  have ra2 := ra.ex e2
  have rb2 := rb.ex e2
  have rc2 := rc.ex e2
  refine ⟨⟨_, _, _, s1, s2, s3, by rw [ra2.length, rb2.length, rc2.length, zipD3_len]; omega⟩, fun i x hx => ?_⟩
  obtain ⟨d1, d2, d3, h1, h2, h3, rfl⟩ := zipD3_get hx
  obtain ⟨v, hv, rv⟩ := ra2.get h1
  obtain ⟨u, hu, ru⟩ := rb2.get h2
  obtain ⟨t, ht, rt⟩ := rc2.get h3
  refine ⟨⟨_, _, _, v, u, t, s1, s2, s3, hv, hu, ht⟩, fun w H3 yl => ?_⟩
  obtain ⟨T, z1, z2, z3, rfl, eT, rfl, f1, f2, f3⟩ := yl
  have q1 := f1 _ s1
  rw [hv] at q1
  cases q1
  have q2 := f2 _ s2
  rw [hu] at q2
  cases q2
  have q3 := f3 _ s3
  rw [ht] at q3
  cases q3
  exact loose3 al2 eT rv ru rt
end
theorem core_zip3 {S : Hs} {vs : List V} {H1 : Hp} {ds xs : List PD} {R : It → Hp → Prop} (h : zip3P ds = some xs) (rv : RpAll (hid S H1) vs ds) (q : ∀ J, Wk true S J xs H1 → R J H1) : ∃ a b c us ws ts, vs = [.ref a, .ref b, .ref c] ∧ SqT K H1 a us ∧ SqT K H1 b ws ∧ SqT K H1 c ts ∧ R (It3 K a b c) H1 := by
  unfold zip3P at h
  split at h
  · cases h
    cases rv with
    | cons h1 t =>
      cases t with
      | cons h2 t =>
        cases t with
        | cons h3 t =>
          cases t
          cases h1 with
          | tup ha _ ra =>
            cases h2 with
            | tup hb _ rb =>
              cases h3 with
              | tup hc _ rc => exact ⟨_, _, _, _, _, _, rfl, .inl (.inr ⟨_, hid_le _ _ ha⟩), .inl (.inr ⟨_, hid_le _ _ hb⟩), .inl (.inr ⟨_, hid_le _ _ hc⟩), q _ (wk_zip3 ha ra hb rb hc rc)⟩
  · cases h
section
variable {ts : TA}
theorem si_zip3 {as : XA} (hs : SA ts as) : SI true (iZip3 K ts) (xiA zip3P as) := fun ρ xs h S σ H al en R q => by
  obtain ⟨ds, h1, h⟩ := bind_some h
  exact hs ρ ds h1 S σ H al en _ fun vs H1 e1 rv => core_zip3 h rv fun J w => q J H1 e1 w
theorem swi_zip3 {as : XWA} (hs : SWA ts as) : SWI true (iZip3 K ts) (wiA zip3P as) := fun pn F T H σ ρ xs ρ' st h R q => by
  obtain ⟨⟨ds, ρ1⟩, h1, h⟩ := bind_some h
  obtain ⟨ys, h2, h⟩ := bind_some h
  cases h
  exact hs pn F T H σ ρ ds _ st h1 _ fun vs T1 H1 st1 s1 rv => core_zip3 h2 rv fun J w => q J T1 H1 st1 s1 w
end
end Uv

namespace Uv
open PySem PySem.Spec PyProof.Rows L2
open Evl (Ex)
/-! ### sorted(set(t)), len(set(t)) of a tuple of whole numbers -/
/-- how many unlike ones there are -/
def Cnt (ns : List Int) (c : Nat) : Prop := ∀ l : List Int, l.Nodup → (∀ k, k ∈ l ↔ k ∈ ns) → l.length = c
def rSetT (w : World) (K : PySem.W.Frag) : List V → Hp → VK → Prop := fun xs H Q => ∃ (p : Addr) (ns : List Int), xs = [.ref p] ∧ SqT K H p (ns.map V.int) ∧ ns.length < 64 ∧
  ∀ (a : Addr) (c : Nat), H a = none → c ≤ ns.length → Cnt ns c → Q (.ref a) (upd H a (SetO w a (fun j => decide (j ∈ ns)) c))
theorem cr_setT {X : Cx} (hc : X.calm = true) : CallR X (.type "set") (rSetT X.w X.K) := by
  intro pins s σ H xs us Q I r h
  obtain ⟨p, ns, rfl, hq, hl, q⟩ := h
  obtain ⟨its, rv, pt, hz⟩ := I.tuple hq
  rw [Vals.ref1 r]
  refine call_set_tupI ns (I.ok.hd hc) (show s.heap.IsTuple p its.toArray from pt) (ints_of_vals rv) (by unfold scanBound; omega) fun h' tk c R1 hcn k => ?_
  have cnt : Cnt ns c := fun l nd hm => by
    obtain ⟨o, es, ep, t, _, _, _, _, nd', hm2, _, _, hn, _⟩ := R1
    have pm : l.Perm (es.toList.map keyOf) := (List.perm_ext_iff_of_nodup nd nd').mpr fun j => by rw [hm, ← hm2 j, decide_eq_true_eq]
    rw [pm.length_eq, List.length_map, Array.length_toList, hn]
  exact ⟨.ref _, upd H s.heap.objs.size (SetO X.w s.heap.objs.size _ c), I.laid (t' := tk) k (Nat.le_refl _) (setO_new R1), rfl, q _ c (I.hok.fresh (Nat.le_refl _)) hcn cnt⟩
def rLenSet (w : World) : List V → Hp → VK → Prop := fun xs H Q => ∃ (a : Addr) (S : Int → Bool) (n : Nat), xs = [.ref a] ∧ H a = some (SetO w a S n) ∧ Q (.int (n : Nat)) H
theorem cr_lenSet {X : Cx} : CallR X (.builtin "len") (rLenSet X.w) := by
  intro pins s σ H xs us Q I r h
  obtain ⟨a, S, n, rfl, ha, q⟩ := h
  obtain ⟨o, es, ep, t, ho, hex, hd, _, _, _, hb, hf, hn, _⟩ := setO_get I ha
  rw [Vals.ref1 r]
  exact call_len_set ho hex hd hf (by unfold scanBound at hb; omega) ⟨.int n, H, I.tok _, ⟨_, by rw [hn]⟩, q⟩
def tSortSet (K : PySem.W.Frag) (ta : TE) : TE := fun σ H Q => ta σ H fun x H1 => ∃ (p : Addr) (ns : List Int), x = .ref p ∧ SqT K H1 p (ns.map V.int) ∧ ns.length < 64 ∧
  ∀ (ms : List Int) (a b : Addr) (o : HO), ms.Pairwise (· < ·) → (∀ k, k ∈ ms ↔ k ∈ ns) → H1 a = none → upd H1 a o b = none → Q (.ref b) (upd (upd H1 a o) b (.lst (ms.map V.int)))
def tLenSetT (K : PySem.W.Frag) (ta : TE) : TE := fun σ H Q => ta σ H fun x H1 => ∃ (p : Addr) (ns : List Int), x = .ref p ∧ SqT K H1 p (ns.map V.int) ∧ ns.length < 64 ∧
  ∀ (a : Addr) (o : HO) (c : Nat), H1 a = none → Cnt ns c → Q (.int (c : Nat)) (upd H1 a o)
theorem PE.mono {X : Cx} {e : Expr} {t u : TE} (h : PE X e t) (m : ∀ σ H Q, u σ H Q → t σ H Q) : PE X e u := ⟨fun pins s σ H Q I q => h.run pins s σ H Q I (m σ H Q q)⟩
/-- a reading that asks for no more than it needs -/
def clo (ta : TE) : TE := fun σ H R => ∃ Q : VK, ta σ H Q ∧ ∀ v H1, Q v H1 → R v H1
theorem PE.clo {X : Cx} {e : Expr} {t : TE} (h : PE X e t) : PE X e (clo t) := ⟨fun pins s σ H R I ⟨Q, q, imp⟩ => thn (h.run pins s σ H Q I q) fun v s1 ⟨x, H1, I1, r1, q1⟩ => ⟨x, H1, I1, r1, imp _ _ q1⟩⟩
section
variable {X : Cx} {ta : TE} {a : Expr} {p p2 q pos : Pos}
theorem pe_sortSet (hc : X.calm = true) (hg : Gl X "sorted") (hm : X.mg "sorted" = none) (hg2 : Gl X "set") (hm2 : X.mg "set" = none) (ha : PE X a ta) (n1 : starEach [a] X.env = (false, eval a X.env) :: starEach [] X.env := by rfl) : PE X (.Call (.Name "sorted" p) [.Call (.Name "set" p2) [a] [] q] [] pos) (tSortSet X.K ta) :=
  PE.mono (pe_callB (cr_sortedSet hc) hg hm (by decide +kernel) (pa_cons (pe_callTy (cr_setT hc) hg2 hm2 (by decide +kernel) (pa_cons (PE.clo ha) pa_nil (hs := n1)) (he := n1)) pa_nil)) fun σ H Q h => by
    refine ⟨_, h, fun v H1 hv => ?_⟩
    obtain ⟨p, ns, rfl, hq, hl, q⟩ := hv
    exact ⟨p, ns, rfl, hq, hl, fun a c ha hcn cnt => ⟨a, _, c, rfl, upd_same, by omega, fun ms b so hm hlen hb => q ms a b _ so (fun k => by rw [hm k, decide_eq_true_eq]) ha hb⟩⟩
theorem pe_lenSetT (hc : X.calm = true) (hg : Gl X "len") (hm : X.mg "len" = none) (hg2 : Gl X "set") (hm2 : X.mg "set" = none) (ha : PE X a ta) (n1 : starEach [a] X.env = (false, eval a X.env) :: starEach [] X.env := by rfl) : PE X (.Call (.Name "len" p) [.Call (.Name "set" p2) [a] [] q] [] pos) (tLenSetT X.K ta) :=
  PE.mono (pe_callB cr_lenSet hg hm (by decide +kernel) (pa_cons (pe_callTy (cr_setT hc) hg2 hm2 (by decide +kernel) (pa_cons (PE.clo ha) pa_nil (hs := n1)) (he := n1)) pa_nil)) fun σ H Q h => by
    refine ⟨_, h, fun v H1 hv => ?_⟩
    obtain ⟨p, ns, rfl, hq, hl, q⟩ := hv
    exact ⟨p, ns, rfl, hq, hl, fun a c ha hcn cnt => ⟨a, _, c, rfl, upd_same, q a _ c ha cnt⟩⟩
end
variable [kk : KK]
def insS (x : Int) : List Int → List Int
  | [] => [x]
  | y :: l => if x < y then x :: y :: l else if x = y then y :: l else y :: insS x l
def setS : List Int → List Int
  | [] => []
  | x :: l => insS x (setS l)
omit kk in
theorem mem_insS {x k : Int} : ∀ {l : List Int}, k ∈ insS x l ↔ k = x ∨ k ∈ l
  | [] => by simp [insS]
  | y :: l => by
    unfold insS
    by_cases c : x < y
    · rw [if_pos c, List.mem_cons]
    · rw [if_neg c]
      by_cases d : x = y
      · rw [if_pos d, d, List.mem_cons]
        exact ⟨fun z => .inr z, fun z => z.elim (fun e => .inl e) id⟩
      · rw [if_neg d, List.mem_cons, mem_insS, List.mem_cons]
        exact ⟨fun z => z.elim (fun e => .inr (.inl e)) fun e => e.elim .inl fun e => .inr (.inr e), fun z => z.elim (fun e => .inr (.inl e)) fun e => e.elim .inl fun e => .inr (.inr e)⟩
omit kk in
theorem insS_up {x : Int} : ∀ {l : List Int}, l.Pairwise (· < ·) → (insS x l).Pairwise (· < ·)
  | [], _ => by simp [insS]
  | y :: l, h => by
    obtain ⟨h1, h2⟩ := List.pairwise_cons.mp h
    unfold insS
    by_cases c : x < y
    · rw [if_pos c]
      refine List.pairwise_cons.mpr ⟨fun z hz => ?_, h⟩
      rcases List.mem_cons.mp hz with e | e
      · omega
      · have := h1 z e; omega
    · rw [if_neg c]
      by_cases d : x = y
      · rw [if_pos d]; exact h
      · rw [if_neg d]
        refine List.pairwise_cons.mpr ⟨fun z hz => ?_, insS_up h2⟩
        rcases mem_insS.mp hz with e | e
        · omega
        · exact h1 z e
omit kk in
theorem mem_setS {k : Int} : ∀ {l : List Int}, k ∈ setS l ↔ k ∈ l
  | [] => by simp [setS]
  | x :: l => by rw [setS, mem_insS, mem_setS, List.mem_cons]
omit kk in
theorem setS_up : ∀ {l : List Int}, (setS l).Pairwise (· < ·)
  | [] => by simp [setS]
  | x :: l => by rw [setS]; exact insS_up setS_up
omit kk in
theorem up_eq {l m : List Int} (hl : l.Pairwise (· < ·)) (hm : m.Pairwise (· < ·)) (h : ∀ k, k ∈ l ↔ k ∈ m) : l = m := by
  refine List.Perm.eq_of_pairwise (le := fun a b => a < b) (fun a b _ _ h1 h2 => by omega) hl hm ?_
  exact (List.perm_ext_iff_of_nodup (hl.imp fun h => by omega) (hm.imp fun h => by omega)).mpr h
def sortSetP : PD → Option PD
  | .tuple ds => (unI ds).bind fun ns => if ns.length < 64 then some (.list ((setS ns).map PyData.int)) else none
  | _ => none
def lenSetP : PD → Option PD
  | .tuple ds => (unI ds).bind fun ns => if ns.length < 64 then some (.int ((setS ns).length : Nat)) else none
  | _ => none
theorem se_sortSet {ta : TE} {a : XE} (ha : SE ta a) : SE (tSortSet K ta) (xUn sortSetP a) := fun ρ d h S σ H al en Q q => by
  obtain ⟨x, h1, h⟩ := bind_some h
  refine ha ρ _ h1 S σ H al en _ fun v H1 e1 rv => ?_
  cases rv with
  | tup hx _ ra =>
    obtain ⟨ns, h2, h3⟩ := bind_some h
    have e := unI_eq h2
    subst e
    have e := ra.ints
    subst e
    by_cases c : ns.length < 64
    · rw [if_pos c] at h3
      cases h3
      refine ⟨_, ns, rfl, .inl (.inr ⟨_, hid_le _ _ hx⟩), c, fun ms a b o so hm fa fb => ?_⟩
      have e := up_eq so setS_up fun k => by rw [hm k, mem_setS]
      subst e
      have al1 := (al.ex e1).ex (Ex.new (o := o) fa)
      exact q _ _ ((e1.trans (Ex.new fa)).trans (Ex.new fb)) (.lst (new_ok al1 fb) (RpAll.ofInts _))
    · rw [if_neg c] at h3; cases h3
  | _ => cases h
theorem se_lenSet {ta : TE} {a : XE} (ha : SE ta a) : SE (tLenSetT K ta) (xUn lenSetP a) := fun ρ d h S σ H al en Q q => by
  obtain ⟨x, h1, h⟩ := bind_some h
  refine ha ρ _ h1 S σ H al en _ fun v H1 e1 rv => ?_
  cases rv with
  | tup hx _ ra =>
    obtain ⟨ns, h2, h3⟩ := bind_some h
    have e := unI_eq h2
    subst e
    have e := ra.ints
    subst e
    by_cases c : ns.length < 64
    · rw [if_pos c] at h3
      cases h3
      refine ⟨_, ns, rfl, .inl (.inr ⟨_, hid_le _ _ hx⟩), c, fun a o c fa cnt => ?_⟩
      have e := cnt (setS ns) (setS_up.imp fun h => by omega) fun k => mem_setS
      rw [← e]
      exact q _ _ (e1.trans (Ex.new fa)) (.int _)
    · rw [if_neg c] at h3; cases h3
  | _ => cases h
end Uv

namespace Uv
open PySem PySem.Spec PyProof.Rows L2
open Evl (Ex)
theorem u1 {k : Nat} {A : Around} (r : Room k A) : A.units + 1 < cLine := by have := r.un; omega
variable [kk : KK]
/-! ### a dict of its own: whole numbers for keys, data -/
def hasD (l : List (Int × PD)) (n : Int) : Bool := l.any fun kv => decide (kv.1 = n)
def getD (l : List (Int × PD)) (n : Int) : Option PD := (l.find? fun kv => decide (kv.1 = n)).map (·.2)
def putD (l : List (Int × PD)) (n : Int) (d : PD) : List (Int × PD) := if hasD l n = true then l.map (fun kv => if kv.1 = n then (kv.1, d) else kv) else l ++ [(n, d)]
def dicAt (ρ : Env) (i : Nat) : Option (List (Int × PD)) := match ρ[i]? with
  | some (.dic l) => some l
  | _ => none
omit kk in
theorem dicAt_eq {ρ : Env} {i : Nat} {l : List (Int × PD)} (h : dicAt ρ i = some l) : ρ[i]? = some (.dic l) := by
  unfold dicAt at h
  split at h
  · rename_i e; cases h; exact e
  · cases h
theorem Kvs.has {G : Hp} : ∀ {ks : List (Key × V)} {l : List (Int × PD)} (n : Int), Kvs G ks l → (ks.any fun kv => decide (kv.1 = .inl n)) = hasD l n
  | _, _, _, .nil => rfl
  | _, _, n, .cons (k := k) r c => by
    rw [List.any_cons, c.has n]
    show (decide ((Sum.inl k : Key) = .inl n) || _) = (decide (k = n) || _)
    congr 1
    exact Bool.eq_iff_iff.mpr (by simp)
theorem Kvs.repl {G : Hp} {v : V} {d : PD} (rv : Rp G v d) (n : Int) : ∀ {ks : List (Key × V)} {l : List (Int × PD)}, Kvs G ks l → Kvs G (ks.map fun kv => if kv.1 = .inl n then (kv.1, v) else kv) (l.map fun kv => if kv.1 = n then (kv.1, d) else kv)
  | _, _, .nil => .nil
  | _, _, .cons (k := k) r c => by
    rw [List.map_cons, List.map_cons]
    by_cases e : k = n
    · subst e
      rw [if_pos rfl, if_pos rfl]
      exact .cons rv (c.repl rv k)
    · rw [if_neg (fun z => e (Sum.inl.inj z)), if_neg e]
      exact .cons r (c.repl rv n)
theorem Kvs.snoc {G : Hp} {v : V} {d : PD} (rv : Rp G v d) (n : Int) : ∀ {ks : List (Key × V)} {l : List (Int × PD)}, Kvs G ks l → Kvs G (ks ++ [(.inl n, v)]) (l ++ [(n, d)])
  | _, _, .nil => .cons rv .nil
  | _, _, .cons r c => .cons r (c.snoc rv n)
theorem Kvs.put {G : Hp} {v : V} {d : PD} {ks : List (Key × V)} {l : List (Int × PD)} (c : Kvs G ks l) (rv : Rp G v d) (n : Int) : Kvs G (putK ks (.inl n) v) (putD l n d) := by
  unfold putK putD
  rw [c.has n]
  by_cases h : hasD l n = true
  · rw [if_pos h, if_pos h]; exact c.repl rv n
  · rw [if_neg h, if_neg h]; exact c.snoc rv n
theorem Kvs.get {G : Hp} : ∀ {ks : List (Key × V)} {l : List (Int × PD)} {n : Int} {d : PD}, Kvs G ks l → getD l n = some d → ∃ v, valV ks (.inl n) = some v ∧ Rp G v d
  | _, _, _, _, .nil, h => nomatch h
  | _, _, n, d, .cons (k := k) (v := v) (d := d') (l := l) r c, h => by
    by_cases e : k = n
    · subst e
      have h : getD ((k, d') :: _) k = some d := h
      unfold getD at h
      rw [List.find?_cons] at h
      simp at h
      subst h
      exact ⟨v, valV_pos rfl, r⟩
    · have h2 : getD l n = some d := by
        unfold getD at h ⊢
        rw [List.find?_cons] at h
        simpa [e] using h
      obtain ⟨u, h3, h4⟩ := c.get h2
      exact ⟨u, by rw [valV_neg (fun z => e (Sum.inl.inj z))]; exact h3, h4⟩
theorem Kvs.len {G : Hp} : ∀ {ks : List (Key × V)} {l : List (Int × PD)}, Kvs G ks l → ks.length = l.length
  | _, _, .nil => rfl
  | _, _, .cons _ c => by rw [List.length_cons, List.length_cons, c.len]
section
variable {pn : Option V} {F : Hs} {T : Trs} {H : Hp} {σ : L2.St} {ρ : Env}
theorem StOk.at_dic (st : StOk pn F T H σ ρ) {i : Nat} {l : List (Int × PD)} (hi : ρ[i]? = some (.dic l)) : ∃ a ks, σ[i]? = some (some (.ref a)) ∧ H a = some (.dK ks) ∧ Kvs (hid (SF F T) H) ks l ∧ T i = [a] := by
  obtain ⟨o, h1, v, rfl, a, ks, rfl, h2, h3, h4⟩ := st.sl i _ hi
  exact ⟨a, ks, h1, h2, h3, h4⟩
/-- a new object, owned by a slot -/
theorem StOk.ownS {A : List Addr} (st : StOk pn (FL F A) T H σ ρ) {i : Nat} (hi0 : i ≠ 0) (hi : i < ρ.length) {v : V} {s : Sl} (o : SlOk (hid (SF (FL F A) T) H) H (some v) s A) (nd : A.Nodup) (off : ∀ x ∈ A, ¬ F x) :
    StOk pn F (setT T i A) H (σ.set i (some v)) (ρ.set i s) ∧ Ex (hid (SF (FL F A) T) H) (hid (SF F (setT T i A)) H) := by
  have sub : Ex (hid (SF (FL F A) T) H) (hid (SF F (setT T i A)) H) := hid_sub fun x h => h.elim (fun h => .inl (.inl h)) fun ⟨j, hj⟩ => by
    by_cases c : j = i
    · subst c; rw [setT_same] at hj; exact .inl (.inr hj)
    · rw [setT_ne c] at hj; exact .inr ⟨j, hj⟩
  have mem : ∀ j x, x ∈ setT T i A j → (j = i ∧ x ∈ A) ∨ (j ≠ i ∧ x ∈ T j) := fun j x h => by
    by_cases c : j = i
    · subst c; rw [setT_same] at h; exact .inl ⟨rfl, h⟩
    · rw [setT_ne c] at h; exact .inr ⟨c, h⟩
  refine ⟨⟨by rw [List.length_set, List.length_set]; exact st.len, fun x h => st.al x (.inl h), fun j x h => ?_, fun j k x h h' => ?_, fun j => ?_, fun j hj => ?_, fun j q hq => ?_, fun v hv => ?_⟩, sub⟩
  · rcases mem j x h with ⟨_, h⟩ | ⟨_, h⟩
    · exact off x h
    · exact fun z => st.off j x h (.inl z)
  · rcases mem j x h with ⟨e, h⟩ | ⟨e, h⟩
    · rcases mem k x h' with ⟨e', h'⟩ | ⟨e', h'⟩
      · rw [e, e']
      · exact absurd (.inr h) (st.off k x h')
    · rcases mem k x h' with ⟨e', h'⟩ | ⟨e', h'⟩
      · exact absurd (.inr h') (st.off j x h)
      · exact st.dis j k x h h'
  · by_cases c : j = i
    · subst c; rw [setT_same]; exact nd
    · rw [setT_ne c]; exact st.nd j
  · rw [List.length_set] at hj
    rw [setT_ne (by omega)]
    exact st.out j hj
  · by_cases c : i = j
    · subst c
      rw [List.getElem?_set_self hi] at hq
      cases hq
      rw [setT_same]
      exact ⟨some v, List.getElem?_set_self (by rw [st.len]; exact hi), o.mv sub fun _ _ => rfl⟩
    · rw [List.getElem?_set_ne c] at hq
      obtain ⟨o', h1, h2⟩ := st.sl j q hq
      rw [List.getElem?_set_ne c, setT_ne (fun z => c z.symm)]
      exact ⟨o', h1, h2.mv sub fun _ _ => rfl⟩
  · rw [List.getElem?_set_ne hi0]
    exact st.pin v hv
theorem StOk.writeD (st : StOk pn F T H σ ρ) {i : Nat} {l l' : List (Int × PD)} {a : Addr} {ks' : List (Key × V)} (hi : ρ[i]? = some (.dic l)) (hT : T i = [a]) (hσ : σ[i]? = some (some (.ref a))) (hc : Kvs (hid (SF F T) H) ks' l') :
    StOk pn F T (upd H a (.dK ks')) σ (ρ.set i (.dic l')) ∧ Stp F T H T (upd H a (.dK ks')) := by
  have ha : a ∈ T i := by rw [hT]; exact List.mem_cons_self ..
  have hS : SF F T a := .inr ⟨i, ha⟩
  have vis : Ex (hid (SF F T) H) (hid (SF F T) (upd H a (.dK ks'))) := fun x o h => by
    obtain ⟨c, h⟩ := hid_some h
    rw [hid_out c, upd_ne (fun z => c (by rw [z]; exact hS))]
    exact h
  have ne : ∀ x, x ≠ a → upd H a (.dK ks') x = H x := fun x h => upd_ne h
  refine ⟨⟨by rw [List.length_set]; exact st.len, fun x h => ?_, st.off, st.dis, st.nd, fun j hj => st.out j (by rw [List.length_set] at hj; exact hj), fun j q hq => ?_, st.pin⟩, ⟨fun x h => ne x fun z => st.off i a ha (by rw [← z]; exact h), vis⟩⟩
  · rw [ne x fun z => st.off i a ha (by rw [← z]; exact h)]
    exact st.al x h
  · by_cases c : i = j
    · subst c
      have hl : i < ρ.length := by
        have := (List.getElem?_eq_some_iff.mp hq).1
        simpa using this
      rw [List.getElem?_set_self hl] at hq
      cases hq
      exact ⟨_, hσ, .ref a, rfl, a, ks', rfl, upd_same, hc.ex vis, hT⟩
    · rw [List.getElem?_set_ne c] at hq
      obtain ⟨o', h1, h2⟩ := st.sl j q hq
      exact ⟨o', h1, h2.mv vis fun x hx => ne x fun z => c (st.dis i j a ha (by rw [← z]; exact hx))⟩
end
/-- x = {} -/
def sDNew (i : Nat) : XS := fun ρ => if i < ρ.length then some (.nxt (ρ.set i (.dic []))) else none
/-- k in x -/
def wDin (i : Nat) (k : XE) : XW := fun ρ => ((k (mk ρ)).bind isI).bind fun n => (dicAt ρ i).bind fun l => some (.bool (hasD l n), ρ)
def wDnot (i : Nat) (k : XE) : XW := fun ρ => ((k (mk ρ)).bind isI).bind fun n => (dicAt ρ i).bind fun l => some (.bool (!hasD l n), ρ)
/-- x[k] -/
def wDget (i : Nat) (k : XE) : XW := fun ρ => ((k (mk ρ)).bind isI).bind fun n => (dicAt ρ i).bind fun l => (getD l n).bind fun d => some (d, ρ)
/-- x[k] = e -/
def sDput (i : Nat) (k : XE) (a : XW) : XS := fun ρ => (a ρ).bind fun x => ((k (mk x.2)).bind isI).bind fun n => (dicAt x.2 i).bind fun l => if l.length < 100000 then some (.nxt (x.2.set i (.dic (putD l n x.1)))) else none
section
variable {tk te : TE} {k : XE} {w : XW}
theorem ss_dnew {i : Nat} (hi : i ≠ 0) : SS (tAsg tDNewK (gName i)) (sDNew i) := fun pn F T H σ ρ o D st e q => by
  unfold sDNew at e
  by_cases c : i < ρ.length
  · rw [if_pos c] at e
    cases e
    intro p hp
    have e1 : Ex H (upd H p (.dK [])) := Ex.new hp
    obtain ⟨st1, vis1⟩ := st.fresh e1 hp (by rw [upd_same]; exact fun z => nomatch z)
    have off : ∀ x ∈ [p], ¬ F x := fun x hx z => by
      have : x = p := by simpa using hx
      rw [this] at z
      exact st.al p z hp
    obtain ⟨st2, vis2⟩ := st1.ownS (s := .dic []) hi c (v := .ref p) ⟨.ref p, rfl, p, [], rfl, upd_same, .nil, rfl⟩ (by simp) off
    refine q _ _ _ st2 ⟨fun x hx => upd_ne fun z => ?_, vis1.trans vis2⟩
    rw [z] at hx
    exact st.al p hx hp
  · rw [if_neg c] at e; cases e
theorem dk_get {H2 : Hp} {a : Addr} {ks : List (Key × V)} (n : Int) (h : H2 a = some (.dK ks)) : DGet H2 a (.int n) (valV ks (.inl n)) := DGet.k (k := .inl n) h
theorem sw_din {i : Nat} (h : SE tk k) : SW (tDIn tk (tVar i)) (wDin i k) := fun pn F T H σ ρ d ρ' st e Q q => by
  obtain ⟨n, h1, e⟩ := bind_some e
  obtain ⟨dk, h1, h1'⟩ := bind_some h1
  obtain ⟨l, h2, e⟩ := bind_some e
  cases e
  have := isI_eq h1'
  subst this
  refine h _ _ h1 (SF F T) σ H st.als st.mkd _ fun v H1 e1 rv => ?_
  cases rv
  have st1 := st.ex e1
  obtain ⟨a, ks, ha, hk, hc, hT⟩ := st1.at_dic (dicAt_eq h2)
  refine ⟨.ref a, ha, a, valV ks (.inl n), rfl, dk_get n hk, ?_⟩
  rw [← valV_any, hc.has n]
  exact q _ T H1 st1 (Stp.ex st.al e1) (.bl _)
theorem sw_dnot {i : Nat} (h : SE tk k) : SW (tDNotIn tk (tVar i)) (wDnot i k) := fun pn F T H σ ρ d ρ' st e Q q => by
  obtain ⟨n, h1, e⟩ := bind_some e
  obtain ⟨dk, h1, h1'⟩ := bind_some h1
  obtain ⟨l, h2, e⟩ := bind_some e
  cases e
  have := isI_eq h1'
  subst this
  refine h _ _ h1 (SF F T) σ H st.als st.mkd _ fun v H1 e1 rv => ?_
  cases rv
  have st1 := st.ex e1
  obtain ⟨a, ks, ha, hk, hc, hT⟩ := st1.at_dic (dicAt_eq h2)
  refine ⟨.ref a, ha, a, valV ks (.inl n), rfl, dk_get n hk, ?_⟩
  rw [← valV_any, hc.has n]
  exact q _ T H1 st1 (Stp.ex st.al e1) (.bl _)
theorem sw_dget {i : Nat} (h : SE tk k) : SW (tDGet (tVar i) tk) (wDget i k) := fun pn F T H σ ρ d ρ' st e Q q => by
  obtain ⟨n, h1, e⟩ := bind_some e
  obtain ⟨dk, h1, h1'⟩ := bind_some h1
  obtain ⟨l, h2, e⟩ := bind_some e
  obtain ⟨d', h3, e⟩ := bind_some e
  cases e
  have := isI_eq h1'
  subst this
  obtain ⟨a, ks, ha, hk, hc, hT⟩ := st.at_dic (dicAt_eq h2)
  refine ⟨.ref a, ha, ?_⟩
  refine h _ _ h1 (SF F T) σ H st.als st.mkd _ fun v H1 e1 rv => ?_
  cases rv
  have st1 := st.ex e1
  obtain ⟨a', ks', ha', hk', hc', hT'⟩ := st1.at_dic (dicAt_eq h2)
  have ea : a' = a := by rw [ha'] at ha; cases ha; rfl
  subst ea
  obtain ⟨u, h4, ru⟩ := hc'.get h3
  have g := dk_get n hk'
  rw [h4] at g
  exact ⟨a', u, rfl, g, q _ T H1 st1 (Stp.ex st.al e1) ru⟩
theorem ss_dput {i : Nat} (h : SW te w) (hk : SE tk k) : SS (L2.sDPut (tVar i) tk te) (sDput i k w) := fun pn F T H σ ρ o D st e q => by
  obtain ⟨⟨d, ρ1⟩, h1, e⟩ := bind_some e
  obtain ⟨n, h2, e⟩ := bind_some e
  obtain ⟨dk, h2, h2'⟩ := bind_some h2
  obtain ⟨l, h3, e⟩ := bind_some e
  have := isI_eq h2'
  subst this
  by_cases c : l.length < 100000
  · have e : (if l.length < 100000 then some (Out.nxt (ρ1.set i (.dic (putD l n d)))) else none) = some o := e
    rw [if_pos c] at e
    cases e
    refine h pn F T H σ ρ d ρ1 st h1 _ fun v T1 H1 st1 s1 rv => ?_
    obtain ⟨a, ks, ha, hv, hc, hT⟩ := st1.at_dic (dicAt_eq h3)
    refine ⟨.ref a, ha, ?_⟩
    refine hk _ _ h2 (SF F T1) σ H1 st1.als st1.mkd _ fun u H2 e2 ru => ?_
    cases ru
    have st2 := st1.ex e2
    have s2 : Stp F T1 H1 T1 H2 := Stp.ex st1.al e2
    obtain ⟨a', ks', ha', hv', hc', hT'⟩ := st2.at_dic (dicAt_eq h3)
    have ea : a' = a := by rw [ha'] at ha; cases ha; rfl
    subst ea
    obtain ⟨st3, s3⟩ := st2.writeD (dicAt_eq h3) hT' ha' (hc'.put (rv.ex (hid_ex e2)) n)
    exact ⟨a', _, rfl, DPut.k (k := .inl n) hv' (by rw [hc'.len]; exact Evl.sz_lt c), q σ T1 _ st3 ((s1.trans s2).trans s3)⟩
  · have e : (if l.length < 100000 then some (Out.nxt (ρ1.set i (.dic (putD l n d)))) else none) = some o := e
    rw [if_neg c] at e; cases e
end
end Uv

namespace Uv
open PySem PySem.Spec PyProof.Rows L2
open Evl (Ex)
variable [kk : KK]
/-! ### a def that draws, is lent a list, and gives a new one -/
def runV (n k : Nat) (X : XS) (cs : List Cel) (ds : List PD) : Option (List Cel × List Cel) := if ds.length = n then (X (.own cs :: (ds.map Sl.dat ++ List.replicate k Sl.un))).bind fun o => match o with
  | .retO r ρ => (ownAt ρ 0).bind fun cs' => some (r, cs')
  | _ => none else none
def spV (g : List Cel → List PD → Option (List Cel × List Cel)) : Sp := fun vs H Q _ => ∃ (F : Hs) (a : Addr) (B : List Addr) (cs : List Cel) (ws : List V) (ds : List PD) (r cs' : List Cel), vs = .ref a :: ws ∧ Al F H ∧ (∀ x ∈ a :: B, ¬ F x) ∧ (a :: B).Nodup ∧
  Own (hid (FL F (a :: B)) H) H (.ref a) cs (a :: B) ∧ RpAll (hid (FL F (a :: B)) H) ws ds ∧ g cs ds = some (r, cs') ∧
  ∀ v A B' H', (∀ x, F x → H' x = H x) → Ex (hid (FL F (a :: B)) H) (hid (FL (FL F A) (a :: B')) H') → (∀ x ∈ a :: B', ¬ FL F A x) → (a :: B').Nodup → A.Nodup → (∀ x ∈ A, ¬ F x) → Own (hid (FL (FL F A) (a :: B')) H') H' (.ref a) cs' (a :: B') → Own (hid (FL (FL F A) (a :: B')) H') H' v r A → Q v H'
theorem len_V {n k : Nat} {X : XS} {vs : List V} {H : Hp} {Q : VK} {E : XK} (h : spV (runV n k X) vs H Q E) : vs.length = n + 1 := by
  obtain ⟨_, _, _, _, ws, ds, _, _, rfl, _, _, _, _, ra, h, _⟩ := h
  unfold runV at h
  by_cases hn : ds.length = n
  · rw [List.length_cons, ra.length, hn]
  · rw [if_neg hn] at h; cases h
theorem go_V {t : TS} {X : XS} {N : List Str} {vs : List V} {H : Hp} {Q : VK} {E : XK} {n k : Nat} (hX : SS t X) (hN : N.length = n + 1 + k) (hs : spV (runV n k X) vs H Q E) : t { nx := fun _ H' => Q .non H', rt := Q } (L2.start N vs) H := by
  obtain ⟨F, a, B, cs, ws, ds, d, cs', rfl, al, off, nd, ow, ra, h, q⟩ := hs
  unfold runV at h
  by_cases hn : ds.length = n
  · rw [if_pos hn] at h
    obtain ⟨o, h1, h⟩ := bind_some h
    obtain ⟨T, hT⟩ : ∃ T : Trs, T = fun i => if i = 0 then a :: B else [] := ⟨_, rfl⟩
    have T0 : T 0 = a :: B := by rw [hT]; rfl
    have TS : ∀ i, i ≠ 0 → T i = [] := fun i hi => by rw [hT]; exact if_neg hi
    have eqv : ∀ x, FL F (a :: B) x ↔ SF F T x := fun x => by
      constructor
      · rintro (z | z)
        · exact .inl z
        · exact .inr ⟨0, by rw [T0]; exact z⟩
      · rintro (z | ⟨i, z⟩)
        · exact .inl z
        · by_cases c : i = 0
          · subst c; rw [T0] at z; exact .inr z
          · rw [TS i c] at z; cases z
    have eh : hid (FL F (a :: B)) H = hid (SF F T) H := hid_eq eqv
    have e : N.length - (V.ref a :: ws).length = k := by rw [List.length_cons, ra.length, hN, hn]; omega
    have st : StOk (some (.ref a)) F T H (L2.start N (.ref a :: ws)) (.own cs :: (ds.map Sl.dat ++ List.replicate k Sl.un)) := by
      have mem : ∀ i x, x ∈ T i → i = 0 ∧ x ∈ a :: B := fun i x hx => by
        by_cases c : i = 0
        · subst c; rw [T0] at hx; exact ⟨rfl, hx⟩
        · rw [TS i c] at hx; cases hx
      refine ⟨?_, al, fun i x hx => off x (mem i x hx).2, fun i j x hx hy => (mem i x hx).1.trans (mem j x hy).1.symm, fun i => ?_, fun i hi => TS i (by rw [List.length_cons] at hi; omega), fun i s hi => ?_, fun v hv => ?_⟩
      · unfold L2.start
        rw [e]
        simp only [List.map_cons, List.cons_append, List.length_cons, List.length_append, List.length_map, List.length_replicate]
        rw [ra.length]
      · by_cases c : i = 0
        · subst c; rw [T0]; exact nd
        · rw [TS i c]; exact List.nodup_nil
      · unfold L2.start
        rw [e]
        cases i with
        | zero =>
          cases hi
          rw [T0]
          exact ⟨_, rfl, _, rfl, by rw [← eh]; exact ow⟩
        | succ i =>
          rw [TS _ (Nat.succ_ne_zero i)]
          have hi : (ds.map Sl.dat ++ List.replicate k Sl.un)[i]? = some s := hi
          show ∃ o, (ws.map some ++ List.replicate k none)[i]? = some o ∧ _
          by_cases c : i < ds.length
          · rw [List.getElem?_append_left (by rw [List.length_map]; exact c), List.getElem?_map, List.getElem?_eq_getElem c] at hi
            cases hi
            obtain ⟨v, k1, k2⟩ := ra.get (List.getElem?_eq_getElem c)
            refine ⟨some v, ?_, rfl, v, rfl, by rw [← eh]; exact k2⟩
            rw [List.getElem?_append_left (by rw [List.length_map, ra.length]; exact c), List.getElem?_map, k1]
            rfl
          · rw [List.getElem?_append_right (by rw [List.length_map]; omega), List.getElem?_replicate] at hi
            rw [List.getElem?_append_right (by rw [List.length_map, ra.length]; omega), List.getElem?_replicate]
            rw [List.length_map] at hi ⊢
            rw [ra.length]
            split at hi
            · rename_i c2
              cases hi
              exact ⟨none, by rw [if_pos c2], rfl⟩
            · cases hi
      · cases hv
        unfold L2.start
        rfl
    refine hX (some (.ref a)) F T H _ _ o _ st h1 ?_
    cases o with
    | retO r1 ρ1 =>
      obtain ⟨c1, k1, k2⟩ := bind_some h
      intro v A σ T' H' st' ndA offA fr vis owR
      have k2 : (r1, c1) = (d, cs') := Option.some.inj k2
      cases k2
      obtain ⟨a', us, B', g1, g2, g3, g4⟩ := st'.at_own (ownAt_eq k1)
      have hp := st'.pin _ rfl
      have ea : a' = a := by rw [g1] at hp; cases hp; rfl
      subst ea
      have sub : Ex (hid (SF (FL F A) T') H') (hid (FL (FL F A) (a' :: B')) H') := hid_sub fun x hx => hx.elim .inl fun z => .inr ⟨0, by rw [g4]; exact z⟩
      exact q v A B' H' fr (by rw [eh]; exact vis.trans sub) (fun x hx => st'.off 0 x (by rw [g4]; exact hx)) (by rw [← g4]; exact st'.nd 0) ndA offA ⟨a', us, B', rfl, g2, g3.mv sub fun _ _ => rfl, rfl⟩ (owR.mv sub fun _ _ => rfl)
    | ret _ _ => cases h
    | nxt _ => cases h
    | brk _ => cases h
    | cnt _ => cases h
  · rw [if_neg hn] at h; cases h
/-- no list within, but those that are owned -/
def flatC : List Cel → Bool
  | [] => true
  | .dat d :: r => flat d && flatC r
  | .sub ds :: r => flats ds && flatC r
theorem Cels.flat {G G' H : Hp} (e : ∀ x o u, G x = some (.frz o u) → G' x = some (.frz o u)) : ∀ {vs : List V} {cs : List Cel} {B : List Addr}, flatC cs = true → Cels G H vs cs B → Cels G' H vs cs B
  | _, _, _, _, .nil => .nil
  | _, _, _, f, .dat r c => by
    rw [flatC, Bool.and_eq_true] at f
    exact .dat (Rp.flat e r f.1) (c.flat e f.2)
  | _, _, _, f, .sub hb r c => by
    rw [flatC, Bool.and_eq_true] at f
    exact .sub hb (RpAll.flat e r f.1) (c.flat e f.2)
theorem Own.flat {G G' H : Hp} (e : ∀ x o u, G x = some (.frz o u) → G' x = some (.frz o u)) {v : V} {cs : List Cel} {A : List Addr} (f : flatC cs = true) (o : Own G H v cs A) : Own G' H v cs A := by
  obtain ⟨a, vs, B, rfl, ha, c, rfl⟩ := o
  exact ⟨a, vs, B, rfl, ha, c.flat e f, rfl⟩
/-- f(deck, e, xs): xs is a list of the caller's own, only looked at -/
def wCallV (i m : Nat) (g : List Cel → List PD → Option (List Cel × List Cel)) (a : XW) : XWO := fun ρ => (ownAt ρ i).bind fun _ => (a ρ).bind fun x => (ownAt x.2 i).bind fun cs => (ownAt x.2 m).bind fun ms => (allDat ms).bind fun ds => (g cs [x.1, .list ds]).bind fun y => if flatC y.1 = true ∧ flatC y.2 = true then some (y.1, x.2.set i (.own y.2)) else none
theorem swo_callV {i m : Nat} {g : List Cel → List PD → Option (List Cel × List Cel)} {ta : TE} {w : XW} (him : m ≠ i) (hw : SW ta w) : SWO (tCall (spV g) [] E0 (tCons (tVar i) (tCons ta (tCons (tVar m) tNil)))) (wCallV i m g w) := fun pn F T H σ ρ r ρ' st e Q q => by
  obtain ⟨cs0, h0, e⟩ := bind_some e
  obtain ⟨⟨d, ρ1⟩, h1, e⟩ := bind_some e
  obtain ⟨cs, hi, e⟩ := bind_some e
  obtain ⟨ms, hm, e⟩ := bind_some e
  obtain ⟨ds, hd, e⟩ := bind_some e
  obtain ⟨⟨z, cs'⟩, h3, e⟩ := bind_some e
  have hi : ρ1[i]? = some (.own cs) := ownAt_eq hi
  have hm : ρ1[m]? = some (.own (ds.map Cel.dat)) := by rw [← allDat_eq hd]; exact ownAt_eq hm
  have e : (if flatC z = true ∧ flatC cs' = true then some (z, ρ1.set i (.own cs')) else none) = some (r, ρ') := e
  by_cases fl : flatC z = true ∧ flatC cs' = true
  rotate_left
  · rw [if_neg fl] at e; cases e
  rw [if_pos fl] at e
  obtain ⟨rfl, rfl⟩ := Prod.mk.inj (Option.some.inj e)
  obtain ⟨a, _, _, ha, _⟩ := st.at_own (ownAt_eq h0)
  refine ⟨.ref a, ha, hw pn F T H σ ρ d ρ1 st h1 _ fun vd T1 H1 st1 s1 rd => ?_⟩
  obtain ⟨a', us, B, ha', hl, hc, hT⟩ := st1.at_own hi
  have ea : a' = a := by rw [ha'] at ha; cases ha; rfl
  subst ea
  obtain ⟨b, vs, Bm, hb, hlb, hcb, hTm⟩ := st1.at_own hm
  obtain ⟨rb, eB⟩ := hcb.dats_inv
  subst eB
  refine ⟨.ref b, hb, ?_⟩
  show spV g ([.ref a', vd, .ref b] ++ []) H1 Q E0
  rw [List.append_nil]
  obtain ⟨F1, hF1⟩ : ∃ F1 : Hs, F1 = fun x => F x ∨ ∃ j, j ≠ i ∧ j ≠ m ∧ x ∈ T1 j := ⟨_, rfl⟩
  have f1 : ∀ x, FL F1 (a' :: B) x → SF F T1 x := fun x => by
    rw [hF1]
    rintro ((h | ⟨j, _, _, h⟩) | h)
    · exact .inl h
    · exact .inr ⟨j, h⟩
    · exact .inr ⟨i, by rw [hT]; exact h⟩
  have bT : b ∈ T1 m := by rw [hTm]; exact List.mem_cons_self ..
  have bn : ¬ FL F1 (a' :: B) b := by
    rw [hF1]
    rintro ((h | ⟨j, _, c, h⟩) | h)
    · exact st1.off m b bT h
    · exact c (st1.dis j m b h bT)
    · exact him (st1.dis m i b bT (by rw [hT]; exact h))
  have sub : Ex (hid (SF F T1) H1) (hid (FL F1 (a' :: B)) H1) := hid_sub f1
  refine ⟨F1, a', B, cs, [vd, .ref b], [d, .list ds], z, cs', rfl, ?_, ?_, by rw [← hT]; exact st1.nd i, ⟨a', us, B, rfl, hl, hc.mv sub fun _ _ => rfl, rfl⟩, .cons (rd.ex sub) (.cons (.lst (by rw [hid_out bn]; exact hlb) (rb.ex sub)) .nil), h3, fun v A B' H' fr vis off nd ndA offA owD owR => ?_⟩
  · intro x hx
    rw [hF1] at hx
    exact st1.als x (hx.elim .inl fun ⟨j, _, _, h⟩ => .inr ⟨j, h⟩)
  · intro x hx hx2
    rw [hF1] at hx2
    have hx3 : x ∈ T1 i := by rw [hT]; exact hx
    rcases hx2 with h | ⟨j, c, _, h⟩
    · exact st1.off i x hx3 h
    · exact c (st1.dis j i x h hx3)
  · -- the lent list stands as it was, and is no part of what came
    have hvis : hid (FL F1 (a' :: B)) H1 b = some (.lst vs) := by rw [hid_out bn]; exact hlb
    obtain ⟨bn', hb'⟩ := hid_some (vis b _ hvis)
    have il : i < ρ1.length := (List.getElem?_eq_some_iff.mp hi).1
    have inm : ∀ x, x ∈ T1 m → x = b := fun x hx => by rw [hTm] at hx; simpa using hx
    have F1' : ∀ j x, j ≠ i → j ≠ m → x ∈ T1 j → F1 x := fun j x c1 c2 hx => by rw [hF1]; exact .inr ⟨j, c1, c2, hx⟩
    have FF : ∀ x, F x → F1 x := fun x hx => by rw [hF1]; exact .inl hx
    have up : ∀ x, SF (FL F A) (setT T1 i (a' :: B')) x → FL (FL F1 A) (a' :: B') x ∨ x = b := fun x => by
      rintro ((h | h) | ⟨j, h⟩)
      · exact .inl (.inl (.inl (FF x h)))
      · exact .inl (.inl (.inr h))
      · by_cases c : j = i
        · subst c; rw [setT_same] at h; exact .inl (.inr h)
        · rw [setT_ne c] at h
          by_cases c2 : j = m
          · subst c2; exact .inr (inm x h)
          · exact .inl (.inl (.inl (F1' j x c c2 h)))
    have dn : ∀ x, FL (FL F1 A) (a' :: B') x → SF (FL F A) (setT T1 i (a' :: B')) x := fun x => by
      rintro ((h | h) | h)
      · rw [hF1] at h
        rcases h with h | ⟨j, c, _, h⟩
        · exact .inl (.inl h)
        · exact .inr ⟨j, by rw [setT_ne c]; exact h⟩
      · exact .inl (.inr h)
      · exact .inr ⟨i, by rw [setT_same]; exact h⟩
    have vis' : Ex (hid (SF F T1) H1) (hid (SF (FL F A) (setT T1 i (a' :: B'))) H') := fun x o hx => by
      obtain ⟨c, hx⟩ := hid_some hx
      obtain ⟨c', hx'⟩ := hid_some (vis x o (by rw [hid_out fun z => c (f1 x z)]; exact hx))
      rw [hid_out]
      · exact hx'
      · intro z
        rcases up x z with z | z
        · exact c' z
        · subst z; exact c (.inr ⟨m, bT⟩)
    have keep : ∀ j x, j ≠ i → x ∈ T1 j → H' x = H1 x := fun j x c hx => by
      by_cases c2 : j = m
      · subst c2
        rw [inm x hx, hb', hlb]
      · exact fr x (F1' j x c c2 hx)
    have fz : ∀ x o u, hid (FL (FL F1 A) (a' :: B')) H' x = some (.frz o u) → hid (SF (FL F A) (setT T1 i (a' :: B'))) H' x = some (.frz o u) := fun x o u h => by
      obtain ⟨c, h⟩ := hid_some h
      rw [hid_out]
      · exact h
      · intro y
        rcases up x y with y | y
        · exact c y
        · subst y
          rw [hb'] at h
          cases h
    refine q v A (setT T1 i (a' :: B')) H' ⟨by rw [List.length_set]; exact st1.len, fun x hx => ?_, fun j x h => ?_, fun j k x h h' => ?_, fun j => ?_, fun j hj => ?_, fun j s hs => ?_, st1.pin⟩ ndA (fun x hx z => offA x hx (FF x z)) (fun x hx => (fr x (FF x hx)).trans (s1.fr x hx)) (s1.vis.trans vis') (owR.flat fz fl.1)
    · rcases hx with hx | hx
      · rw [fr x (FF x hx)]; exact st1.al x hx
      · obtain ⟨ws, g⟩ := owR.lst x hx
        intro y
        rw [g] at y
        cases y
    · by_cases c : j = i
      · subst c
        rw [setT_same] at h
        rintro (y | y)
        · exact off x h (.inl (FF x y))
        · exact off x h (.inr y)
      · rw [setT_ne c] at h
        rintro (y | y)
        · exact st1.off j x h y
        · by_cases c2 : j = m
          · subst c2
            rw [inm x h] at y
            exact bn' (.inl (.inr y))
          · exact offA x y (F1' j x c c2 h)
    · have one : ∀ j x, j ≠ i → x ∈ T1 j → x ∈ a' :: B' → False := fun j x c hx hy => by
        by_cases c2 : j = m
        · subst c2
          rw [inm x hx] at hy
          exact bn' (.inr hy)
        · exact off x hy (.inl (F1' j x c c2 hx))
      by_cases c : j = i
      · subst c
        rw [setT_same] at h
        by_cases c2 : k = j
        · exact c2.symm
        · rw [setT_ne c2] at h'
          exact absurd h fun h => one k x c2 h' h
      · rw [setT_ne c] at h
        by_cases c2 : k = i
        · subst c2
          rw [setT_same] at h'
          exact absurd h' fun h' => one j x c h h'
        · rw [setT_ne c2] at h'
          exact st1.dis j k x h h'
    · by_cases c : j = i
      · subst c; rw [setT_same]; exact nd
      · rw [setT_ne c]; exact st1.nd j
    · rw [List.length_set] at hj
      rw [setT_ne (by omega)]
      exact st1.out j hj
    · by_cases c : i = j
      · subst c
        rw [List.getElem?_set_self il] at hs
        cases hs
        rw [setT_same]
        exact ⟨_, ha', _, rfl, owD.flat fz fl.2⟩
      · rw [List.getElem?_set_ne c] at hs
        obtain ⟨o, g1, g2⟩ := st1.sl j s hs
        rw [setT_ne (fun y => c y.symm)]
        exact ⟨o, g1, g2.mv vis' fun x hx => keep j x (fun y => c y.symm) hx⟩
theorem sof_repV : SOF (rMulV K) repP := fun x y z h => by
  obtain ⟨ds, e, r⟩ := sof_rep x y z h
  exact ⟨ds, e, fun S H vx vy al rx ry Q q => .inl (r S H vx vy al rx ry Q q)⟩
end Uv

namespace Uv
open PySem PySem.Spec PyProof.Rows L2
open Evl (Ex)
variable [kk : KK]
/-! ### an owned list is given away: the name is not read any more -/
def wOMv (i : Nat) : XWO := fun ρ => match ρ[i]? with
  | some (.own cs) => some (cs, ρ.set i .un)
  | _ => none
theorem SF_move {F : Hs} {T : Trs} {i : Nat} : SF (FL F (T i)) (setT T i []) = SF F T := funext fun x => propext ⟨fun h => by
    rcases h with (h | h) | ⟨j, h⟩
    · exact .inl h
    · exact .inr ⟨i, h⟩
    · by_cases c : j = i
      · subst c; rw [setT_same] at h; cases h
      · rw [setT_ne c] at h; exact .inr ⟨j, h⟩, fun h => by
    rcases h with h | ⟨j, h⟩
    · exact .inl (.inl h)
    · by_cases c : j = i
      · subst c; exact .inl (.inr h)
      · exact .inr ⟨j, by rw [setT_ne c]; exact h⟩⟩
theorem swo_mv {i : Nat} : SWO (tVar i) (wOMv i) := fun pn F T H σ ρ cs ρ' st e Q q => by
  unfold wOMv at e
  cases hi : ρ[i]? with
  | none => rw [hi] at e; cases e
  | some s =>
    rw [hi] at e
    cases s with
    | un => cases e
    | dat d => cases e
    | dic l => cases e
    | own cs' =>
      cases e
      obtain ⟨o, h1, v, rfl, ow⟩ := st.sl i _ hi
      have hl : i < ρ.length := (List.getElem?_eq_some_iff.mp hi).1
      have mem : ∀ j x, x ∈ setT T i [] j → x ∈ T j ∧ j ≠ i := fun j x h => by
        by_cases c : j = i
        · subst c; rw [setT_same] at h; cases h
        · rw [setT_ne c] at h; exact ⟨h, c⟩
      refine ⟨v, h1, q v (T i) (setT T i []) H ⟨by rw [List.length_set]; exact st.len, fun x h => ?_, fun j x h z => ?_, fun j k x h h' => st.dis j k x (mem j x h).1 (mem k x h').1, fun j => ?_, fun j hj => ?_, fun j s hs => ?_, st.pin⟩ (st.nd i) (st.off i) (fun _ _ => rfl) (by rw [SF_move]; exact Ex.refl _) (by rw [SF_move]; exact ow)⟩
      · exact st.als x (h.elim .inl fun h => .inr ⟨i, h⟩)
      · obtain ⟨h1, h2⟩ := mem j x h
        rcases z with z | z
        · exact st.off j x h1 z
        · exact h2 (st.dis j i x h1 z)
      · by_cases c : j = i
        · subst c; rw [setT_same]; exact List.nodup_nil
        · rw [setT_ne c]; exact st.nd j
      · rw [List.length_set] at hj
        by_cases c : j = i
        · subst c; rw [setT_same]
        · rw [setT_ne c]; exact st.out j hj
      · rw [SF_move]
        by_cases c : i = j
        · subst c
          rw [List.getElem?_set_self hl] at hs
          cases hs
          rw [setT_same]
          exact ⟨_, h1, rfl⟩
        · rw [List.getElem?_set_ne c] at hs
          rw [setT_ne (fun z => c z.symm)]
          exact st.sl j s hs
end Uv

namespace Uv
open PySem PySem.Spec PyProof.Rows L2
open Evl (Ex)
variable [kk : KK]
/-! ### {k: v for .. in .. if ..} into a dict of its own -/
def dcGo (g : XGV) (t : XT) (k e : XE) (ρ : VE) : List PD → List (Int × PD) → Option (List (Int × PD))
  | [], l => some l
  | x :: xs, l => (g x ρ).bind fun ρ1 => (t ρ1).bind fun b => if b = true then ((k ρ1).bind isI).bind fun n => (e ρ1).bind fun d => if flat d = true then dcGo g t k e ρ xs (putD l n d) else none else dcGo g t k e ρ xs l
def sDComp (i : Nat) (src : XI) (g : XGV) (t : XT) (k e : XE) (vs : List Nat) : XS := fun ρ => (src (vw ρ)).bind fun xs => if xs.length ≤ 40000 then (dcGo g t k e (clear (vw ρ) vs) xs []).bind fun l => if i < ρ.length then some (.nxt (ρ.set i (.dic l))) else none else none
theorem dc_step {g : XGV} {t : XT} {k e : XE} {ρ : VE} {x : PD} {xs : List PD} {l l' : List (Int × PD)} (h : dcGo g t k e ρ (x :: xs) l = some l') : ∃ ρ1 b, g x ρ = some ρ1 ∧ t ρ1 = some b ∧ ((b = true ∧ ∃ n d, k ρ1 = some (.int n) ∧ e ρ1 = some d ∧ flat d = true ∧ dcGo g t k e ρ xs (putD l n d) = some l') ∨ (b = false ∧ dcGo g t k e ρ xs l = some l')) := by
  obtain ⟨ρ1, h1, h⟩ := bind_some (show (g x ρ).bind _ = some l' from h)
  obtain ⟨b, h2, h⟩ := bind_some h
  refine ⟨ρ1, b, h1, h2, ?_⟩
  cases b with
  | true =>
    rw [if_pos rfl] at h
    obtain ⟨n, h3, h⟩ := bind_some h
    obtain ⟨dk, h3, h4⟩ := bind_some h3
    obtain ⟨d, h5, h⟩ := bind_some h
    by_cases c : flat d = true
    · rw [if_pos c] at h
      refine .inl ⟨rfl, n, d, ?_, h5, c, h⟩
      rw [h3]
      cases dk with
      | int z => cases h4; rfl
      | _ => cases h4
    · rw [if_neg c] at h; cases h
  | false => exact .inr ⟨rfl, h⟩
theorem Kvs.length {G : Hp} : ∀ {ks : List (Key × V)} {l : List (Int × PD)}, Kvs G ks l → ks.length = l.length
  | _, _, .nil => rfl
  | _, _, .cons _ c => by rw [List.length_cons, List.length_cons, c.length]
theorem Kvs.flat {G G' : Hp} (e : ∀ x o u, G x = some (.frz o u) → G' x = some (.frz o u)) : ∀ {ks : List (Key × V)} {l : List (Int × PD)}, Kvs G ks l → (∀ p ∈ l, Uv.flat p.2 = true) → Kvs G' ks l
  | _, _, .nil, _ => .nil
  | _, _, .cons r c, h => .cons (r.flat e (h _ (List.mem_cons_self ..))) (c.flat e fun p hp => h p (List.mem_cons_of_mem _ hp))
omit kk in
theorem putD_len {l : List (Int × PD)} {n : Int} {d : PD} : (putD l n d).length ≤ l.length + 1 := by
  unfold putD
  split
  · rw [List.length_map]; omega
  · simp
omit kk in
theorem putD_mem {l : List (Int × PD)} {n : Int} {d : PD} {p : Int × PD} (h : p ∈ putD l n d) : p ∈ l ∨ p.2 = d := by
  unfold putD at h
  split at h
  · obtain ⟨q, hq, e⟩ := List.mem_map.mp h
    by_cases c : q.1 = n
    · rw [if_pos c] at e; rw [← e]; exact .inr rfl
    · rw [if_neg c] at e; rw [← e]; exact .inl hq
  · rcases List.mem_append.mp h with z | z
    · exact .inl z
    · rw [List.mem_singleton.mp z]; exact .inr rfl
theorem ss_dcomp {i : Nat} {b : Bool} {wi : TI} {g : TG} {tt : TT} {tk te : TE} {vs us : List Nat} {src : XI} {xg : XGV} {t : XT} {k e : XE} (hi0 : i ≠ 0) (hs : SI b wi src) (hg : SGV b g xg us) (hu : ∀ i ∈ us, i ∈ vs) (ht : ST tt t) (hk : SE tk k) (he : SE te e) : SS (tAsg (tDc wi g tt tk te vs) (gName i)) (sDComp i src xg t k e vs) := fun pn F T H σ ρ o D0 st h q => by
  obtain ⟨xs, h1, h⟩ := bind_some h
  by_cases hz : xs.length ≤ 40000
  · rw [if_pos hz] at h
    obtain ⟨l, h2, h⟩ := bind_some h
    by_cases cl : i < ρ.length
    · rw [if_pos cl] at h
      cases h
      refine hs _ xs h1 F σ H st.al st.vw _ fun J H1 e1 wk D hD => ?_
      have al1 := st.al.ex e1
      have alD : Al (fun x => x = D ∨ F x) (upd H1 D (.dK [])) := fun x hx => by
        by_cases c : x = D
        · subst c; rw [upd_same]; exact fun z => nomatch z
        · rw [upd_ne c]; exact al1 x (hx.resolve_left c)
      refine ⟨fun j m H' => m = xs.length - j ∧ j ≤ xs.length ∧ Ex H1 H' ∧ Al (fun x => x = D ∨ F x) H' ∧ ∃ ks l1, H' D = some (.dK ks) ∧ l1.length ≤ j ∧ (∀ p ∈ l1, flat p.2 = true) ∧ Kvs (hid (fun x => x = D ∨ F x) H') ks l1 ∧ dcGo xg t k e (clear (vw ρ) vs) (xs.drop j) l1 = some l,
        ⟨_, rfl, Nat.zero_le _, Ex.new hD, alD, [], [], upd_same, Nat.le_refl _, by simp, .nil, h2⟩, fun j m H' hw => ?_⟩
      obtain ⟨rfl, hj, e2, al2, ks, l1, hks, la, lf, ra, hgo⟩ := hw
      have ewk : Ex (hid F H1) (hid (fun x => x = D ∨ F x) H') := hid_cons e2 hD
      obtain ⟨w1, w2⟩ := wk _ H' ewk al2
      by_cases hlt : j < xs.length
      · obtain ⟨w3, w4⟩ := w2 j _ (List.getElem?_eq_getElem hlt)
        rw [List.drop_eq_getElem_cons hlt] at hgo
        obtain ⟨ρ1, b1, g1, t1, alt⟩ := dc_step hgo
        refine .inr ⟨w3, fun H2 => Ex H1 H2 ∧ Al (fun x => x = D ∨ F x) H2 ∧ ∃ ks l1, H2 D = some (.dK ks) ∧ l1.length ≤ j + 1 ∧ (∀ p ∈ l1, flat p.2 = true) ∧ Kvs (hid (fun x => x = D ∨ F x) H2) ks l1 ∧ dcGo xg t k e (clear (vw ρ) vs) (xs.drop (j + 1)) l1 = some l, fun H2 hn => ⟨_, by omega, rfl, hlt, hn⟩, fun v H3 y => ?_⟩
        obtain ⟨e3, rv⟩ := w4 v H3 y
        have al3 := al2.ex e3
        have en3 : En (hid (fun x => x = D ∨ F x) H3) (wipe σ vs) (clear (vw ρ) vs) := clear_en (st.vw.ex (((hid_ex e1).trans ewk).trans (hid_ex e3))) vs
        refine hg _ _ ρ1 g1 _ (wipe σ vs) H3 v en3 rv _ fun σ4 en4 off => ⟨wipe_off off hu, ?_⟩
        refine ht ρ1 b1 t1 _ σ4 H3 al3 en4 _ fun H5 e5 => ?_
        have hks5 : H5 D = some (.dK ks) := e5 _ _ (e3 _ _ hks)
        have ra5 := ra.ex ((hid_ex (S := fun x => x = D ∨ F x) e3).trans (hid_ex e5))
        rcases alt with ⟨rfl, n, d1, f0, f1, ff, f2⟩ | ⟨rfl, f2⟩
        · show tk σ4 H5 _
          refine hk ρ1 _ f0 _ σ4 H5 (al3.ex e5) (en4.ex (hid_ex e5)) _ fun y6 H6 e6 ry => ?_
          cases ry with
          | int _ =>
          refine he ρ1 d1 f1 _ σ4 H6 ((al3.ex e5).ex e6) ((en4.ex (hid_ex e5)).ex (hid_ex e6)) _ fun z H7 e7 rz => ?_
          have lk := ra5.length
          refine ⟨ks, .inl n, rfl, e7 _ _ (e6 _ _ hks5), Evl.sz_lt (by omega), Ex.mut ((((e2.trans e3).trans e5).trans e6).trans e7) hD, ?_, putK ks (.inl n) z, putD l1 n d1, upd_same, ?_, ?_, ?_, f2⟩
          · intro x hx
            by_cases c : x = D
            · subst c; rw [upd_same]; exact fun q => nomatch q
            · rw [upd_ne c]; exact (((al3.ex e5).ex e6).ex e7) x hx
          · have := putD_len (l := l1) (n := n) (d := d1); omega
          · intro p hp
            rcases putD_mem hp with z | z
            · exact lf p z
            · rw [z]; exact ff
          · have hu' : Ex (hid (fun x => x = D ∨ F x) H7) (hid (fun x => x = D ∨ F x) (upd H7 D (.dK (putK ks (.inl n) z)))) := fun x o h => by
              obtain ⟨c, h⟩ := hid_some h
              rw [hid_out c, upd_ne (fun z => c (.inl z))]
              exact h
            exact (ra5.ex (((hid_ex e6).trans (hid_ex e7)).trans hu')).put (rz.ex hu') n
        · exact ⟨(e2.trans e3).trans e5, al3.ex e5, ks, l1, hks5, by omega, lf, ra5, f2⟩
      · have ej : j = xs.length := by omega
        subst ej
        rw [List.drop_length] at hgo
        cases hgo
        refine .inl ⟨w1, ?_⟩
        have e12 := e1.trans e2
        have hp : H D = none := ex_none e1 hD
        obtain ⟨st1, vis1⟩ := st.fresh e12 hp (by rw [hks]; exact fun z => nomatch z)
        have off : ∀ x ∈ [D], ¬ F x := fun x hx z => by
          have : x = D := by simpa using hx
          rw [this] at z
          exact st.al D z hp
        have fr : ∀ x o u, hid (fun x => x = D ∨ F x) H' x = some (.frz o u) → hid (SF (FL F [D]) T) H' x = some (.frz o u) := fun x o u hh => by
          obtain ⟨c1, c2⟩ := hid_some hh
          exact st1.frz (Ex.refl _) x o u (by rw [hid_out]; exact c2; exact fun z => c1 (z.elim .inr fun z => .inl (by simpa using z)))
        obtain ⟨st2, vis2⟩ := st1.ownS (s := .dic l) hi0 cl (v := .ref D) ⟨.ref D, rfl, D, ks, rfl, hks, ra.flat fr lf, rfl⟩ (by simp) off
        refine q _ _ _ st2 ⟨fun x hx => ?_, vis1.trans vis2⟩
        cases qq : H x with
        | none => exact absurd qq (st.al x hx)
        | some ob => exact e12 x ob qq
    · rw [if_neg cl] at h; cases h
  · rw [if_neg hz] at h; cases h
end Uv

namespace Uv
open PySem PySem.Spec PyProof.Rows L2
open Evl (Ex)
/-! ### name = {..} on one line: the comprehension stores by itself -/
theorem swD {kx vx : Expr} {gs : List Comprehension} {scope : Scope} {pos py : Pos} {y : Str} {l : Nat} {env : PySem.Env} (hk : env.scope.kind = .function) (hy : env.scope.names.lookup y = some .local) (hl : (py.line == pos.line) = true)
    (ha : (scope.names.any fun (n, k) => n == y && (k == .local || k == .cell)) = false) : swapsWith (.DictComp kx vx gs scope pos) (some (.Name y py)) l env = pure true := by
  have k1 : env.kindOf y = some .local := hy
  have k2 : env.blockKind = .function := by
    unfold Env.blockKind
    rw [hk]
    rfl
  unfold swapsWith
  simp only [k1, k2, hl, ha, Expr.pos]
  rfl
section
variable {X : Cx}
theorem ps_setDc {i : Nat} {y : Str} {py : Pos} {kx vx tg iter : Expr} {ifs : List Expr} {scope : Scope} {own : List (Str × Nat)} {pos spos : Pos} {wi : TI} {g : TG} {tt : TT} {tk tv : TE} (hc : X.calm = true) (hN : X.N.Nodup) (hy : X.N[i]? = some y) (hyl : X.env.scope.names.lookup y = some .local)
    (hsw : swapsWith (.DictComp kx vx [⟨tg, iter, ifs, 0⟩] scope pos) (some (.Name y py)) spos.line X.env = pure true) (hi : PI X tg iter wi) (ok : BlkOk X.N X.env.scope scope own)
    (hg : ∀ (s : Shared) (H : Hp) (C : Addr) (cl : List (Str × Addr)) (fp : List Addr), PG (X.blk s H scope (compEnvC scope cl C X.env) fp) tg g) (ht : ∀ (s : Shared) (H : Hp) (C : Addr) (cl : List (Str × Addr)) (fp : List Addr), PTs (X.blk s H scope (compEnvC scope cl C X.env) fp) ifs tt)
    (hk : ∀ (s : Shared) (H : Hp) (C : Addr) (cl : List (Str × Addr)) (fp : List Addr), PE (X.blk s H scope (compEnvC scope cl C X.env) fp) kx tk)
    (he : ∀ (s : Shared) (H : Hp) (C : Addr) (cl : List (Str × Addr)) (fp : List Addr), PE (X.blk s H scope (compEnvC scope cl C X.env) fp) vx tv) (hs : ∀ x, foldedSetIterable iter X.env x = pure x := by intro _; rfl) :
    PS X (.Assign [.Name y py] (.DictComp kx vx [⟨tg, iter, ifs, 0⟩] scope pos) spos) (tAsg (tDc wi g tt tk tv (own.map (·.2))) (gName i)) := by
  refine ⟨fun pins s σ H D I q => ?_⟩
  have q' : tDc wi g tt tk tv (own.map (·.2)) σ H (fun x H1 => gName i x σ H1 D.nx) := q
  rw [exec_Assign_Name_used _ _ _ _ hsw]
  refine wpAny_bind (wpAny_standAt (wpAny_bind ?_))
  show wpAny _ X.A (do let _ ← comprehension (.DictComp kx vx [⟨tg, iter, ifs, 0⟩] scope pos) scope X.env (firstIterPos [⟨tg, iter, ifs, 0⟩] pos) newDict false (eval iter X.env) (some (assign (.Name y py) X.env))) _ _ s
  have core := dc_core (Qf := fun _ s' => L2.SP X pins D .next s') (use := some (assign (.Name y py) X.env)) (pos' := firstIterPos [⟨tg, iter, ifs, 0⟩] pos) (pos := pos) hc hN I hi ok hg ht hk he hs q' (fun L C s1 m H1 I1 q1 hn fp => by
    obtain ⟨a0, a1, a2, a3, a4, a5⟩ := fp
    show wpAny _ _ (assign (.Name y py) X.env (.ref L)) _ _ _
    refine wpAny_assign_Name (store_ok2 (v := V.ref L) I1 hN hy (.inl hyl) rfl (fun s2 I2 st => ?_) (.inr hyl))
    obtain ⟨a, sb, ha⟩ := st
    have ne : C ≠ a := fun e => by
      rcases ha with z | z
      · exact a1 (e.trans z)
      · exact a4 y a z e.symm
    exact ⟨m, hn.sameBut sb ne, fun h3 sb3 => ⟨_, H1, I2.turned (t' := s2.toks) (fun b o hb e => (sb3.2 b hb).trans e) a0 a1 a3 a4 a5, q1⟩⟩)
  exact wpAny_bind (thn core fun _ s' hq => wpAny_pure (wpAny_pure hq))
end
end Uv

namespace Uv
open PySem PySem.Spec PyProof.Rows L2
open Evl (Ex)
variable [kk : KK]
/-! ### behind a turn of a loop an owned list is data -/
def fzO (i : Nat) : Out → Out
  | .nxt ρ => .nxt (fzE ρ i)
  | .brk ρ => .brk (fzE ρ i)
  | .cnt ρ => .cnt (fzE ρ i)
  | o => o
def sEn (i : Nat) (y : XS) : XS := fun ρ => (y ρ).bind fun o => some (fzO i o)
theorem ss_en {i : Nat} {t : TS} {y : XS} (h : SS t y) : SS t (sEn i y) := fun pn F T H σ ρ o D st e q => by
  obtain ⟨o', e1, e2⟩ := bind_some e
  cases e2
  refine h pn F T H σ ρ o' D st e1 ?_
  cases o' with
  | nxt ρ' => exact fun σ' T' H' st' s' => let ⟨T2, st2, s2⟩ := st'.fz1 i; q σ' T2 H' st2 (s'.trans s2)
  | brk ρ' => exact fun σ' T' H' st' s' => let ⟨T2, st2, s2⟩ := st'.fz1 i; q σ' T2 H' st2 (s'.trans s2)
  | cnt ρ' => exact fun σ' T' H' st' s' => let ⟨T2, st2, s2⟩ := st'.fz1 i; q σ' T2 H' st2 (s'.trans s2)
  | ret d ρ' => exact q
  | retO cs ρ' => exact q
end Uv

namespace Uv
open PySem PySem.Spec PyProof.Rows L2
open Evl (Ex)
variable [kk : KK]
/-- a call of a def without arguments -/
theorem pe_g0 {X : Cx} {j k : Nat} {x : Str} {sp : Sp} {p pos : Pos} (c : CalG X.prog X.w X.K X.mg X.base k x sp) (hr : Room j X.A) (hk : k ≤ j) (hG : X.A.guards = some []) (hg : Gl X x) (hdb : (x == ("__debug__" : Str)) = false := by decide) : PE X (.Call (.Name x p) [] [] pos) (tCall sp [] E0 tNil) := by
  obtain ⟨f, fd, ps, F, hm, kp, b⟩ := c.ex
  refine ⟨fun pins s σ H Q I h => wpAny_Call_Name_kw (ld_glob I hg hm ?_ hdb)⟩
  refine PySem.W.callWith_K0 I.kIn kp ?_
  have q : sp [] H Q E0 := h
  have r : Vals [] [] := .nil
  have hl : ([] : List Value).length = ps.length := by rw [← r.length]; exact F.len _ _ _ _ q
  have bd := b s [] I.kIn (by rw [List.append_nil]; exact hl)
  rw [List.append_nil] at bd
  refine wpAny_call (codeAny_mono (F.run X.A X.stack s H ⟨[], []⟩ [] [] Q E0 hG (hr.mono hk) I.env0 bd r q) fun rr s' hq => ?_)
  match rr, hq with
  | .error _, hq => exact hq.elim
  | .ok (.ret u), hq => exact I.after hq
  | .ok .next, hq => exact hq.elim
  | .ok .brk, hq => exact hq.elim
  | .ok .cont, hq => exact hq.elim
end Uv

namespace Uv
open PySem PySem.Spec PyProof.Rows L2
open Evl (Ex)
variable [kk : KK]
/-! ### a deck unpacked, and written by the names of what was in it -/
def vA (ρ : Env) (r : List PD) : VE := (vw ρ).set 4 (some (.list r))
structure AlsD (σ : L2.St) (H : Hp) : Prop where
  ex : ∃ a vs c, σ[0]? = some (some (.ref a)) ∧ H a = some (.lst vs) ∧ vs[2]? = some (.ref c) ∧ σ[4]? = some (some (.ref c))
section
variable {pn : Option V} {F : Hs} {T : Trs} {H H' : Hp} {σ : L2.St} {ρ : Env}
theorem AlsD.mv (e : Ex H H') (h : AlsD σ H) : AlsD σ H' := by
  obtain ⟨a, vs, c, h1, h2, h4, h6⟩ := h.ex
  exact ⟨a, vs, c, h1, e _ _ h2, h4, h6⟩
theorem AlsD.set {i : Nat} {o : Option V} (h : AlsD σ H) (h0 : i ≠ 0) (h4' : i ≠ 4) : AlsD (σ.set i o) H := by
  obtain ⟨a, vs, c, h1, h2, h4, h6⟩ := h.ex
  exact ⟨a, vs, c, by rw [List.getElem?_set_ne h0]; exact h1, h2, h4, by rw [List.getElem?_set_ne h4']; exact h6⟩
theorem StOk.subs (st : StOk pn F T H σ ρ) {i n : Nat} {cs : List Cel} {ds : List PD} (hi : ρ[i]? = some (.own cs)) (hn : cs[n]? = some (.sub ds)) : ∃ a vs b, σ[i]? = some (some (.ref a)) ∧ H a = some (.lst vs) ∧ vs[n]? = some (.ref b) ∧ Rp (hid F H) (.ref b) (.list ds) := by
  obtain ⟨a, vs, b, ws, g1, g2, g3, g4, g5, g6, f⟩ := st.writeSub (ds' := ds) hi hn
  refine ⟨a, vs, b, g1, g2, g3, ?_⟩
  have v1 : (Uv.vw ρ)[i]? = some (some (PyData.list (cs.map Cel.pd))) := by
    unfold Uv.vw
    rw [List.getElem?_map, hi]
    rfl
  obtain ⟨v, e1, r⟩ := st.vw.2 i _ v1
  rw [g1] at e1
  cases e1
  cases r with
  | lst h ra =>
    have h := hid_le _ _ h
    rw [g2] at h
    cases h
    obtain ⟨u, hu, ru⟩ := ra.get (i := n) (by rw [List.getElem?_map, hn]; rfl)
    rw [g3] at hu
    cases hu
    exact ru
theorem AlsD.en (st : StOk pn F T H σ ρ) (al : AlsD σ H) {r : List PD} {cs : List Cel} (hi : ρ[0]? = some (.own cs)) (h2 : cs[2]? = some (.sub r)) : En (hid F H) σ (vA ρ r) := by
  obtain ⟨a, vs, d, g1, g2, g4, g6⟩ := al.ex
  obtain ⟨a2, vs2, b2, j1, j2, j3, j4⟩ := st.subs hi h2
  rw [g1] at j1
  cases j1
  rw [g2] at j2
  cases j2
  rw [g4] at j3
  cases j3
  refine ⟨by unfold vA; simpa using st.vw.1, fun i x hx => ?_⟩
  unfold vA at hx
  by_cases c4 : i = 4
  · subst c4
    by_cases l : 4 < (Uv.vw ρ).length
    · rw [List.getElem?_set_self l] at hx
      cases hx
      exact ⟨_, g6, j4⟩
    · rw [List.getElem?_eq_none (by simp; omega)] at hx
      cases hx
  · rw [List.getElem?_set_ne (fun z => c4 z.symm)] at hx
    exact st.vw.2 i x hx
end

def iAt (x : XE) (v : VE) : Option Int := (x v).bind isI
theorem iAt_eq {x : XE} {v : VE} {i : Int} (h : iAt x v = some i) : x v = some (.int i) := by
  obtain ⟨d, h1, h2⟩ := bind_some h
  rw [h1, isI_eq h2]
def dkC (c : PD) (r : List PD) (n b : Int) : List Cel := [.dat c, .dat (.int n), .sub r, .dat (.int b)]
def eD (c : PD) (r : List PD) (n b : Int) (m : PD) (t0 b0 : Int) (z6 z7 : Sl) : Env := [.own (dkC c r n b), .dat m, .dat c, .dat (.int t0), .un, .dat (.int b0), z6, z7]
/-- a deck of four: two lists, two numbers -/
def sDraw (xs xt : XE) (xc : XT) (xd xv xb xf : XE) : XS
  | [.own [.dat c, .dat (.int n), .sub r, .dat (.int b)], .dat m, .un, .un, .un, .un, .un, .un] =>
    (iAt xs (vA (eD c r n b m n b .un .un) r)).bind fun s =>
    (iAt xt (vA (eD c r n b m n b (.dat (.int s)) .un) r)).bind fun t1 =>
    (xc (vA (eD c r t1 b m n b (.dat (.int s)) .un) r)).bind fun k =>
    if k = true then
      (iAt xd (vA (eD c r t1 b m n b (.dat (.int s)) .un) r)).bind fun d =>
      (iAt xv (vA (eD c r t1 b m n b (.dat (.int s)) (.dat (.int d))) r)).bind fun v =>
      (ixN r.length s).bind fun j => some (.ret (.int d) (eD c (r.set j (.int v)) t1 b m n b (.dat (.int s)) (.dat (.int d))))
    else
      (iAt xb (vA (eD c r t1 b m n b (.dat (.int s)) .un) r)).bind fun v =>
      (iAt xf (vA (eD c r t1 v m n b (.dat (.int s)) .un) r)).bind fun z => some (.ret (.int z) (eD c r t1 v m n b (.dat (.int s)) .un))
  | _ => none
section
variable {pn : Option V} {F : Hs} {T : Trs} {H H' : Hp} {σ : L2.St} {c : PD} {r : List PD} {n b t0 b0 : Int} {m : PD} {z6 z7 : Sl}
/-- a number read, with the names of what is in the deck -/
theorem numA {te : TE} {x : XE} {i : Int} (h : SE te x) (st : StOk pn F T H σ (eD c r n b m t0 b0 z6 z7)) (al : AlsD σ H) (e : iAt x (vA (eD c r n b m t0 b0 z6 z7) r) = some i) (Q : VK) (q : ∀ H', StOk pn F T H' σ (eD c r n b m t0 b0 z6 z7) → Stp F T H T H' → AlsD σ H' → Q (.int i) H') : te σ H Q := by
  refine h _ _ (iAt_eq e) F σ H st.al (al.en st rfl rfl) Q fun v H2 e2 rv => ?_
  cases rv
  exact q H2 (st.ex e2) (Stp.ex st.al e2) (al.mv e2)
theorem putA (st : StOk pn F T H σ (eD c r n b m t0 b0 z6 z7)) {k : Nat} {v : Int} {n' b' : Int} (al : AlsD σ H) (hk : (k = 1 ∧ n' = v ∧ b' = b) ∨ (k = 3 ∧ n' = n ∧ b' = v)) (Q : L2.St → Hp → Prop) (q : ∀ H', StOk pn F T H' σ (eD c r n' b' m t0 b0 z6 z7) → Stp F T H T H' → AlsD σ H' → Q σ H') : gSub (tVar 0) (tC (.int (k : Int))) rSetL (.int v) σ H Q := by
  obtain ⟨a, vs, B, ha, hv, hc, hT⟩ := st.at_own (show (eD c r n b m t0 b0 z6 z7)[0]? = some (.own (dkC c r n b)) from rfl)
  have lv : vs.length = 4 := hc.length
  have hn : ixN vs.length (k : Int) = some k := by
    rw [lv]
    rcases hk with ⟨rfl, _⟩ | ⟨rfl, _⟩ <;> rfl
  have cd : ∃ d0, (dkC c r n b)[k]? = some (.dat d0) := by
    rcases hk with ⟨rfl, _⟩ | ⟨rfl, _⟩ <;> exact ⟨_, rfl⟩
  obtain ⟨d0, cd⟩ := cd
  obtain ⟨st2, s2⟩ := st.write (show (eD c r n b m t0 b0 z6 z7)[0]? = some (.own (dkC c r n b)) from rfl) hT ha (hc.set k cd (.int v))
  refine ⟨.ref a, ha, a, vs, k, k, rfl, rfl, hv, hn, q _ ?_ s2 ?_⟩
  · have : (eD c r n b m t0 b0 z6 z7).set 0 (.own ((dkC c r n b).set k (.dat (.int v)))) = eD c r n' b' m t0 b0 z6 z7 := by
      rcases hk with ⟨rfl, rfl, rfl⟩ | ⟨rfl, rfl, rfl⟩ <;> rfl
    rw [← this]
    exact st2
  · obtain ⟨a', vs', c1, h1, h2, h4, h6⟩ := al.ex
    rw [ha] at h1
    cases h1
    rw [hv] at h2
    cases h2
    refine ⟨a, vs.set k (.int v), c1, ha, upd_same, ?_, h6⟩
    rw [List.getElem?_set_ne (by rcases hk with ⟨rfl, _⟩ | ⟨rfl, _⟩ <;> omega)]; exact h4
theorem ss_draw {ts tt td tv tb tf : TE} {tc : TT} {xs xt xd xv xb xf : XE} {xc : XT} (hs : SE ts xs) (ht : SE tt xt) (hc : ST tc xc) (hd : SE td xd) (hv : SE tv xv) (hb : SE tb xb) (hf : SE tf xf) :
    SS (tSeq (tAsg (tVar 0) (gTU K 4 (gCons (gName 2) (gCons (gName 3) (gCons (gName 4) (gCons (gName 5) gNil)))))) (tSeq (tAsg ts (gName 6)) (tSeq (tAsg tt (gSub (tVar 0) (tC (.int 1)) rSetL)) (tSeq (tIfS tc (tSeq (tAsg td (gName 7)) (tSeq (tAsg tv (gSub (tVar 4) (tVar 6) rSetL)) (tRet (tVar 7)))) tNext) (tSeq (tAsg tb (gSub (tVar 0) (tC (.int 3)) rSetL)) (tRet tf)))))) (sDraw xs xt xc xd xv xb xf) := fun pn F T H σ ρ o D st e q => by
  unfold sDraw at e
  split at e
  · rename_i c n r b m
    obtain ⟨s, e1, e⟩ := bind_some e
    obtain ⟨t1, e2, e⟩ := bind_some e
    obtain ⟨k, e3, e⟩ := bind_some e
    have h0 : ([Sl.own [.dat c, .dat (.int n), .sub r, .dat (.int b)], .dat m, .un, .un, .un, .un, .un, .un] : Env)[0]? = some (.own [.dat c, .dat (.int n), .sub r, .dat (.int b)]) := rfl
    obtain ⟨a, vs, B, ha, hv', hcs, hT⟩ := st.at_own h0
    have sl : σ.length = 8 := st.len
    obtain ⟨b0, b2, rfl, rc⟩ : ∃ b0 b2, vs = [b0, .int n, .ref b2, .int b] ∧ Rp (hid (SF F T) H) b0 c := by
      cases hcs with
      | dat g1 hcs => cases hcs with
        | dat g3 hcs => cases g3; cases hcs with
          | sub g4 g5 hcs => cases hcs with
            | dat g6 hcs => cases g6; cases hcs; exact ⟨_, _, rfl, g1⟩
    obtain ⟨st1, s1⟩ := st.set (i := 2) (by decide) rc
    obtain ⟨st2, s2⟩ := st1.set (i := 3) (by decide) (.int n)
    obtain ⟨st3, s3⟩ := st2.drop (i := 4) (o := some (.ref b2)) (s := .un) (by decide) rfl
    obtain ⟨st4, s4⟩ := st3.set (i := 5) (by decide) (.int b)
    obtain ⟨T4, hT4⟩ : ∃ T4, T4 = setT (setT (setT (setT T 2 []) 3 []) 4 []) 5 [] := ⟨_, rfl⟩
    obtain ⟨σ4, hσ4⟩ : ∃ σ4, σ4 = (((σ.set 2 (some b0)).set 3 (some (.int n))).set 4 (some (.ref b2))).set 5 (some (.int b)) := ⟨_, rfl⟩
    rw [← hT4, ← hσ4] at st4
    have sA : Stp F T H T4 H := by rw [hT4]; exact ((s1.trans s2).trans s3).trans s4
    have st4 : StOk pn F T4 H σ4 (eD c r n b m n b .un .un) := st4
    have al4 : AlsD σ4 H := ⟨a, _, b2, by rw [hσ4]; simpa [List.getElem?_set] using ha, hv', rfl, by rw [hσ4]; simp [List.getElem?_set, sl]⟩
    refine ⟨.ref a, ha, .inr ⟨a, _, rfl, .inl (.inl hv'), rfl, _, _, rfl, _, _, rfl, _, _, rfl, _, _, rfl, rfl, ?_⟩⟩
    show tSeq _ _ D ((((σ.set 2 (some b0)).set 3 (some (.int n))).set 4 (some (.ref b2))).set 5 (some (.int b))) H
    rw [← hσ4]
    refine numA hs st4 al4 e1 _ fun H5 st5 s5 al5 => ?_
    obtain ⟨st6, s6⟩ := st5.set (i := 6) (by decide) (.int s)
    have st6 : StOk pn F (setT T4 6 []) H5 (σ4.set 6 (some (.int s))) (eD c r n b m n b (.dat (.int s)) .un) := st6
    have al6 := al5.set (i := 6) (o := some (.int s)) (by decide) (by decide)
    have sB := (sA.trans s5).trans s6
    refine numA ht st6 al6 e2 _ fun H7 st7 s7 al7 => ?_
    refine putA (k := 1) (n' := t1) (b' := b) st7 al7 (.inl ⟨rfl, rfl, rfl⟩) _ fun H8 st8 s8 al8 => ?_
    have sC := (sB.trans s7).trans s8
    refine hc _ _ e3 F _ H8 st8.al (al8.en st8 rfl rfl) _ fun H9 ex9 => ?_
    have st9 := st8.ex ex9
    have al9 := al8.mv ex9
    have sD := sC.trans (Stp.ex st8.al ex9)
    cases k with
    | true =>
      rw [if_pos rfl] at e ⊢
      obtain ⟨d, e4, e⟩ := bind_some e
      obtain ⟨v, e5, e⟩ := bind_some e
      obtain ⟨j, e6, e⟩ := bind_some e
      cases e
      refine numA hd st9 al9 e4 _ fun H10 st10 s10 al10 => ?_
      obtain ⟨st11, s11⟩ := st10.set (i := 7) (by decide) (.int d)
      have st11 : StOk pn F (setT (setT T4 6 []) 7 []) H10 ((σ4.set 6 (some (.int s))).set 7 (some (.int d))) (eD c r t1 b m n b (.dat (.int s)) (.dat (.int d))) := st11
      have al11 := al10.set (i := 7) (o := some (.int d)) (by decide) (by decide)
      refine numA hv st11 al11 e5 _ fun H12 st12 s12 al12 => ?_
      have sl4 : σ4.length = 8 := by rw [hσ4]; simpa using sl
      obtain ⟨a', vs', c1, k1, k2, k4, k6⟩ := al12.ex
      obtain ⟨a2, vs2, bb, ws, g1, g2, g3, g4, g5, g6, f⟩ := st12.writeSub (ds' := r.set j (.int v)) (i := 0) (n := 2) (cs := dkC c r t1 b) (ds := r) rfl rfl
      rw [k1] at g1
      cases g1
      rw [k2] at g2
      cases g2
      rw [k4] at g3
      cases g3
      obtain ⟨st13, s13⟩ := f (ws.set j (.int v)) (r.set j (.int v)) (g6.set j (.int v))
      refine ⟨_, k6, .int s, by simp [List.getElem?_set, sl4], _, ws, s, j, rfl, rfl, g5, by rw [g6.length]; exact e6, ?_⟩
      refine ⟨.int d, by simp [List.getElem?_set, sl4], ?_⟩
      exact q _ _ _ _ st13 ((((sD.trans s10).trans s11).trans s12).trans s13) (.int d)
    | false =>
      rw [if_neg Bool.false_ne_true] at e ⊢
      obtain ⟨v, e4, e⟩ := bind_some e
      obtain ⟨z, e5, e⟩ := bind_some e
      cases e
      refine numA hb st9 al9 e4 _ fun H10 st10 s10 al10 => ?_
      refine putA (k := 3) (n' := t1) (b' := v) st10 al10 (.inr ⟨rfl, rfl, rfl⟩) _ fun H11 st11 s11 al11 => ?_
      refine numA hf st11 al11 e5 _ fun H12 st12 s12 al12 => ?_
      exact q _ _ _ _ st12 (((sD.trans s10).trans s11).trans s12) (.int z)
  · cases e
end
end Uv

namespace Uv
open PySem PySem.Spec PyProof.Rows L2
open Evl (Ex)
/-! ### str of a number, a truth, a text -/
def rStr1 : List V → Hp → VK → Prop := fun vs H Q => (∃ i, vs = [.int i] ∧ i.natAbs.log2 < 1920 ∧ Q (.str (toString i)) H) ∨ (∃ b : Bool, vs = [.bl b] ∧ Q (.str (if b then "True" else "False")) H) ∨ ∃ x, vs = [.str x] ∧ Q (.str x) H
theorem cr_str1 {X : Cx} : CallR X (.type "str") rStr1 := by
  intro pins s σ H xs us Q I r h
  rcases h with ⟨i, rfl, hz, q⟩ | ⟨b, rfl, q⟩ | ⟨x, rfl, q⟩
  · obtain ⟨u, rfl, t, rfl⟩ := vals1 r
    exact PySem.P.str_of_int hz ⟨.str _, H, I.tok _, ⟨_, rfl⟩, q⟩
  · obtain ⟨u, rfl, r1⟩ := vals1 r
    cases r1
    exact PySem.P.str_of_bool ⟨.str _, H, I.tok _, ⟨_, rfl⟩, q⟩
  · obtain ⟨u, rfl, t, rfl⟩ := vals1 r
    exact PySem.P.str_of_str ⟨.str x, H, I, ⟨t, rfl⟩, q⟩
def strP : PD → Option PD
  | .int i => if i.natAbs.log2 < 1920 then some (.str (toString i)) else none
  | .bool b => some (.str (if b then "True" else "False"))
  | .str x => some (.str x)
  | _ => none
variable [kk : KK]
theorem sc_str1 : SC rStr1 (on1 strP) := sc_on1 fun x z h S H v al rv Q q => by
  cases rv with
  | int i =>
    have h : (if i.natAbs.log2 < 1920 then some (PyData.str (toString i)) else none) = some z := h
    by_cases c : i.natAbs.log2 < 1920
    · rw [if_pos c] at h
      cases h
      exact .inl ⟨i, rfl, c, q _ H (Ex.refl H) (.str _)⟩
    · rw [if_neg c] at h; cases h
  | bl b => cases h; exact .inr (.inl ⟨b, rfl, q _ H (Ex.refl H) (.str _)⟩)
  | str x => cases h; exact .inr (.inr ⟨x, rfl, q _ H (Ex.refl H) (.str _)⟩)
  | _ => cases h
end Uv

namespace Uv
open PySem PySem.Spec PyProof.Rows L2
open Evl (Ex)
variable [kk : KK]
/-! ### slices whose parts draw -/
theorem slR {S : Hs} {H : Hp} {v : V} {x d : PD} {l u : Option Int} {Q : VK} (al : Al S H) (rv : Rp (hid S H) v x) (h : slP x l u = some d) (q : ∀ w H2, Ex H H2 → Rp (hid S H2) w d → Q w H2) : rSlU K v l u H Q := by
  cases rv with
  | lst ha3 ra3 =>
    cases h
    exact .inl ⟨_, _, rfl, .inl (.inl (hid_le _ _ ha3)), fun p hp => q _ _ (Ex.new hp) (.lst (new_ok al hp) ((ra3.cut l u).ex (hid_ex (Ex.new hp))))⟩
  | @tup a o xs ds ha3 pl ra3 =>
    cases h
    refine .inr ⟨_, _, rfl, .inl (.inr ⟨_, hid_le _ _ ha3⟩), fun c => ?_, fun _ p o hp pl => q _ _ (Ex.new hp) (.tup (new_ok al hp) pl ((ra3.cut l u).ex (hid_ex (Ex.new hp))))⟩
    have e : cutD ds l u = ds := by
      unfold cutD
      rw [ra3.length] at c
      rw [c.1, c.2, List.drop_zero, Nat.sub_zero, List.take_length]
    exact q _ H (Ex.refl H) (by rw [e]; exact .tup ha3 pl ra3)
  | scr hs ra3 =>
    cases h
    exact .inl ⟨_, _, rfl, sqx hid_le hs, fun p hp => q _ _ (Ex.new hp) (.lst (new_ok al hp) ((ra3.cut l u).ex (hid_ex (Ex.new hp))))⟩
  | dct _ _ hp _ => rcases zip_str hp with e | ⟨k, d, r, e⟩ <;> (subst e; cases h)
  | _ => cases h
abbrev XWP := Env → Option (Option Int × Env)
def SWP (tl : TO) (w : XWP) : Prop := ∀ pn F T H σ ρ o ρ', StOk pn F T H σ ρ → w ρ = some (o, ρ') → ∀ Q : Option Int → Hp → Prop, (∀ T' H', StOk pn F T' H' σ ρ' → Stp F T H T' H' → Q o H') → tl σ H Q
def wpNo : XWP := fun ρ => some (none, ρ)
def wpPt (w : XW) : XWP := fun ρ => (w ρ).bind fun x => (isI x.1).bind fun i => some (some i, x.2)
theorem swp_no : SWP tNoPart wpNo := fun pn F T H σ ρ o ρ' st e Q q => by cases e; exact q T H st Stp.refl
theorem swp_pt {te : TE} {w : XW} (h : SW te w) : SWP (tPart te) (wpPt w) := fun pn F T H σ ρ o ρ' st e Q q => by
  obtain ⟨⟨d, ρ1⟩, h1, e⟩ := bind_some e
  obtain ⟨i, h2, e⟩ := bind_some e
  cases e
  have ed : d = _ := isI_eq h2
  subst ed
  refine h pn F T H σ ρ _ _ st h1 _ fun v T1 H1 st1 s1 rv => ?_
  cases rv
  exact ⟨i, rfl, q T1 H1 st1 s1⟩
def wSl (a : XW) (lo hi : XWP) : XW := fun ρ => (a ρ).bind fun x => (lo x.2).bind fun l => (hi l.2).bind fun u => (slP x.1 l.1 u.1).bind fun d => some (d, u.2)
theorem sw_sl {ta : TE} {tl th : TO} {a : XW} {lo hi : XWP} (ha : SW ta a) (hl : SWP tl lo) (hh : SWP th hi) : SW (tSl (rSlU K) ta tl th) (wSl a lo hi) := fun pn F T H σ ρ d ρ' st e Q q => by
  obtain ⟨⟨x, ρ1⟩, h1, e⟩ := bind_some e
  obtain ⟨⟨l, ρ2⟩, h2, e⟩ := bind_some e
  obtain ⟨⟨u, ρ3⟩, h3, e⟩ := bind_some e
  obtain ⟨d', h4, e⟩ := bind_some e
  cases e
  refine ha pn F T H σ ρ x ρ1 st h1 _ fun v T1 H1 st1 s1 rv => hl pn F T1 H1 σ ρ1 l ρ2 st1 h2 _ fun T2 H2 st2 s2 => hh pn F T2 H2 σ ρ2 u _ st2 h3 _ fun T3 H3 st3 s3 => ?_
  exact slR st3.als (rv.ex (s2.trans s3).vis) h4 fun w H4 e4 rw' => q w T3 H4 (st3.ex e4) (((s1.trans s2).trans s3).trans (Stp.ex st3.al e4)) rw'
end Uv

namespace Uv
open PySem PySem.Spec PyProof.Rows L2
/-! ### what holds behind a partial value -/
/-- a thing that simp doesn't go into -/
def Tag {α : Type} (x : α) : Type := Unit
def tag {α : Type} (x : α) : Tag x := ()
def wp {α : Type} (o : Option α) {Q : α → Prop} (_ : Tag Q) : Prop := ∃ a, o = some a ∧ Q a
@[simp] theorem wp_some {α : Type} {a : α} {Q : α → Prop} : wp (some a) (tag Q) = Q a := propext ⟨fun ⟨b, e, q⟩ => by cases e; exact q, fun q => ⟨a, rfl, q⟩⟩
@[simp] theorem wp_none {α : Type} {Q : α → Prop} : wp none (tag Q) = False := propext ⟨fun ⟨b, e, q⟩ => (nomatch e), fun q => q.elim⟩
@[simp] theorem wp_bind {α β : Type} {o : Option α} {f : α → Option β} {Q : β → Prop} : wp (o.bind f) (tag Q) = wp o (tag fun a => wp (f a) (tag Q)) := propext (by
  cases o with
  | none => simp
  | some a => simp)
theorem wp_mono {α : Type} {o : Option α} {Q R : α → Prop} (h : wp o (tag Q)) (hq : ∀ a, Q a → R a) : wp o (tag R) := let ⟨a, e, q⟩ := h; ⟨a, e, hq a q⟩
theorem wp_eq {α : Type} {o : Option α} {a : α} : wp o (tag fun x => x = a) ↔ o = some a := ⟨fun ⟨b, e, q⟩ => by rw [e, q], fun e => ⟨a, e, rfl⟩⟩
theorem wp_of {α : Type} {o : Option α} {a : α} {Q : α → Prop} (e : o = some a) (q : Q a) : wp o (tag Q) := ⟨a, e, q⟩
/-- one of two, by a truth; only the truth is looked into -/
def alt {α : Type} (b : Bool) {x y : Option α} (_ : Tag x) (_ : Tag y) : Option α := if b = true then x else y
@[simp] theorem alt_t {α : Type} {x y : Option α} : alt true (tag x) (tag y) = x := (rfl)
@[simp] theorem alt_f {α : Type} {x y : Option α} : alt false (tag x) (tag y) = y := (rfl)
theorem wp_alt {α : Type} {b : Bool} {x y : Option α} {Q : α → Prop} (h1 : b = true → wp x (tag Q)) (h2 : b = false → wp y (tag Q)) : wp (alt b (tag x) (tag y)) (tag Q) := by cases b; exact h2 rfl; exact h1 rfl
theorem wp_altd {α : Type} {c : Prop} [Decidable c] {x y : Option α} {Q : α → Prop} (h1 : c → wp x (tag Q)) (h2 : ¬ c → wp y (tag Q)) : wp (alt (decide c) (tag x) (tag y)) (tag Q) := wp_alt (fun h => h1 (of_decide_eq_true h)) (fun h => h2 (of_decide_eq_false h))
def orO (b : Bool) (x : Option Bool) : Option Bool := if b = true then some true else x
def andO (b : Bool) (x : Option Bool) : Option Bool := if b = true then x else some false
def orV (b : Bool) (x : Option PD) : Option PD := if b = true then some (.bool true) else x
def andV (b : Bool) (x : Option PD) : Option PD := if b = true then x else some (.bool false)
@[simp] theorem orO_s {b c : Bool} : orO b (some c) = some (b || c) := by cases b <;> rfl
@[simp] theorem andO_s {b c : Bool} : andO b (some c) = some (b && c) := by cases b <;> rfl
@[simp] theorem orV_s {b c : Bool} : orV b (some (.bool c)) = some (.bool (b || c)) := by cases b <;> rfl
@[simp] theorem andV_s {b c : Bool} : andV b (some (.bool c)) = some (.bool (b && c)) := by cases b <;> rfl
@[simp] theorem orO_t {x : Option Bool} : orO true x = some true := (rfl)
@[simp] theorem orO_f {x : Option Bool} : orO false x = x := (rfl)
@[simp] theorem andO_t {x : Option Bool} : andO true x = x := (rfl)
@[simp] theorem andO_f {x : Option Bool} : andO false x = some false := (rfl)
@[simp] theorem orV_t {x : Option PD} : orV true x = some (.bool true) := (rfl)
@[simp] theorem orV_f {x : Option PD} : orV false x = x := (rfl)
@[simp] theorem andV_t {x : Option PD} : andV true x = x := (rfl)
@[simp] theorem andV_f {x : Option PD} : andV false x = some (.bool false) := (rfl)
theorem wp_orO {b : Bool} {x : Option Bool} {Q : Bool → Prop} (h1 : b = true → Q true) (h2 : b = false → wp x (tag Q)) : wp (orO b x) (tag Q) := by cases b; exact h2 rfl; simpa using h1 rfl
theorem wp_andO {b : Bool} {x : Option Bool} {Q : Bool → Prop} (h1 : b = true → wp x (tag Q)) (h2 : b = false → Q false) : wp (andO b x) (tag Q) := by cases b; simpa using h2 rfl; exact h1 rfl
theorem wp_orV {b : Bool} {x : Option PD} {Q : PD → Prop} (h1 : b = true → Q (.bool true)) (h2 : b = false → wp x (tag Q)) : wp (orV b x) (tag Q) := by cases b; exact h2 rfl; simpa using h1 rfl
theorem wp_andV {b : Bool} {x : Option PD} {Q : PD → Prop} (h1 : b = true → wp x (tag Q)) (h2 : b = false → Q (.bool false)) : wp (andV b x) (tag Q) := by cases b; simpa using h2 rfl; exact h1 rfl
/-- only where something holds -/
noncomputable def grd {α : Type} (c : Prop) (x : Option α) : Option α := open Classical in if c then x else none
theorem grd_ite {α : Type} {c : Prop} [Decidable c] {x : Option α} : (if c then x else none) = grd c x := by
  unfold grd
  by_cases h : c
  · rw [if_pos h, if_pos h]
  · rw [if_neg h, if_neg h]
theorem grd_pos {α : Type} {c : Prop} {x : Option α} (h : c) : grd c x = x := if_pos h
theorem grd_iff {α : Type} {c c' : Prop} {x : Option α} (h : c ↔ c') : grd c x = grd c' x := by rw [propext h]
@[simp] theorem grd_true {α : Type} {x : Option α} : grd True x = x := grd_pos trivial
@[simp] theorem wp_grd {α : Type} {c : Prop} {x : Option α} {Q : α → Prop} : wp (grd c x) (tag Q) = (c ∧ wp x (tag Q)) := by
  by_cases h : c
  · rw [grd_pos h]; simp [h]
  · unfold grd; rw [if_neg h]; simp [h]
@[simp] theorem bind_some' {α β : Type} {x : α} {f : α → Option β} : (some x).bind f = f x := (rfl)
def seqK (y : XS) : Out → Option Out
  | .nxt ρ => y ρ
  | o => some o
@[simp] theorem q_sSeq {x y : XS} {ρ : Env} : sSeq x y ρ = (x ρ).bind (seqK y) := by
  unfold sSeq
  congr 1
@[simp] theorem seqK_nxt {y : XS} {ρ : Env} : seqK y (.nxt ρ) = y ρ := (rfl)
@[simp] theorem seqK_ret {y : XS} {d : PD} {ρ : Env} : seqK y (.ret d ρ) = some (.ret d ρ) := (rfl)
@[simp] theorem seqK_retO {y : XS} {d : List Cel} {ρ : Env} : seqK y (.retO d ρ) = some (.retO d ρ) := (rfl)
@[simp] theorem seqK_brk {y : XS} {ρ : Env} : seqK y (.brk ρ) = some (.brk ρ) := (rfl)
@[simp] theorem seqK_cnt {y : XS} {ρ : Env} : seqK y (.cnt ρ) = some (.cnt ρ) := (rfl)

/-! ### numbers within bounds; not looked into -/
structure In62 (j : Int) : Prop where
  lo : -(2 ^ 62) ≤ j
  hi : j < 2 ^ 62
structure In63 (j : Int) : Prop where
  lo : -(2 ^ 63) < j
  hi : j < 2 ^ 63
structure In63e (j : Int) : Prop where
  lo : -(2 ^ 63) ≤ j
  hi : j < 2 ^ 63
theorem in63e_nat {n : Nat} (h : n < 1000000000000) : In63e (n : Int) := ⟨by omega, by omega⟩
structure In64 (j : Int) : Prop where
  lo : -(2 ^ 64) < j
  hi : j < 2 ^ 64
theorem in62_nat {n : Nat} (h : n < 1000000000000) : In62 (n : Int) := ⟨by omega, by omega⟩
theorem in63_nat {n : Nat} (h : n < 1000000000000) : In63 (n : Int) := ⟨by omega, by omega⟩
theorem in64_nat {n : Nat} (h : n < 1000000000000) : In64 (n : Int) := ⟨by omega, by omega⟩
/-- a divisor -/
structure Dvr (j : Int) : Prop where
  lo : 0 < j
  hi : j < 2 ^ 64
@[simp] theorem in62_l0 : In62 0 = True := eq_true ⟨by decide, by decide⟩
@[simp] theorem in63_l0 : In63 0 = True := eq_true ⟨by decide, by decide⟩
@[simp] theorem in63e_l0 : In63e 0 = True := eq_true ⟨by decide, by decide⟩
@[simp] theorem in64_l0 : In64 0 = True := eq_true ⟨by decide, by decide⟩
@[simp] theorem in62_l1 : In62 1 = True := eq_true ⟨by decide, by decide⟩
@[simp] theorem in63_l1 : In63 1 = True := eq_true ⟨by decide, by decide⟩
@[simp] theorem in63e_l1 : In63e 1 = True := eq_true ⟨by decide, by decide⟩
@[simp] theorem in64_l1 : In64 1 = True := eq_true ⟨by decide, by decide⟩
@[simp] theorem dvr_l1 : Dvr 1 = True := eq_true ⟨by decide, by decide⟩
@[simp] theorem in62_l2 : In62 2 = True := eq_true ⟨by decide, by decide⟩
@[simp] theorem in63_l2 : In63 2 = True := eq_true ⟨by decide, by decide⟩
@[simp] theorem in63e_l2 : In63e 2 = True := eq_true ⟨by decide, by decide⟩
@[simp] theorem in64_l2 : In64 2 = True := eq_true ⟨by decide, by decide⟩
@[simp] theorem dvr_l2 : Dvr 2 = True := eq_true ⟨by decide, by decide⟩
@[simp] theorem in62_l3 : In62 3 = True := eq_true ⟨by decide, by decide⟩
@[simp] theorem in63_l3 : In63 3 = True := eq_true ⟨by decide, by decide⟩
@[simp] theorem in63e_l3 : In63e 3 = True := eq_true ⟨by decide, by decide⟩
@[simp] theorem in64_l3 : In64 3 = True := eq_true ⟨by decide, by decide⟩
@[simp] theorem dvr_l3 : Dvr 3 = True := eq_true ⟨by decide, by decide⟩
@[simp] theorem in62_l4 : In62 4 = True := eq_true ⟨by decide, by decide⟩
@[simp] theorem in63_l4 : In63 4 = True := eq_true ⟨by decide, by decide⟩
@[simp] theorem in63e_l4 : In63e 4 = True := eq_true ⟨by decide, by decide⟩
@[simp] theorem in64_l4 : In64 4 = True := eq_true ⟨by decide, by decide⟩
@[simp] theorem dvr_l4 : Dvr 4 = True := eq_true ⟨by decide, by decide⟩
@[simp] theorem in62_l5 : In62 5 = True := eq_true ⟨by decide, by decide⟩
@[simp] theorem in63_l5 : In63 5 = True := eq_true ⟨by decide, by decide⟩
@[simp] theorem in63e_l5 : In63e 5 = True := eq_true ⟨by decide, by decide⟩
@[simp] theorem in64_l5 : In64 5 = True := eq_true ⟨by decide, by decide⟩
@[simp] theorem dvr_l5 : Dvr 5 = True := eq_true ⟨by decide, by decide⟩
@[simp] theorem in62_l6 : In62 6 = True := eq_true ⟨by decide, by decide⟩
@[simp] theorem in63_l6 : In63 6 = True := eq_true ⟨by decide, by decide⟩
@[simp] theorem in63e_l6 : In63e 6 = True := eq_true ⟨by decide, by decide⟩
@[simp] theorem in64_l6 : In64 6 = True := eq_true ⟨by decide, by decide⟩
@[simp] theorem dvr_l6 : Dvr 6 = True := eq_true ⟨by decide, by decide⟩
@[simp] theorem in62_l7 : In62 7 = True := eq_true ⟨by decide, by decide⟩
@[simp] theorem in63_l7 : In63 7 = True := eq_true ⟨by decide, by decide⟩
@[simp] theorem in63e_l7 : In63e 7 = True := eq_true ⟨by decide, by decide⟩
@[simp] theorem in64_l7 : In64 7 = True := eq_true ⟨by decide, by decide⟩
@[simp] theorem dvr_l7 : Dvr 7 = True := eq_true ⟨by decide, by decide⟩
@[simp] theorem in62_l8 : In62 8 = True := eq_true ⟨by decide, by decide⟩
@[simp] theorem in63_l8 : In63 8 = True := eq_true ⟨by decide, by decide⟩
@[simp] theorem in63e_l8 : In63e 8 = True := eq_true ⟨by decide, by decide⟩
@[simp] theorem in64_l8 : In64 8 = True := eq_true ⟨by decide, by decide⟩
@[simp] theorem dvr_l8 : Dvr 8 = True := eq_true ⟨by decide, by decide⟩
@[simp] theorem in62_l9 : In62 9 = True := eq_true ⟨by decide, by decide⟩
@[simp] theorem in63_l9 : In63 9 = True := eq_true ⟨by decide, by decide⟩
@[simp] theorem in63e_l9 : In63e 9 = True := eq_true ⟨by decide, by decide⟩
@[simp] theorem in64_l9 : In64 9 = True := eq_true ⟨by decide, by decide⟩
@[simp] theorem dvr_l9 : Dvr 9 = True := eq_true ⟨by decide, by decide⟩
@[simp] theorem in62_l10 : In62 10 = True := eq_true ⟨by decide, by decide⟩
@[simp] theorem in63_l10 : In63 10 = True := eq_true ⟨by decide, by decide⟩
@[simp] theorem in63e_l10 : In63e 10 = True := eq_true ⟨by decide, by decide⟩
@[simp] theorem in64_l10 : In64 10 = True := eq_true ⟨by decide, by decide⟩
@[simp] theorem dvr_l10 : Dvr 10 = True := eq_true ⟨by decide, by decide⟩
@[simp] theorem in62_l11 : In62 11 = True := eq_true ⟨by decide, by decide⟩
@[simp] theorem in63_l11 : In63 11 = True := eq_true ⟨by decide, by decide⟩
@[simp] theorem in63e_l11 : In63e 11 = True := eq_true ⟨by decide, by decide⟩
@[simp] theorem in64_l11 : In64 11 = True := eq_true ⟨by decide, by decide⟩
@[simp] theorem dvr_l11 : Dvr 11 = True := eq_true ⟨by decide, by decide⟩
@[simp] theorem in62_l12 : In62 12 = True := eq_true ⟨by decide, by decide⟩
@[simp] theorem in63_l12 : In63 12 = True := eq_true ⟨by decide, by decide⟩
@[simp] theorem in63e_l12 : In63e 12 = True := eq_true ⟨by decide, by decide⟩
@[simp] theorem in64_l12 : In64 12 = True := eq_true ⟨by decide, by decide⟩
@[simp] theorem dvr_l12 : Dvr 12 = True := eq_true ⟨by decide, by decide⟩
@[simp] theorem in62_l13 : In62 13 = True := eq_true ⟨by decide, by decide⟩
@[simp] theorem in63_l13 : In63 13 = True := eq_true ⟨by decide, by decide⟩
@[simp] theorem in63e_l13 : In63e 13 = True := eq_true ⟨by decide, by decide⟩
@[simp] theorem in64_l13 : In64 13 = True := eq_true ⟨by decide, by decide⟩
@[simp] theorem dvr_l13 : Dvr 13 = True := eq_true ⟨by decide, by decide⟩
@[simp] theorem in62_l14 : In62 14 = True := eq_true ⟨by decide, by decide⟩
@[simp] theorem in63_l14 : In63 14 = True := eq_true ⟨by decide, by decide⟩
@[simp] theorem in63e_l14 : In63e 14 = True := eq_true ⟨by decide, by decide⟩
@[simp] theorem in64_l14 : In64 14 = True := eq_true ⟨by decide, by decide⟩
@[simp] theorem dvr_l14 : Dvr 14 = True := eq_true ⟨by decide, by decide⟩
@[simp] theorem in62_l15 : In62 15 = True := eq_true ⟨by decide, by decide⟩
@[simp] theorem in63_l15 : In63 15 = True := eq_true ⟨by decide, by decide⟩
@[simp] theorem in63e_l15 : In63e 15 = True := eq_true ⟨by decide, by decide⟩
@[simp] theorem in64_l15 : In64 15 = True := eq_true ⟨by decide, by decide⟩
@[simp] theorem dvr_l15 : Dvr 15 = True := eq_true ⟨by decide, by decide⟩
@[simp] theorem in62_l16 : In62 16 = True := eq_true ⟨by decide, by decide⟩
@[simp] theorem in63_l16 : In63 16 = True := eq_true ⟨by decide, by decide⟩
@[simp] theorem in63e_l16 : In63e 16 = True := eq_true ⟨by decide, by decide⟩
@[simp] theorem in64_l16 : In64 16 = True := eq_true ⟨by decide, by decide⟩
@[simp] theorem dvr_l16 : Dvr 16 = True := eq_true ⟨by decide, by decide⟩
@[simp] theorem in62_l17 : In62 17 = True := eq_true ⟨by decide, by decide⟩
@[simp] theorem in63_l17 : In63 17 = True := eq_true ⟨by decide, by decide⟩
@[simp] theorem in63e_l17 : In63e 17 = True := eq_true ⟨by decide, by decide⟩
@[simp] theorem in64_l17 : In64 17 = True := eq_true ⟨by decide, by decide⟩
@[simp] theorem dvr_l17 : Dvr 17 = True := eq_true ⟨by decide, by decide⟩
@[simp] theorem in62_l18 : In62 18 = True := eq_true ⟨by decide, by decide⟩
@[simp] theorem in63_l18 : In63 18 = True := eq_true ⟨by decide, by decide⟩
@[simp] theorem in63e_l18 : In63e 18 = True := eq_true ⟨by decide, by decide⟩
@[simp] theorem in64_l18 : In64 18 = True := eq_true ⟨by decide, by decide⟩
@[simp] theorem dvr_l18 : Dvr 18 = True := eq_true ⟨by decide, by decide⟩
@[simp] theorem in62_l19 : In62 19 = True := eq_true ⟨by decide, by decide⟩
@[simp] theorem in63_l19 : In63 19 = True := eq_true ⟨by decide, by decide⟩
@[simp] theorem in63e_l19 : In63e 19 = True := eq_true ⟨by decide, by decide⟩
@[simp] theorem in64_l19 : In64 19 = True := eq_true ⟨by decide, by decide⟩
@[simp] theorem dvr_l19 : Dvr 19 = True := eq_true ⟨by decide, by decide⟩
@[simp] theorem in62_l20 : In62 20 = True := eq_true ⟨by decide, by decide⟩
@[simp] theorem in63_l20 : In63 20 = True := eq_true ⟨by decide, by decide⟩
@[simp] theorem in63e_l20 : In63e 20 = True := eq_true ⟨by decide, by decide⟩
@[simp] theorem in64_l20 : In64 20 = True := eq_true ⟨by decide, by decide⟩
@[simp] theorem dvr_l20 : Dvr 20 = True := eq_true ⟨by decide, by decide⟩
@[simp] theorem in62_l21 : In62 21 = True := eq_true ⟨by decide, by decide⟩
@[simp] theorem in63_l21 : In63 21 = True := eq_true ⟨by decide, by decide⟩
@[simp] theorem in63e_l21 : In63e 21 = True := eq_true ⟨by decide, by decide⟩
@[simp] theorem in64_l21 : In64 21 = True := eq_true ⟨by decide, by decide⟩
@[simp] theorem dvr_l21 : Dvr 21 = True := eq_true ⟨by decide, by decide⟩
@[simp] theorem in62_l22 : In62 22 = True := eq_true ⟨by decide, by decide⟩
@[simp] theorem in63_l22 : In63 22 = True := eq_true ⟨by decide, by decide⟩
@[simp] theorem in63e_l22 : In63e 22 = True := eq_true ⟨by decide, by decide⟩
@[simp] theorem in64_l22 : In64 22 = True := eq_true ⟨by decide, by decide⟩
@[simp] theorem dvr_l22 : Dvr 22 = True := eq_true ⟨by decide, by decide⟩
@[simp] theorem in62_l23 : In62 23 = True := eq_true ⟨by decide, by decide⟩
@[simp] theorem in63_l23 : In63 23 = True := eq_true ⟨by decide, by decide⟩
@[simp] theorem in63e_l23 : In63e 23 = True := eq_true ⟨by decide, by decide⟩
@[simp] theorem in64_l23 : In64 23 = True := eq_true ⟨by decide, by decide⟩
@[simp] theorem dvr_l23 : Dvr 23 = True := eq_true ⟨by decide, by decide⟩
@[simp] theorem in62_l24 : In62 24 = True := eq_true ⟨by decide, by decide⟩
@[simp] theorem in63_l24 : In63 24 = True := eq_true ⟨by decide, by decide⟩
@[simp] theorem in63e_l24 : In63e 24 = True := eq_true ⟨by decide, by decide⟩
@[simp] theorem in64_l24 : In64 24 = True := eq_true ⟨by decide, by decide⟩
@[simp] theorem dvr_l24 : Dvr 24 = True := eq_true ⟨by decide, by decide⟩
@[simp] theorem in62_l25 : In62 25 = True := eq_true ⟨by decide, by decide⟩
@[simp] theorem in63_l25 : In63 25 = True := eq_true ⟨by decide, by decide⟩
@[simp] theorem in63e_l25 : In63e 25 = True := eq_true ⟨by decide, by decide⟩
@[simp] theorem in64_l25 : In64 25 = True := eq_true ⟨by decide, by decide⟩
@[simp] theorem dvr_l25 : Dvr 25 = True := eq_true ⟨by decide, by decide⟩
@[simp] theorem in62_l26 : In62 26 = True := eq_true ⟨by decide, by decide⟩
@[simp] theorem in63_l26 : In63 26 = True := eq_true ⟨by decide, by decide⟩
@[simp] theorem in63e_l26 : In63e 26 = True := eq_true ⟨by decide, by decide⟩
@[simp] theorem in64_l26 : In64 26 = True := eq_true ⟨by decide, by decide⟩
@[simp] theorem dvr_l26 : Dvr 26 = True := eq_true ⟨by decide, by decide⟩
@[simp] theorem in62_l27 : In62 27 = True := eq_true ⟨by decide, by decide⟩
@[simp] theorem in63_l27 : In63 27 = True := eq_true ⟨by decide, by decide⟩
@[simp] theorem in63e_l27 : In63e 27 = True := eq_true ⟨by decide, by decide⟩
@[simp] theorem in64_l27 : In64 27 = True := eq_true ⟨by decide, by decide⟩
@[simp] theorem dvr_l27 : Dvr 27 = True := eq_true ⟨by decide, by decide⟩
@[simp] theorem in62_l28 : In62 28 = True := eq_true ⟨by decide, by decide⟩
@[simp] theorem in63_l28 : In63 28 = True := eq_true ⟨by decide, by decide⟩
@[simp] theorem in63e_l28 : In63e 28 = True := eq_true ⟨by decide, by decide⟩
@[simp] theorem in64_l28 : In64 28 = True := eq_true ⟨by decide, by decide⟩
@[simp] theorem dvr_l28 : Dvr 28 = True := eq_true ⟨by decide, by decide⟩
@[simp] theorem in62_l29 : In62 29 = True := eq_true ⟨by decide, by decide⟩
@[simp] theorem in63_l29 : In63 29 = True := eq_true ⟨by decide, by decide⟩
@[simp] theorem in63e_l29 : In63e 29 = True := eq_true ⟨by decide, by decide⟩
@[simp] theorem in64_l29 : In64 29 = True := eq_true ⟨by decide, by decide⟩
@[simp] theorem dvr_l29 : Dvr 29 = True := eq_true ⟨by decide, by decide⟩
@[simp] theorem in62_l30 : In62 30 = True := eq_true ⟨by decide, by decide⟩
@[simp] theorem in63_l30 : In63 30 = True := eq_true ⟨by decide, by decide⟩
@[simp] theorem in63e_l30 : In63e 30 = True := eq_true ⟨by decide, by decide⟩
@[simp] theorem in64_l30 : In64 30 = True := eq_true ⟨by decide, by decide⟩
@[simp] theorem dvr_l30 : Dvr 30 = True := eq_true ⟨by decide, by decide⟩
@[simp] theorem in62_l31 : In62 31 = True := eq_true ⟨by decide, by decide⟩
@[simp] theorem in63_l31 : In63 31 = True := eq_true ⟨by decide, by decide⟩
@[simp] theorem in63e_l31 : In63e 31 = True := eq_true ⟨by decide, by decide⟩
@[simp] theorem in64_l31 : In64 31 = True := eq_true ⟨by decide, by decide⟩
@[simp] theorem dvr_l31 : Dvr 31 = True := eq_true ⟨by decide, by decide⟩
@[simp] theorem in62_l32 : In62 32 = True := eq_true ⟨by decide, by decide⟩
@[simp] theorem in63_l32 : In63 32 = True := eq_true ⟨by decide, by decide⟩
@[simp] theorem in63e_l32 : In63e 32 = True := eq_true ⟨by decide, by decide⟩
@[simp] theorem in64_l32 : In64 32 = True := eq_true ⟨by decide, by decide⟩
@[simp] theorem dvr_l32 : Dvr 32 = True := eq_true ⟨by decide, by decide⟩
@[simp] theorem in62_l33 : In62 33 = True := eq_true ⟨by decide, by decide⟩
@[simp] theorem in63_l33 : In63 33 = True := eq_true ⟨by decide, by decide⟩
@[simp] theorem in63e_l33 : In63e 33 = True := eq_true ⟨by decide, by decide⟩
@[simp] theorem in64_l33 : In64 33 = True := eq_true ⟨by decide, by decide⟩
@[simp] theorem dvr_l33 : Dvr 33 = True := eq_true ⟨by decide, by decide⟩
@[simp] theorem in62_l34 : In62 34 = True := eq_true ⟨by decide, by decide⟩
@[simp] theorem in63_l34 : In63 34 = True := eq_true ⟨by decide, by decide⟩
@[simp] theorem in63e_l34 : In63e 34 = True := eq_true ⟨by decide, by decide⟩
@[simp] theorem in64_l34 : In64 34 = True := eq_true ⟨by decide, by decide⟩
@[simp] theorem dvr_l34 : Dvr 34 = True := eq_true ⟨by decide, by decide⟩
@[simp] theorem in62_l35 : In62 35 = True := eq_true ⟨by decide, by decide⟩
@[simp] theorem in63_l35 : In63 35 = True := eq_true ⟨by decide, by decide⟩
@[simp] theorem in63e_l35 : In63e 35 = True := eq_true ⟨by decide, by decide⟩
@[simp] theorem in64_l35 : In64 35 = True := eq_true ⟨by decide, by decide⟩
@[simp] theorem dvr_l35 : Dvr 35 = True := eq_true ⟨by decide, by decide⟩
@[simp] theorem in62_l36 : In62 36 = True := eq_true ⟨by decide, by decide⟩
@[simp] theorem in63_l36 : In63 36 = True := eq_true ⟨by decide, by decide⟩
@[simp] theorem in63e_l36 : In63e 36 = True := eq_true ⟨by decide, by decide⟩
@[simp] theorem in64_l36 : In64 36 = True := eq_true ⟨by decide, by decide⟩
@[simp] theorem dvr_l36 : Dvr 36 = True := eq_true ⟨by decide, by decide⟩
@[simp] theorem in62_l37 : In62 37 = True := eq_true ⟨by decide, by decide⟩
@[simp] theorem in63_l37 : In63 37 = True := eq_true ⟨by decide, by decide⟩
@[simp] theorem in63e_l37 : In63e 37 = True := eq_true ⟨by decide, by decide⟩
@[simp] theorem in64_l37 : In64 37 = True := eq_true ⟨by decide, by decide⟩
@[simp] theorem dvr_l37 : Dvr 37 = True := eq_true ⟨by decide, by decide⟩
@[simp] theorem in62_l38 : In62 38 = True := eq_true ⟨by decide, by decide⟩
@[simp] theorem in63_l38 : In63 38 = True := eq_true ⟨by decide, by decide⟩
@[simp] theorem in63e_l38 : In63e 38 = True := eq_true ⟨by decide, by decide⟩
@[simp] theorem in64_l38 : In64 38 = True := eq_true ⟨by decide, by decide⟩
@[simp] theorem dvr_l38 : Dvr 38 = True := eq_true ⟨by decide, by decide⟩
@[simp] theorem in62_l39 : In62 39 = True := eq_true ⟨by decide, by decide⟩
@[simp] theorem in63_l39 : In63 39 = True := eq_true ⟨by decide, by decide⟩
@[simp] theorem in63e_l39 : In63e 39 = True := eq_true ⟨by decide, by decide⟩
@[simp] theorem in64_l39 : In64 39 = True := eq_true ⟨by decide, by decide⟩
@[simp] theorem dvr_l39 : Dvr 39 = True := eq_true ⟨by decide, by decide⟩
@[simp] theorem in62_l40 : In62 40 = True := eq_true ⟨by decide, by decide⟩
@[simp] theorem in63_l40 : In63 40 = True := eq_true ⟨by decide, by decide⟩
@[simp] theorem in63e_l40 : In63e 40 = True := eq_true ⟨by decide, by decide⟩
@[simp] theorem in64_l40 : In64 40 = True := eq_true ⟨by decide, by decide⟩
@[simp] theorem dvr_l40 : Dvr 40 = True := eq_true ⟨by decide, by decide⟩
@[simp] theorem in62_l41 : In62 41 = True := eq_true ⟨by decide, by decide⟩
@[simp] theorem in63_l41 : In63 41 = True := eq_true ⟨by decide, by decide⟩
@[simp] theorem in63e_l41 : In63e 41 = True := eq_true ⟨by decide, by decide⟩
@[simp] theorem in64_l41 : In64 41 = True := eq_true ⟨by decide, by decide⟩
@[simp] theorem dvr_l41 : Dvr 41 = True := eq_true ⟨by decide, by decide⟩
@[simp] theorem in62_l42 : In62 42 = True := eq_true ⟨by decide, by decide⟩
@[simp] theorem in63_l42 : In63 42 = True := eq_true ⟨by decide, by decide⟩
@[simp] theorem in63e_l42 : In63e 42 = True := eq_true ⟨by decide, by decide⟩
@[simp] theorem in64_l42 : In64 42 = True := eq_true ⟨by decide, by decide⟩
@[simp] theorem dvr_l42 : Dvr 42 = True := eq_true ⟨by decide, by decide⟩
@[simp] theorem in62_l43 : In62 43 = True := eq_true ⟨by decide, by decide⟩
@[simp] theorem in63_l43 : In63 43 = True := eq_true ⟨by decide, by decide⟩
@[simp] theorem in63e_l43 : In63e 43 = True := eq_true ⟨by decide, by decide⟩
@[simp] theorem in64_l43 : In64 43 = True := eq_true ⟨by decide, by decide⟩
@[simp] theorem dvr_l43 : Dvr 43 = True := eq_true ⟨by decide, by decide⟩
@[simp] theorem in62_l44 : In62 44 = True := eq_true ⟨by decide, by decide⟩
@[simp] theorem in63_l44 : In63 44 = True := eq_true ⟨by decide, by decide⟩
@[simp] theorem in63e_l44 : In63e 44 = True := eq_true ⟨by decide, by decide⟩
@[simp] theorem in64_l44 : In64 44 = True := eq_true ⟨by decide, by decide⟩
@[simp] theorem dvr_l44 : Dvr 44 = True := eq_true ⟨by decide, by decide⟩
@[simp] theorem in62_l45 : In62 45 = True := eq_true ⟨by decide, by decide⟩
@[simp] theorem in63_l45 : In63 45 = True := eq_true ⟨by decide, by decide⟩
@[simp] theorem in63e_l45 : In63e 45 = True := eq_true ⟨by decide, by decide⟩
@[simp] theorem in64_l45 : In64 45 = True := eq_true ⟨by decide, by decide⟩
@[simp] theorem dvr_l45 : Dvr 45 = True := eq_true ⟨by decide, by decide⟩
@[simp] theorem in62_l46 : In62 46 = True := eq_true ⟨by decide, by decide⟩
@[simp] theorem in63_l46 : In63 46 = True := eq_true ⟨by decide, by decide⟩
@[simp] theorem in63e_l46 : In63e 46 = True := eq_true ⟨by decide, by decide⟩
@[simp] theorem in64_l46 : In64 46 = True := eq_true ⟨by decide, by decide⟩
@[simp] theorem dvr_l46 : Dvr 46 = True := eq_true ⟨by decide, by decide⟩
@[simp] theorem in62_l47 : In62 47 = True := eq_true ⟨by decide, by decide⟩
@[simp] theorem in63_l47 : In63 47 = True := eq_true ⟨by decide, by decide⟩
@[simp] theorem in63e_l47 : In63e 47 = True := eq_true ⟨by decide, by decide⟩
@[simp] theorem in64_l47 : In64 47 = True := eq_true ⟨by decide, by decide⟩
@[simp] theorem dvr_l47 : Dvr 47 = True := eq_true ⟨by decide, by decide⟩
@[simp] theorem in62_l48 : In62 48 = True := eq_true ⟨by decide, by decide⟩
@[simp] theorem in63_l48 : In63 48 = True := eq_true ⟨by decide, by decide⟩
@[simp] theorem in63e_l48 : In63e 48 = True := eq_true ⟨by decide, by decide⟩
@[simp] theorem in64_l48 : In64 48 = True := eq_true ⟨by decide, by decide⟩
@[simp] theorem dvr_l48 : Dvr 48 = True := eq_true ⟨by decide, by decide⟩
@[simp] theorem in62_l49 : In62 49 = True := eq_true ⟨by decide, by decide⟩
@[simp] theorem in63_l49 : In63 49 = True := eq_true ⟨by decide, by decide⟩
@[simp] theorem in63e_l49 : In63e 49 = True := eq_true ⟨by decide, by decide⟩
@[simp] theorem in64_l49 : In64 49 = True := eq_true ⟨by decide, by decide⟩
@[simp] theorem dvr_l49 : Dvr 49 = True := eq_true ⟨by decide, by decide⟩
@[simp] theorem in62_l50 : In62 50 = True := eq_true ⟨by decide, by decide⟩
@[simp] theorem in63_l50 : In63 50 = True := eq_true ⟨by decide, by decide⟩
@[simp] theorem in63e_l50 : In63e 50 = True := eq_true ⟨by decide, by decide⟩
@[simp] theorem in64_l50 : In64 50 = True := eq_true ⟨by decide, by decide⟩
@[simp] theorem dvr_l50 : Dvr 50 = True := eq_true ⟨by decide, by decide⟩
@[simp] theorem in62_l51 : In62 51 = True := eq_true ⟨by decide, by decide⟩
@[simp] theorem in63_l51 : In63 51 = True := eq_true ⟨by decide, by decide⟩
@[simp] theorem in63e_l51 : In63e 51 = True := eq_true ⟨by decide, by decide⟩
@[simp] theorem in64_l51 : In64 51 = True := eq_true ⟨by decide, by decide⟩
@[simp] theorem dvr_l51 : Dvr 51 = True := eq_true ⟨by decide, by decide⟩
@[simp] theorem in62_l52 : In62 52 = True := eq_true ⟨by decide, by decide⟩
@[simp] theorem in63_l52 : In63 52 = True := eq_true ⟨by decide, by decide⟩
@[simp] theorem in63e_l52 : In63e 52 = True := eq_true ⟨by decide, by decide⟩
@[simp] theorem in64_l52 : In64 52 = True := eq_true ⟨by decide, by decide⟩
@[simp] theorem dvr_l52 : Dvr 52 = True := eq_true ⟨by decide, by decide⟩
@[simp] theorem in62_l53 : In62 53 = True := eq_true ⟨by decide, by decide⟩
@[simp] theorem in63_l53 : In63 53 = True := eq_true ⟨by decide, by decide⟩
@[simp] theorem in63e_l53 : In63e 53 = True := eq_true ⟨by decide, by decide⟩
@[simp] theorem in64_l53 : In64 53 = True := eq_true ⟨by decide, by decide⟩
@[simp] theorem dvr_l53 : Dvr 53 = True := eq_true ⟨by decide, by decide⟩
@[simp] theorem in62_l54 : In62 54 = True := eq_true ⟨by decide, by decide⟩
@[simp] theorem in63_l54 : In63 54 = True := eq_true ⟨by decide, by decide⟩
@[simp] theorem in63e_l54 : In63e 54 = True := eq_true ⟨by decide, by decide⟩
@[simp] theorem in64_l54 : In64 54 = True := eq_true ⟨by decide, by decide⟩
@[simp] theorem dvr_l54 : Dvr 54 = True := eq_true ⟨by decide, by decide⟩
@[simp] theorem in62_l55 : In62 55 = True := eq_true ⟨by decide, by decide⟩
@[simp] theorem in63_l55 : In63 55 = True := eq_true ⟨by decide, by decide⟩
@[simp] theorem in63e_l55 : In63e 55 = True := eq_true ⟨by decide, by decide⟩
@[simp] theorem in64_l55 : In64 55 = True := eq_true ⟨by decide, by decide⟩
@[simp] theorem dvr_l55 : Dvr 55 = True := eq_true ⟨by decide, by decide⟩
@[simp] theorem in62_l56 : In62 56 = True := eq_true ⟨by decide, by decide⟩
@[simp] theorem in63_l56 : In63 56 = True := eq_true ⟨by decide, by decide⟩
@[simp] theorem in63e_l56 : In63e 56 = True := eq_true ⟨by decide, by decide⟩
@[simp] theorem in64_l56 : In64 56 = True := eq_true ⟨by decide, by decide⟩
@[simp] theorem dvr_l56 : Dvr 56 = True := eq_true ⟨by decide, by decide⟩
@[simp] theorem in62_l57 : In62 57 = True := eq_true ⟨by decide, by decide⟩
@[simp] theorem in63_l57 : In63 57 = True := eq_true ⟨by decide, by decide⟩
@[simp] theorem in63e_l57 : In63e 57 = True := eq_true ⟨by decide, by decide⟩
@[simp] theorem in64_l57 : In64 57 = True := eq_true ⟨by decide, by decide⟩
@[simp] theorem dvr_l57 : Dvr 57 = True := eq_true ⟨by decide, by decide⟩
@[simp] theorem in62_l58 : In62 58 = True := eq_true ⟨by decide, by decide⟩
@[simp] theorem in63_l58 : In63 58 = True := eq_true ⟨by decide, by decide⟩
@[simp] theorem in63e_l58 : In63e 58 = True := eq_true ⟨by decide, by decide⟩
@[simp] theorem in64_l58 : In64 58 = True := eq_true ⟨by decide, by decide⟩
@[simp] theorem dvr_l58 : Dvr 58 = True := eq_true ⟨by decide, by decide⟩
@[simp] theorem in62_l59 : In62 59 = True := eq_true ⟨by decide, by decide⟩
@[simp] theorem in63_l59 : In63 59 = True := eq_true ⟨by decide, by decide⟩
@[simp] theorem in63e_l59 : In63e 59 = True := eq_true ⟨by decide, by decide⟩
@[simp] theorem in64_l59 : In64 59 = True := eq_true ⟨by decide, by decide⟩
@[simp] theorem dvr_l59 : Dvr 59 = True := eq_true ⟨by decide, by decide⟩
@[simp] theorem in62_l60 : In62 60 = True := eq_true ⟨by decide, by decide⟩
@[simp] theorem in63_l60 : In63 60 = True := eq_true ⟨by decide, by decide⟩
@[simp] theorem in63e_l60 : In63e 60 = True := eq_true ⟨by decide, by decide⟩
@[simp] theorem in64_l60 : In64 60 = True := eq_true ⟨by decide, by decide⟩
@[simp] theorem dvr_l60 : Dvr 60 = True := eq_true ⟨by decide, by decide⟩
@[simp] theorem in62_l61 : In62 61 = True := eq_true ⟨by decide, by decide⟩
@[simp] theorem in63_l61 : In63 61 = True := eq_true ⟨by decide, by decide⟩
@[simp] theorem in63e_l61 : In63e 61 = True := eq_true ⟨by decide, by decide⟩
@[simp] theorem in64_l61 : In64 61 = True := eq_true ⟨by decide, by decide⟩
@[simp] theorem dvr_l61 : Dvr 61 = True := eq_true ⟨by decide, by decide⟩
@[simp] theorem in62_l62 : In62 62 = True := eq_true ⟨by decide, by decide⟩
@[simp] theorem in63_l62 : In63 62 = True := eq_true ⟨by decide, by decide⟩
@[simp] theorem in63e_l62 : In63e 62 = True := eq_true ⟨by decide, by decide⟩
@[simp] theorem in64_l62 : In64 62 = True := eq_true ⟨by decide, by decide⟩
@[simp] theorem dvr_l62 : Dvr 62 = True := eq_true ⟨by decide, by decide⟩
@[simp] theorem in62_l63 : In62 63 = True := eq_true ⟨by decide, by decide⟩
@[simp] theorem in63_l63 : In63 63 = True := eq_true ⟨by decide, by decide⟩
@[simp] theorem in63e_l63 : In63e 63 = True := eq_true ⟨by decide, by decide⟩
@[simp] theorem in64_l63 : In64 63 = True := eq_true ⟨by decide, by decide⟩
@[simp] theorem dvr_l63 : Dvr 63 = True := eq_true ⟨by decide, by decide⟩
@[simp] theorem in62_l64 : In62 64 = True := eq_true ⟨by decide, by decide⟩
@[simp] theorem in63_l64 : In63 64 = True := eq_true ⟨by decide, by decide⟩
@[simp] theorem in63e_l64 : In63e 64 = True := eq_true ⟨by decide, by decide⟩
@[simp] theorem in64_l64 : In64 64 = True := eq_true ⟨by decide, by decide⟩
@[simp] theorem dvr_l64 : Dvr 64 = True := eq_true ⟨by decide, by decide⟩
@[simp] theorem in62_l70 : In62 70 = True := eq_true ⟨by decide, by decide⟩
@[simp] theorem in63_l70 : In63 70 = True := eq_true ⟨by decide, by decide⟩
@[simp] theorem in63e_l70 : In63e 70 = True := eq_true ⟨by decide, by decide⟩
@[simp] theorem in64_l70 : In64 70 = True := eq_true ⟨by decide, by decide⟩
@[simp] theorem dvr_l70 : Dvr 70 = True := eq_true ⟨by decide, by decide⟩
@[simp] theorem in62_l200 : In62 200 = True := eq_true ⟨by decide, by decide⟩
@[simp] theorem in63_l200 : In63 200 = True := eq_true ⟨by decide, by decide⟩
@[simp] theorem in63e_l200 : In63e 200 = True := eq_true ⟨by decide, by decide⟩
@[simp] theorem in64_l200 : In64 200 = True := eq_true ⟨by decide, by decide⟩
@[simp] theorem dvr_l200 : Dvr 200 = True := eq_true ⟨by decide, by decide⟩
@[simp] theorem in62_l300 : In62 300 = True := eq_true ⟨by decide, by decide⟩
@[simp] theorem in63_l300 : In63 300 = True := eq_true ⟨by decide, by decide⟩
@[simp] theorem in63e_l300 : In63e 300 = True := eq_true ⟨by decide, by decide⟩
@[simp] theorem in64_l300 : In64 300 = True := eq_true ⟨by decide, by decide⟩
@[simp] theorem dvr_l300 : Dvr 300 = True := eq_true ⟨by decide, by decide⟩
@[simp] theorem in62_l400 : In62 400 = True := eq_true ⟨by decide, by decide⟩
@[simp] theorem in63_l400 : In63 400 = True := eq_true ⟨by decide, by decide⟩
@[simp] theorem in63e_l400 : In63e 400 = True := eq_true ⟨by decide, by decide⟩
@[simp] theorem in64_l400 : In64 400 = True := eq_true ⟨by decide, by decide⟩
@[simp] theorem dvr_l400 : Dvr 400 = True := eq_true ⟨by decide, by decide⟩
@[simp] theorem in62_l600 : In62 600 = True := eq_true ⟨by decide, by decide⟩
@[simp] theorem in63_l600 : In63 600 = True := eq_true ⟨by decide, by decide⟩
@[simp] theorem in63e_l600 : In63e 600 = True := eq_true ⟨by decide, by decide⟩
@[simp] theorem in64_l600 : In64 600 = True := eq_true ⟨by decide, by decide⟩
@[simp] theorem dvr_l600 : Dvr 600 = True := eq_true ⟨by decide, by decide⟩
@[simp] theorem in62_l700 : In62 700 = True := eq_true ⟨by decide, by decide⟩
@[simp] theorem in63_l700 : In63 700 = True := eq_true ⟨by decide, by decide⟩
@[simp] theorem in63e_l700 : In63e 700 = True := eq_true ⟨by decide, by decide⟩
@[simp] theorem in64_l700 : In64 700 = True := eq_true ⟨by decide, by decide⟩
@[simp] theorem dvr_l700 : Dvr 700 = True := eq_true ⟨by decide, by decide⟩
@[simp] theorem in62_l729 : In62 729 = True := eq_true ⟨by decide, by decide⟩
@[simp] theorem in63_l729 : In63 729 = True := eq_true ⟨by decide, by decide⟩
@[simp] theorem in63e_l729 : In63e 729 = True := eq_true ⟨by decide, by decide⟩
@[simp] theorem in64_l729 : In64 729 = True := eq_true ⟨by decide, by decide⟩
@[simp] theorem dvr_l729 : Dvr 729 = True := eq_true ⟨by decide, by decide⟩
@[simp] theorem in62_l924 : In62 924 = True := eq_true ⟨by decide, by decide⟩
@[simp] theorem in63_l924 : In63 924 = True := eq_true ⟨by decide, by decide⟩
@[simp] theorem in63e_l924 : In63e 924 = True := eq_true ⟨by decide, by decide⟩
@[simp] theorem in64_l924 : In64 924 = True := eq_true ⟨by decide, by decide⟩
@[simp] theorem dvr_l924 : Dvr 924 = True := eq_true ⟨by decide, by decide⟩
@[simp] theorem in62_l1000 : In62 1000 = True := eq_true ⟨by decide, by decide⟩
@[simp] theorem in63_l1000 : In63 1000 = True := eq_true ⟨by decide, by decide⟩
@[simp] theorem in63e_l1000 : In63e 1000 = True := eq_true ⟨by decide, by decide⟩
@[simp] theorem in64_l1000 : In64 1000 = True := eq_true ⟨by decide, by decide⟩
@[simp] theorem dvr_l1000 : Dvr 1000 = True := eq_true ⟨by decide, by decide⟩
@[simp] theorem in62_l3000 : In62 3000 = True := eq_true ⟨by decide, by decide⟩
@[simp] theorem in63_l3000 : In63 3000 = True := eq_true ⟨by decide, by decide⟩
@[simp] theorem in63e_l3000 : In63e 3000 = True := eq_true ⟨by decide, by decide⟩
@[simp] theorem in64_l3000 : In64 3000 = True := eq_true ⟨by decide, by decide⟩
@[simp] theorem dvr_l3000 : Dvr 3000 = True := eq_true ⟨by decide, by decide⟩
@[simp] theorem in62_l4096 : In62 4096 = True := eq_true ⟨by decide, by decide⟩
@[simp] theorem in63_l4096 : In63 4096 = True := eq_true ⟨by decide, by decide⟩
@[simp] theorem in63e_l4096 : In63e 4096 = True := eq_true ⟨by decide, by decide⟩
@[simp] theorem in64_l4096 : In64 4096 = True := eq_true ⟨by decide, by decide⟩
@[simp] theorem dvr_l4096 : Dvr 4096 = True := eq_true ⟨by decide, by decide⟩
@[simp] theorem in62_l7919 : In62 7919 = True := eq_true ⟨by decide, by decide⟩
@[simp] theorem in63_l7919 : In63 7919 = True := eq_true ⟨by decide, by decide⟩
@[simp] theorem in63e_l7919 : In63e 7919 = True := eq_true ⟨by decide, by decide⟩
@[simp] theorem in64_l7919 : In64 7919 = True := eq_true ⟨by decide, by decide⟩
@[simp] theorem dvr_l7919 : Dvr 7919 = True := eq_true ⟨by decide, by decide⟩
@[simp] theorem in62_l10007 : In62 10007 = True := eq_true ⟨by decide, by decide⟩
@[simp] theorem in63_l10007 : In63 10007 = True := eq_true ⟨by decide, by decide⟩
@[simp] theorem in63e_l10007 : In63e 10007 = True := eq_true ⟨by decide, by decide⟩
@[simp] theorem in64_l10007 : In64 10007 = True := eq_true ⟨by decide, by decide⟩
@[simp] theorem dvr_l10007 : Dvr 10007 = True := eq_true ⟨by decide, by decide⟩
@[simp] theorem in62_l30011 : In62 30011 = True := eq_true ⟨by decide, by decide⟩
@[simp] theorem in63_l30011 : In63 30011 = True := eq_true ⟨by decide, by decide⟩
@[simp] theorem in63e_l30011 : In63e 30011 = True := eq_true ⟨by decide, by decide⟩
@[simp] theorem in64_l30011 : In64 30011 = True := eq_true ⟨by decide, by decide⟩
@[simp] theorem dvr_l30011 : Dvr 30011 = True := eq_true ⟨by decide, by decide⟩
@[simp] theorem in62_l40503 : In62 40503 = True := eq_true ⟨by decide, by decide⟩
@[simp] theorem in63_l40503 : In63 40503 = True := eq_true ⟨by decide, by decide⟩
@[simp] theorem in63e_l40503 : In63e 40503 = True := eq_true ⟨by decide, by decide⟩
@[simp] theorem in64_l40503 : In64 40503 = True := eq_true ⟨by decide, by decide⟩
@[simp] theorem dvr_l40503 : Dvr 40503 = True := eq_true ⟨by decide, by decide⟩
@[simp] theorem in62_l40692 : In62 40692 = True := eq_true ⟨by decide, by decide⟩
@[simp] theorem in63_l40692 : In63 40692 = True := eq_true ⟨by decide, by decide⟩
@[simp] theorem in63e_l40692 : In63e 40692 = True := eq_true ⟨by decide, by decide⟩
@[simp] theorem in64_l40692 : In64 40692 = True := eq_true ⟨by decide, by decide⟩
@[simp] theorem dvr_l40692 : Dvr 40692 = True := eq_true ⟨by decide, by decide⟩
@[simp] theorem in62_l48271 : In62 48271 = True := eq_true ⟨by decide, by decide⟩
@[simp] theorem in63_l48271 : In63 48271 = True := eq_true ⟨by decide, by decide⟩
@[simp] theorem in63e_l48271 : In63e 48271 = True := eq_true ⟨by decide, by decide⟩
@[simp] theorem in64_l48271 : In64 48271 = True := eq_true ⟨by decide, by decide⟩
@[simp] theorem dvr_l48271 : Dvr 48271 = True := eq_true ⟨by decide, by decide⟩
@[simp] theorem in62_l69621 : In62 69621 = True := eq_true ⟨by decide, by decide⟩
@[simp] theorem in63_l69621 : In63 69621 = True := eq_true ⟨by decide, by decide⟩
@[simp] theorem in63e_l69621 : In63e 69621 = True := eq_true ⟨by decide, by decide⟩
@[simp] theorem in64_l69621 : In64 69621 = True := eq_true ⟨by decide, by decide⟩
@[simp] theorem dvr_l69621 : Dvr 69621 = True := eq_true ⟨by decide, by decide⟩
@[simp] theorem in62_l1000000 : In62 1000000 = True := eq_true ⟨by decide, by decide⟩
@[simp] theorem in63_l1000000 : In63 1000000 = True := eq_true ⟨by decide, by decide⟩
@[simp] theorem in63e_l1000000 : In63e 1000000 = True := eq_true ⟨by decide, by decide⟩
@[simp] theorem in64_l1000000 : In64 1000000 = True := eq_true ⟨by decide, by decide⟩
@[simp] theorem dvr_l1000000 : Dvr 1000000 = True := eq_true ⟨by decide, by decide⟩
@[simp] theorem in62_l1000003 : In62 1000003 = True := eq_true ⟨by decide, by decide⟩
@[simp] theorem in63_l1000003 : In63 1000003 = True := eq_true ⟨by decide, by decide⟩
@[simp] theorem in63e_l1000003 : In63e 1000003 = True := eq_true ⟨by decide, by decide⟩
@[simp] theorem in64_l1000003 : In64 1000003 = True := eq_true ⟨by decide, by decide⟩
@[simp] theorem dvr_l1000003 : Dvr 1000003 = True := eq_true ⟨by decide, by decide⟩
@[simp] theorem in62_l2147483587 : In62 2147483587 = True := eq_true ⟨by decide, by decide⟩
@[simp] theorem in63_l2147483587 : In63 2147483587 = True := eq_true ⟨by decide, by decide⟩
@[simp] theorem in63e_l2147483587 : In63e 2147483587 = True := eq_true ⟨by decide, by decide⟩
@[simp] theorem in64_l2147483587 : In64 2147483587 = True := eq_true ⟨by decide, by decide⟩
@[simp] theorem dvr_l2147483587 : Dvr 2147483587 = True := eq_true ⟨by decide, by decide⟩
@[simp] theorem in62_l2147483629 : In62 2147483629 = True := eq_true ⟨by decide, by decide⟩
@[simp] theorem in63_l2147483629 : In63 2147483629 = True := eq_true ⟨by decide, by decide⟩
@[simp] theorem in63e_l2147483629 : In63e 2147483629 = True := eq_true ⟨by decide, by decide⟩
@[simp] theorem in64_l2147483629 : In64 2147483629 = True := eq_true ⟨by decide, by decide⟩
@[simp] theorem dvr_l2147483629 : Dvr 2147483629 = True := eq_true ⟨by decide, by decide⟩
@[simp] theorem in62_l2147483647 : In62 2147483647 = True := eq_true ⟨by decide, by decide⟩
@[simp] theorem in63_l2147483647 : In63 2147483647 = True := eq_true ⟨by decide, by decide⟩
@[simp] theorem in63e_l2147483647 : In63e 2147483647 = True := eq_true ⟨by decide, by decide⟩
@[simp] theorem in64_l2147483647 : In64 2147483647 = True := eq_true ⟨by decide, by decide⟩
@[simp] theorem dvr_l2147483647 : Dvr 2147483647 = True := eq_true ⟨by decide, by decide⟩
@[simp] theorem in62_l100000000000 : In62 100000000000 = True := eq_true ⟨by decide, by decide⟩
@[simp] theorem in63_l100000000000 : In63 100000000000 = True := eq_true ⟨by decide, by decide⟩
@[simp] theorem in63e_l100000000000 : In63e 100000000000 = True := eq_true ⟨by decide, by decide⟩
@[simp] theorem in64_l100000000000 : In64 100000000000 = True := eq_true ⟨by decide, by decide⟩
@[simp] theorem dvr_l100000000000 : Dvr 100000000000 = True := eq_true ⟨by decide, by decide⟩
@[simp] theorem in62_l1000000000000 : In62 1000000000000 = True := eq_true ⟨by decide, by decide⟩
@[simp] theorem in63_l1000000000000 : In63 1000000000000 = True := eq_true ⟨by decide, by decide⟩
@[simp] theorem in63e_l1000000000000 : In63e 1000000000000 = True := eq_true ⟨by decide, by decide⟩
@[simp] theorem in64_l1000000000000 : In64 1000000000000 = True := eq_true ⟨by decide, by decide⟩
@[simp] theorem dvr_l1000000000000 : Dvr 1000000000000 = True := eq_true ⟨by decide, by decide⟩
@[simp] theorem in62_l10000000000000 : In62 10000000000000 = True := eq_true ⟨by decide, by decide⟩
@[simp] theorem in63_l10000000000000 : In63 10000000000000 = True := eq_true ⟨by decide, by decide⟩
@[simp] theorem in63e_l10000000000000 : In63e 10000000000000 = True := eq_true ⟨by decide, by decide⟩
@[simp] theorem in64_l10000000000000 : In64 10000000000000 = True := eq_true ⟨by decide, by decide⟩
@[simp] theorem dvr_l10000000000000 : Dvr 10000000000000 = True := eq_true ⟨by decide, by decide⟩
@[simp] theorem in62_l100000000000000 : In62 100000000000000 = True := eq_true ⟨by decide, by decide⟩
@[simp] theorem in63_l100000000000000 : In63 100000000000000 = True := eq_true ⟨by decide, by decide⟩
@[simp] theorem in63e_l100000000000000 : In63e 100000000000000 = True := eq_true ⟨by decide, by decide⟩
@[simp] theorem in64_l100000000000000 : In64 100000000000000 = True := eq_true ⟨by decide, by decide⟩
@[simp] theorem dvr_l100000000000000 : Dvr 100000000000000 = True := eq_true ⟨by decide, by decide⟩
@[simp] theorem in62_l1000000000000000 : In62 1000000000000000 = True := eq_true ⟨by decide, by decide⟩
@[simp] theorem in63_l1000000000000000 : In63 1000000000000000 = True := eq_true ⟨by decide, by decide⟩
@[simp] theorem in63e_l1000000000000000 : In63e 1000000000000000 = True := eq_true ⟨by decide, by decide⟩
@[simp] theorem in64_l1000000000000000 : In64 1000000000000000 = True := eq_true ⟨by decide, by decide⟩
@[simp] theorem dvr_l1000000000000000 : Dvr 1000000000000000 = True := eq_true ⟨by decide, by decide⟩
@[simp] theorem in62_l1000000000000000000 : In62 1000000000000000000 = True := eq_true ⟨by decide, by decide⟩
@[simp] theorem in63_l1000000000000000000 : In63 1000000000000000000 = True := eq_true ⟨by decide, by decide⟩
@[simp] theorem in63e_l1000000000000000000 : In63e 1000000000000000000 = True := eq_true ⟨by decide, by decide⟩
@[simp] theorem in64_l1000000000000000000 : In64 1000000000000000000 = True := eq_true ⟨by decide, by decide⟩
@[simp] theorem dvr_l1000000000000000000 : Dvr 1000000000000000000 = True := eq_true ⟨by decide, by decide⟩
/-! ### an owned list of data -/
def dats (ds : List PD) : List Cel := ds.map Cel.dat
@[simp] theorem dats_nil : dats [] = [] := (rfl)
theorem dats_cons {d : PD} {ds : List PD} : dats (d :: ds) = .dat d :: dats ds := (rfl)
@[simp] theorem dats_pd {ds : List PD} : (dats ds).map Cel.pd = ds := by unfold dats; rw [List.map_map, show Cel.pd ∘ Cel.dat = id from rfl, List.map_id]
@[simp] theorem dats_len {ds : List PD} : (dats ds).length = ds.length := by unfold dats; exact List.length_map ..
@[simp] theorem dats_app {ds es : List PD} : dats ds ++ dats es = dats (ds ++ es) := by unfold dats; exact List.map_append.symm
@[simp] theorem dats_app1 {ds : List PD} {d : PD} : dats ds ++ [Cel.dat d] = dats (ds ++ [d]) := by unfold dats; rw [List.map_append]; rfl
@[simp] theorem dats_set {ds : List PD} {d : PD} {i : Nat} : (dats ds).set i (Cel.dat d) = dats (ds.set i d) := by unfold dats; rw [List.map_set]
@[simp] theorem dats_erase {ds : List PD} {i : Nat} : (dats ds).eraseIdx i = dats (ds.eraseIdx i) := by
  unfold dats
  induction ds generalizing i with
  | nil => rfl
  | cons x xs ih => cases i with
    | zero => rfl
    | succ i => simp [ih]
@[simp] theorem dats_take {ds : List PD} {i : Nat} : (dats ds).take i = dats (ds.take i) := by unfold dats; rw [List.map_take]
@[simp] theorem dats_drop {ds : List PD} {i : Nat} : (dats ds).drop i = dats (ds.drop i) := by unfold dats; rw [List.map_drop]
theorem datAt_dats {ds : List PD} {i : Nat} : datAt (dats ds) i = ds[i]? := by
  unfold datAt dats
  rw [List.getElem?_map]
  cases ds[i]? <;> rfl
theorem datAt_at {ds : List PD} {i : Nat} (h : i < ds.length) : datAt (dats ds) i = some ds[i] := by rw [datAt_dats, List.getElem?_eq_getElem h]
theorem datAt_map {α : Type} {f : α → PD} {l : List α} {j : Nat} (h : j < l.length) : datAt (dats (l.map f)) j = some (f l[j]) := by rw [datAt_dats, List.getElem?_map, List.getElem?_eq_getElem h]; rfl
/-! ### the functions at work -/
abbrev natD (n : Nat) : PD := .int (n : Nat)
abbrev kk0 : KK := ⟨[]⟩
section
variable {ρ : Env} {v : VE}
@[simp] theorem q_mk_nil : mk [] = [] := (rfl)
@[simp] theorem q_mk_cons {s : Sl} {r : Env} : mk (s :: r) = s.mk :: mk r := (rfl)
@[simp] theorem q_vw_nil : vw [] = [] := (rfl)
@[simp] theorem q_vw_cons {s : Sl} {r : Env} : vw (s :: r) = s.vw :: vw r := (rfl)
@[simp] theorem q_mk_dat {d : PD} : (Sl.dat d).mk = some d := (rfl)
@[simp] theorem q_mk_un : Sl.un.mk = none := (rfl)
@[simp] theorem q_mk_own {cs : List Cel} : (Sl.own cs).mk = none := (rfl)
@[simp] theorem q_vw_dat {d : PD} : (Sl.dat d).vw = some d := (rfl)
@[simp] theorem q_vw_un : Sl.un.vw = none := (rfl)
@[simp] theorem q_vw_own {cs : List Cel} : (Sl.own cs).vw = some (.list (cs.map Cel.pd)) := (rfl)
@[simp] theorem q_pd_dat {d : PD} : (Cel.dat d).pd = d := (rfl)
@[simp] theorem q_pd_sub {ds : List PD} : (Cel.sub ds).pd = .list ds := (rfl)
/-! pure -/
@[simp] theorem q_var {i : Nat} : xVar i v = (v[i]?).bind id := (rfl)
@[simp] theorem q_c {d : PD} : xC d v = some d := (rfl)
@[simp] theorem q_op {f : PD → PD → Option PD} {a b : XE} : xOp f a b v = (a v).bind fun x => (b v).bind fun y => f x y := (rfl)
@[simp] theorem q_un {f : PD → Option PD} {a : XE} : xUn f a v = (a v).bind f := (rfl)
@[simp] theorem q_nil : xNil v = some [] := (rfl)
@[simp] theorem q_cons {a : XE} {as : XA} : xCons a as v = (a v).bind fun x => (as v).bind fun xs => some (x :: xs) := (rfl)
@[simp] theorem q_tup {as : XA} : xTup as v = (as v).bind fun ds => grd (ds.length ≤ 100000) (some (.tuple ds)) := by
  unfold xTup
  simp only [grd_ite]
@[simp] theorem q_lst {as : XA} : xLst as v = (as v).bind fun ds => grd (ds.length ≤ 100000) (some (.list ds)) := by
  unfold xLst
  simp only [grd_ite]
@[simp] theorem q_cb {f : List PD → Option PD} {as : XA} : xCB f as v = (as v).bind f := (rfl)
@[simp] theorem q_isB {b : Bool} : isB (.bool b) = some b := (rfl)
@[simp] theorem q_B {a : XE} : xB a v = (a v).bind isB := (rfl)
@[simp] theorem q_tand {a b : XT} : xTAnd a b v = (a v).bind fun c => andO c (b v) := (rfl)
@[simp] theorem q_tor {a b : XT} : xTOr a b v = (a v).bind fun c => orO c (b v) := (rfl)
@[simp] theorem q_tnot {a : XT} : xTNot a v = (a v).bind fun c => some (!c) := (rfl)
@[simp] theorem q_yes : xYes v = some true := (rfl)
@[simp] theorem q_and {a b : XE} : xAnd a b v = ((a v).bind isB).bind fun c => andV c (b v) := (rfl)
@[simp] theorem q_or {a b : XE} : xOr a b v = ((a v).bind isB).bind fun c => orV c (b v) := (rfl)
@[simp] theorem q_not {a : XE} : xNot a v = ((a v).bind isB).bind fun c => some (.bool (!c)) := (rfl)
@[simp] theorem q_if {c : XT} {a b : XE} : xIf c a b v = (c v).bind fun k => alt k (tag (a v)) (tag (b v)) := (rfl)
@[simp] theorem q_chain {f g : PD → PD → Option PD} {a b c : XE} : xChain f g a b c v = (a v).bind fun x => (b v).bind fun y => ((f x y).bind isB).bind fun k => andV k ((c v).bind fun z => g y z) := (rfl)
@[simp] theorem q_isi {t : Ty} {a : XE} : xIsi t a v = (a v).bind fun d => grd (full d = false) (some (.bool (isTy t d))) := by
  unfold xIsi
  congr 1
  funext d
  rw [← grd_ite]
  cases full d <;> rfl
@[simp] theorem q_nop : xNoPart v = some none := (rfl)
@[simp] theorem q_part {a : XE} : xPart a v = (a v).bind fun d => match d with | .int i => some (some i) | _ => none := (rfl)
@[simp] theorem q_sl {a : XE} {lo hi : XO} : xSl a lo hi v = (a v).bind fun d => (lo v).bind fun l => (hi v).bind fun h => slP d l h := (rfl)
@[simp] theorem q_idx {a b : XE} : xIdx a b v = (a v).bind fun x => (b v).bind fun y => idxP x y := (rfl)
@[simp] theorem q_on1 {f : PD → Option PD} {x : PD} : on1 f [x] = f x := (rfl)
@[simp] theorem q_on2 {f : PD → PD → Option PD} {x y : PD} : on2 f [x, y] = f x y := (rfl)
@[simp] theorem q_xiE {a : XE} : xiE a v = (a v).bind seqP := (rfl)
@[simp] theorem q_xiA {f : List PD → Option (List PD)} {as : XA} : xiA f as v = (as v).bind f := (rfl)
@[simp] theorem q_lc {src : XI} {g : XGV} {t : XT} {e : XE} {vs : List Nat} : xLc src g t e vs v = (src v).bind fun xs => grd (xs.length ≤ 40000) ((lcGo g t e (clear v vs) xs).bind fun ds => some (.list ds)) := by
  unfold xLc
  simp only [grd_ite]
@[simp] theorem q_clear_nil : clear v [] = v := (rfl)
@[simp] theorem q_clear_cons {i : Nat} {vs : List Nat} : clear v (i :: vs) = (clear v vs).set i none := (rfl)
@[simp] theorem q_gvName {i : Nat} {x : PD} : gvName i x v = some (v.set i (some x)) := (rfl)
@[simp] theorem q_gvNil : gvNil [] v = some v := (rfl)
@[simp] theorem q_gvCons {g : XGV} {gs : XGVs} {x : PD} {xs : List PD} : gvCons g gs (x :: xs) v = (g x v).bind fun v1 => gs xs v1 := (rfl)
@[simp] theorem q_gvTup {n : Nat} {gs : XGVs} {x : PD} : gvTup n gs x v = (seqP x).bind fun ds => grd (ds.length = n) (gs ds v) := by
  unfold gvTup
  simp only [grd_ite]
/-! operations -/
@[simp] theorem q_add_i {i j : Int} : addP (.int i) (.int j) = some (.int (i + j)) := (rfl)
@[simp] theorem q_add_l {xs ys : List PD} : addP (.list xs) (.list ys) = grd (xs.length + ys.length ≤ 100000) (some (.list (xs ++ ys))) := by
  unfold addP
  simp only [grd_ite]
@[simp] theorem q_add_t {xs ys : List PD} : addP (.tuple xs) (.tuple ys) = grd (xs.length + ys.length ≤ 100000) (some (.tuple (xs ++ ys))) := by
  unfold addP
  simp only [grd_ite]
@[simp] theorem q_sub {i j : Int} : subP (.int i) (.int j) = some (.int (i - j)) := (rfl)
@[simp] theorem q_div {i j : Int} : divP (.int i) (.int j) = grd (Dvr j) (some (.int (i / j))) := by
  unfold divP
  simp only [grd_ite]
  exact grd_iff ⟨fun h => ⟨h.1, h.2⟩, fun h => ⟨h.lo, h.hi⟩⟩
@[simp] theorem q_mod {i j : Int} : modP (.int i) (.int j) = grd (0 < j) (some (.int (i % j))) := by
  unfold modP
  simp only [grd_ite]
  rfl
@[simp] theorem q_pow {i j : Int} : powP (.int i) (.int j) = grd (0 ≤ j ∧ j ≤ 1000 ∧ In63 i) (some (.int (i ^ j.toNat))) := by
  unfold powP
  simp only [grd_ite]
  exact grd_iff ⟨fun h => ⟨h.1, h.2.1, h.2.2.1, h.2.2.2⟩, fun h => ⟨h.1, h.2.1, h.2.2.lo, h.2.2.hi⟩⟩
@[simp] theorem q_mul {i j : Int} : mulP (.int i) (.int j) = grd (In64 i ∨ In64 j) (some (.int (i * j))) := by
  unfold mulP
  simp only [grd_ite]
  exact grd_iff ⟨fun h => h.elim (fun h => .inl ⟨h.1, h.2⟩) fun h => .inr ⟨h.1, h.2⟩, fun h => h.elim (fun h => .inl ⟨h.lo, h.hi⟩) fun h => .inr ⟨h.lo, h.hi⟩⟩
@[simp] theorem q_lt {i j : Int} : ltP (.int i) (.int j) = some (.bool (decide (i < j))) := (rfl)
@[simp] theorem q_le {i j : Int} : leP (.int i) (.int j) = some (.bool (decide (i ≤ j))) := (rfl)
@[simp] theorem q_gtU {i j : Int} : gtU (.int i) (.int j) = some (.bool (decide (j < i))) := (rfl)
@[simp] theorem q_gt {i j : Int} : gtP (.int i) (.int j) = some (.bool (decide (j < i))) := (rfl)
@[simp] theorem q_ge {i j : Int} : geP (.int i) (.int j) = some (.bool (decide (j ≤ i))) := (rfl)
@[simp] theorem q_neg {i : Int} : negP (.int i) = some (.int (-i)) := (rfl)
theorem sh_int {i : Int} : SeqAt.shaped (.int i) = true := rfl
@[simp] theorem q_eq_i {i j : Int} : eqP (.int i) (.int j) = some (.bool (i == j)) := (rfl)
@[simp] theorem q_ne_i {i j : Int} : neP (.int i) (.int j) = some (.bool (!(i == j))) := (rfl)
@[simp] theorem q_is {x : PD} : isU x .none = some (.bool (isNone x)) := by cases x <;> rfl
@[simp] theorem q_isnt {x : PD} : isntU x .none = some (.bool (!isNone x)) := by cases x <;> rfl
@[simp] theorem q_isb {b c : Bool} : isU (.bool b) (.bool c) = some (.bool (b == c)) := (rfl)
@[simp] theorem q_isntb {b c : Bool} : isntU (.bool b) (.bool c) = some (.bool (b != c)) := (rfl)
@[simp] theorem q_isNone_n : isNone .none = true := (rfl)
@[simp] theorem q_isNone_i {i : Int} : isNone (.int i) = false := (rfl)
@[simp] theorem q_isNone_t {ds : List PD} : isNone (.tuple ds) = false := (rfl)
@[simp] theorem q_ix_t {ds : List PD} {i : Int} : ixP (.tuple ds) (.int i) = atI ds i := (rfl)
@[simp] theorem q_ix_l {ds : List PD} {i : Int} : ixP (.list ds) (.int i) = atI ds i := (rfl)
@[simp] theorem q_ix_s {ds : List PD} {i : Int} : ixP (scrD ds) (.int i) = atI ds i := (rfl)
@[simp] theorem q_sl_t {ds : List PD} {lo hi : Option Int} : slP (.tuple ds) lo hi = some (.tuple (cutD ds lo hi)) := (rfl)
@[simp] theorem q_sl_l {ds : List PD} {lo hi : Option Int} : slP (.list ds) lo hi = some (.list (cutD ds lo hi)) := (rfl)
@[simp] theorem q_sl_s {ds : List PD} {lo hi : Option Int} : slP (scrD ds) lo hi = some (.list (cutD ds lo hi)) := (rfl)
@[simp] theorem q_seq_t {ds : List PD} : seqP (.tuple ds) = some ds := (rfl)
@[simp] theorem q_seq_l {ds : List PD} : seqP (.list ds) = some ds := (rfl)
@[simp] theorem q_seq_s {ds : List PD} : seqP (scrD ds) = some ds := (rfl)
@[simp] theorem q_len_t {ds : List PD} : lenP (.tuple ds) = some (natD ds.length) := (rfl)
@[simp] theorem q_len_l {ds : List PD} : lenP (.list ds) = some (natD ds.length) := (rfl)
@[simp] theorem q_len_s {ds : List PD} : lenP (scrD ds) = some (natD ds.length) := (rfl)
@[simp] theorem q_tupP_l {ds : List PD} : tupP (.list ds) = some (.tuple ds) := (rfl)
@[simp] theorem q_tupP_t {ds : List PD} : tupP (.tuple ds) = some (.tuple ds) := (rfl)
@[simp] theorem q_listP_l {ds : List PD} : listP (.list ds) = some (.list ds) := (rfl)
@[simp] theorem q_listP_t {ds : List PD} : listP (.tuple ds) = some (.list ds) := (rfl)
@[simp] theorem q_absP {i : Int} : absP (.int i) = some (.int (if i < 0 then -i else i)) := (rfl)
@[simp] theorem q_enum_t {ds : List PD} : enumP [.tuple ds] = some (pairsD ds) := (rfl)
@[simp] theorem q_enum_l {ds : List PD} : enumP [.list ds] = some (pairsD ds) := (rfl)
@[simp] theorem q_zip_t {ds es : List PD} : zipP [.tuple ds, .tuple es] = some (zipD ds es) := (rfl)
@[simp] theorem q_zip_l {ds es : List PD} : zipP [.list ds, .list es] = some (zipD ds es) := (rfl)
theorem rng_eq {i : Int} {n : Nat} : (List.range n).map (fun k => PyData.int (i + (k : Nat))) = (List.range n).map fun (k : Nat) => PyData.int (i + (k : Int)) := (rfl)
@[simp] theorem q_rng {j : Int} : rngP [.int j] = grd (In62 j) (some ((List.range j.toNat).map natD)) := by
  have e : (List.range j.toNat).map (fun k => PyData.int (0 + (k : Nat))) = (List.range j.toNat).map natD := by
    apply List.map_congr_left
    intro k _
    rw [Int.zero_add]
  unfold rngP
  dsimp only
  rw [e, grd_ite]
  exact grd_iff ⟨fun h => ⟨h.1, h.2⟩, fun h => ⟨h.lo, h.hi⟩⟩
@[simp] theorem q_full_n : full .none = false := (rfl)
@[simp] theorem q_full_b {b : Bool} : full (.bool b) = false := (rfl)
@[simp] theorem q_full_i {i : Int} : full (.int i) = false := (rfl)
@[simp] theorem q_full_s {x : Str} : full (.str x) = false := (rfl)
@[simp] theorem q_full_l {ds : List PD} : full (.list ds) = false := (rfl)
@[simp] theorem q_full_t {ds : List PD} : full (.tuple ds) = false := (rfl)
@[simp] theorem q_full_d : full (.dict []) = false := (rfl)
@[simp] theorem q_full_d1 {k : Str} {d : PD} {r : List (PD × PD)} : full (.dict ((.str k, d) :: r)) = false := (rfl)
@[simp] theorem q_xD1 {k : Str} {a : XE} {v : VE} : xD1 k a v = (a v).bind fun d => some (.dict [(.str k, d)]) := (rfl)
@[simp] theorem q_flat_n : flat .none = true := by simp [flat]
@[simp] theorem q_flat_b {b : Bool} : flat (.bool b) = true := by simp [flat]
@[simp] theorem q_flat_i {i : Int} : flat (.int i) = true := by simp [flat]
@[simp] theorem q_flat_s {x : Str} : flat (.str x) = true := by simp [flat]
@[simp] theorem q_flat_t {ds : List PD} : flat (.tuple ds) = flats ds := by simp [flat]
@[simp] theorem q_flats_nil : flats [] = true := by simp [flats]
@[simp] theorem q_flats_cons {d : PD} {ds : List PD} : flats (d :: ds) = (flat d && flats ds) := by simp [flats]
/-! over the state -/
@[simp] theorem q_wM {x : XE} : wM x ρ = (x (mk ρ)).bind fun d => some (d, ρ) := (rfl)
@[simp] theorem q_wV {x : XE} : wV x ρ = (x (vw ρ)).bind fun d => grd (flat d = true) (some (d, ρ)) := by
  unfold wV
  simp only [grd_ite]
@[simp] theorem q_wMT {x : XT} : wMT x ρ = (x (mk ρ)).bind fun d => some (d, ρ) := (rfl)
@[simp] theorem q_wVT {x : XT} : wVT x ρ = (x (vw ρ)).bind fun d => some (d, ρ) := (rfl)
@[simp] theorem q_wNil : wNil ρ = some ([], ρ) := (rfl)
@[simp] theorem q_wCons {a : XW} {as : XWA} : wCons a as ρ = (a ρ).bind fun x => (as x.2).bind fun xs => some (x.1 :: xs.1, xs.2) := (rfl)
@[simp] theorem q_wOp {f : PD → PD → Option PD} {a b : XW} : wOp f a b ρ = (a ρ).bind fun x => (b x.2).bind fun y => (f x.1 y.1).bind fun z => some (z, y.2) := (rfl)
@[simp] theorem q_wTup {as : XWA} : wTup as ρ = (as ρ).bind fun x => grd (x.1.length ≤ 100000) (some (.tuple x.1, x.2)) := by
  unfold wTup
  simp only [grd_ite]
@[simp] theorem q_wLst {as : XWA} : wLst as ρ = (as ρ).bind fun x => grd (x.1.length ≤ 100000) (some (.list x.1, x.2)) := by
  unfold wLst
  simp only [grd_ite]
@[simp] theorem q_wCB {f : List PD → Option PD} {as : XWA} : wCB f as ρ = (as ρ).bind fun x => (f x.1).bind fun z => some (z, x.2) := (rfl)
@[simp] theorem q_wB {a : XW} : wB a ρ = (a ρ).bind fun x => (isB x.1).bind fun b => some (b, x.2) := (rfl)
@[simp] theorem q_wIf {c : XWT} {a b : XW} : wIf c a b ρ = (c ρ).bind fun k => alt k.1 (tag (a k.2)) (tag (b k.2)) := (rfl)
@[simp] theorem q_wCallK {i : Nat} {g : List Cel → List PD → Option (PD × List Cel)} {as : XWA} : wCallK i g as ρ = (ownAt ρ i).bind fun _ => (as ρ).bind fun x => (ownAt x.2 i).bind fun cs => (g cs x.1).bind fun y => some (y.1, x.2.set i (.own y.2)) := (rfl)
@[simp] theorem q_ownAt0 {cs : List Cel} {r : Env} : ownAt (.own cs :: r) 0 = some cs := (rfl)
@[simp] theorem q_ownAtS {s : Sl} {r : Env} {i : Nat} : ownAt (s :: r) (i + 1) = ownAt r i := (rfl)
@[simp] theorem q_wFz {o : XWO} : wFz o ρ = (o ρ).bind fun x => some (.list (x.1.map Cel.pd), x.2) := (rfl)
@[simp] theorem q_wOM {x : XE} : wOM x ρ = ((x (mk ρ)).bind asList).bind fun ds => some (dats ds, ρ) := (rfl)
@[simp] theorem q_wOV {x : XE} : wOV x ρ = ((x (vw ρ)).bind asList).bind fun ds => grd (flats ds = true) (some (dats ds, ρ)) := by
  unfold wOV
  simp only [grd_ite]
  rfl
@[simp] theorem q_asList {ds : List PD} : asList (.list ds) = some ds := (rfl)
@[simp] theorem q_wOL {as : XWC} : wOL as ρ = (as ρ).bind fun x => grd (x.1.length ≤ 100000) (some x) := by
  unfold wOL
  simp only [grd_ite]
@[simp] theorem q_wcNil : wcNil ρ = some ([], ρ) := (rfl)
@[simp] theorem q_wcDat {a : XW} {as : XWC} : wcDat a as ρ = (a ρ).bind fun x => (as x.2).bind fun xs => some (.dat x.1 :: xs.1, xs.2) := (rfl)
@[simp] theorem q_wcSub {a : XWO} {as : XWC} : wcSub a as ρ = (a ρ).bind fun x => (allDat x.1).bind fun ds => (as x.2).bind fun xs => some (.sub ds :: xs.1, xs.2) := (rfl)
@[simp] theorem q_allDat {ds : List PD} : allDat (dats ds) = some ds := @allDat_map kk0 ds
@[simp] theorem q_allDat_nil : allDat [] = some [] := (rfl)
@[simp] theorem q_wCallD {f : List PD → Option (List Cel)} {as : XWA} : wCallD f as ρ = (as ρ).bind fun x => (f x.1).bind fun cs => some (cs, x.2) := (rfl)
@[simp] theorem q_wPop {i : Nat} {a : XW} : wPop i a ρ = (ownAt ρ i).bind fun _ => (a ρ).bind fun x => (isI x.1).bind fun k => (ownAt x.2 i).bind fun cs => grd (In63e k) ((ixN cs.length k).bind fun n => (datAt cs n).bind fun d => some (d, x.2.set i (.own (cs.eraseIdx n)))) := by
  unfold wPop
  simp only [grd_ite]
  congr 1; funext _; congr 1; funext x; congr 1; funext k; congr 1; funext cs
  exact grd_iff ⟨fun h => ⟨h.1, h.2⟩, fun h => ⟨h.lo, h.hi⟩⟩
@[simp] theorem q_isI {i : Int} : isI (.int i) = some i := (rfl)
@[simp] theorem q_wiE {a : XW} : wiE a ρ = (a ρ).bind fun x => (seqP x.1).bind fun xs => some (xs, x.2) := (rfl)
@[simp] theorem q_wiA {f : List PD → Option (List PD)} {as : XWA} : wiA f as ρ = (as ρ).bind fun x => (f x.1).bind fun xs => some (xs, x.2) := (rfl)
@[simp] theorem q_gName {i : Nat} {x : PD} : gName' i x ρ = some (ρ.set i (.dat x)) := (rfl)
@[simp] theorem q_gNil : gNil' [] ρ = some ρ := (rfl)
@[simp] theorem q_gCons {g : XG} {gs : XGs} {x : PD} {xs : List PD} : gCons' g gs (x :: xs) ρ = (g x ρ).bind fun v1 => gs xs v1 := (rfl)
@[simp] theorem q_gTup {n : Nat} {gs : XGs} {x : PD} : gTup' n gs x ρ = (seqP x).bind fun ds => grd (ds.length = n) (gs ds ρ) := by
  unfold gTup'
  simp only [grd_ite]
/-! statements -/
@[simp] theorem q_sNext : sNext ρ = some (.nxt ρ) := (rfl)
@[simp] theorem q_sRet {w : XW} : sRet w ρ = (w ρ).bind fun x => some (.ret x.1 x.2) := (rfl)
@[simp] theorem q_sRetO {w : XWO} : sRetO w ρ = (w ρ).bind fun x => some (.retO x.1 x.2) := (rfl)
@[simp] theorem q_sIf {c : XWT} {x y : XS} : sIf c x y ρ = (c ρ).bind fun k => alt k.1 (tag (x k.2)) (tag (y k.2)) := (rfl)
@[simp] theorem q_sAsg {g : XG} {w : XW} : sAsg g w ρ = (w ρ).bind fun x => (g x.1 x.2).bind fun ρ1 => some (.nxt ρ1) := (rfl)
@[simp] theorem q_sOwn {i : Nat} {w : XWO} : sOwn i w ρ = (w ρ).bind fun x => grd (i < x.2.length) (some (.nxt (x.2.set i (.own x.1)))) := by
  unfold sOwn
  simp only [grd_ite]
@[simp] theorem q_sDrop {w : XW} : sDrop w ρ = (w ρ).bind fun x => some (.nxt x.2) := (rfl)
@[simp] theorem q_toSl_d {d : PD} : toSl (.dat d) = .dat d := (rfl)
@[simp] theorem q_toSl_s {ds : List PD} : toSl (.sub ds) = .own (dats ds) := (rfl)
@[simp] theorem q_two {c e : Cel} : two [c, e] = some (c, e) := (rfl)
@[simp] theorem q_sPar {i j : Nat} {as : XWC} : sPar i j as ρ = (as ρ).bind fun x => (two x.1).bind fun c => grd (i < x.2.length ∧ j < x.2.length) (some (.nxt ((x.2.set i (toSl c.1)).set j (toSl c.2)))) := by
  unfold sPar
  simp only [grd_ite]
@[simp] theorem q_sApp {i : Nat} {a : XW} : sApp i a ρ = (ownAt ρ i).bind fun _ => (a ρ).bind fun x => (ownAt x.2 i).bind fun cs => grd (cs.length < 100000) (some (.nxt (x.2.set i (.own (cs ++ [.dat x.1]))))) := by
  unfold sApp
  simp only [grd_ite]
@[simp] theorem q_sSet {i : Nat} {k : XE} {a : XW} : sSet i k a ρ = (a ρ).bind fun x => (ownAt x.2 i).bind fun cs => ((k (vw x.2)).bind isI).bind fun k => (ixN cs.length k).bind fun n => (datAt cs n).bind fun _ => some (.nxt (x.2.set i (.own (cs.set n (.dat x.1))))) := (rfl)
@[simp] theorem q_sSetS {i : Nat} {k j : XE} {a : XW} : sSetS i k j a ρ = (a ρ).bind fun x => (ownAt x.2 i).bind fun cs => ((k (vw x.2)).bind isI).bind fun k => (ixN cs.length k).bind fun n => (subAt cs n).bind fun ds => ((j (vw x.2)).bind isI).bind fun j => (ixN ds.length j).bind fun m => some (.nxt (x.2.set i (.own (cs.set n (.sub (ds.set m x.1)))))) := (rfl)
@[simp] theorem q_sFz {i : Nat} {y : XS} : sFz i y ρ = y (fzE ρ i) := (rfl)
@[simp] theorem q_fz0 {cs : List Cel} {r : Env} : fzE (.own cs :: r) 0 = .dat (.list (cs.map Cel.pd)) :: r := (rfl)
@[simp] theorem q_fzS {s : Sl} {r : Env} {i : Nat} : fzE (s :: r) (i + 1) = s :: fzE r i := by
  unfold fzE
  rw [List.getElem?_cons_succ]
  cases h : r[i]? with
  | none => rfl
  | some q => cases q <;> rfl
@[simp] theorem q_sFor {src : XWI} {g : XG} {b : XS} : sFor src g b ρ = (src ρ).bind fun x => forGo g b x.1 x.2 := (rfl)
end
end Uv

namespace Uv
open PySem PySem.Spec PyProof.Rows L2
section
variable {ρ : Env} {v : VE}
/-! ### further functions at work -/
@[simp] theorem q_wUn {f : PD → Option PD} {a : XW} : wUn f a ρ = (a ρ).bind fun x => (f x.1).bind fun z => some (z, x.2) := (rfl)
@[simp] theorem q_wTAnd {a b : XWT} : wTAnd a b ρ = (a ρ).bind fun c => alt c.1 (tag (b c.2)) (tag (some (false, c.2))) := (rfl)
@[simp] theorem q_wTOr {a b : XWT} : wTOr a b ρ = (a ρ).bind fun c => alt c.1 (tag (some (true, c.2))) (tag (b c.2)) := (rfl)
@[simp] theorem q_wTNot {a : XWT} : wTNot a ρ = (a ρ).bind fun c => some (!c.1, c.2) := (rfl)
@[simp] theorem q_wAnd {a b : XW} : wAnd a b ρ = (wB a ρ).bind fun c => alt c.1 (tag (b c.2)) (tag (some (.bool false, c.2))) := (rfl)
@[simp] theorem q_wOr {a b : XW} : wOr a b ρ = (wB a ρ).bind fun c => alt c.1 (tag (some (.bool true, c.2))) (tag (b c.2)) := (rfl)
@[simp] theorem q_wNot {a : XW} : wNot a ρ = (wB a ρ).bind fun c => some (.bool (!c.1), c.2) := (rfl)
@[simp] theorem q_sExt {i : Nat} {a : XW} : sExt i a ρ = (ownAt ρ i).bind fun _ => (a ρ).bind fun x => (asList x.1).bind fun ds => (ownAt x.2 i).bind fun cs => grd (cs.length + ds.length ≤ 100000) (some (.nxt (x.2.set i (.own (cs ++ dats ds))))) := by
  unfold sExt
  simp only [grd_ite]
  rfl
@[simp] theorem q_sIns {i : Nat} {as : XWA} : sIns i as ρ = (ownAt ρ i).bind fun _ => (as ρ).bind fun x => (insA x.1).bind fun kd => (ownAt x.2 i).bind fun cs => grd (cs.length < 100000 ∧ 0 ≤ kd.1 ∧ In63e kd.1) (some (.nxt (x.2.set i (.own (cs.take kd.1.toNat ++ [.dat kd.2] ++ cs.drop kd.1.toNat))))) := by
  unfold sIns
  simp only [grd_ite]
  congr 1; funext _; congr 1; funext x; congr 1; funext k; congr 1; funext cs
  exact grd_iff ⟨fun h => ⟨h.1, h.2.1, by have := h.2.1; omega, h.2.2⟩, fun h => ⟨h.1, h.2.1, h.2.2.hi⟩⟩
@[simp] theorem q_insA {i : Int} {d : PD} : insA [.int i, d] = some (i, d) := (rfl)
@[simp] theorem q_sPopS {i : Nat} {k j : XE} : sPopS i k j ρ = (ownAt ρ i).bind fun cs => ((k (vw ρ)).bind isI).bind fun k => (ixN cs.length k).bind fun n => (subAt cs n).bind fun ds => ((j (vw ρ)).bind isI).bind fun j => grd (In63e j) ((ixN ds.length j).bind fun m => some (.nxt (ρ.set i (.own (cs.set n (.sub (ds.eraseIdx m))))))) := by
  unfold sPopS
  simp only [grd_ite]
  congr 1; funext cs; congr 1; funext k; congr 1; funext n; congr 1; funext ds; congr 1; funext j
  exact grd_iff ⟨fun h => ⟨h.1, h.2⟩, fun h => ⟨h.lo, h.hi⟩⟩
def unAt (ρ : Env) (i : Nat) (x : Option Out) : Option Out := match ρ[i]? with
  | some .un => x
  | _ => none
@[simp] theorem unAt_0 {r : Env} {x : Option Out} : unAt (.un :: r) 0 x = x := (rfl)
@[simp] theorem unAt_S {s : Sl} {r : Env} {i : Nat} {x : Option Out} : unAt (s :: r) (i + 1) x = unAt r i x := (rfl)
@[simp] theorem q_sAppS {i : Nat} {k : XE} {a : XW} : sAppS i k a ρ = (ownAt ρ i).bind fun cs => ((k (vw ρ)).bind isI).bind fun kk => (ixN cs.length kk).bind fun n => (subAt cs n).bind fun ds => (a (ρ.set i .un)).bind fun x => unAt x.2 i (grd (ds.length < 100000) (some (.nxt (x.2.set i (.own (cs.set n (.sub (ds ++ [x.1])))))))) := by
  unfold sAppS
  simp only [grd_ite]
  rfl
@[simp] theorem q_sRetN : sRetN ρ = some (.ret .none ρ) := (rfl)
@[simp] theorem q_sCont : sCont ρ = some (.cnt ρ) := (rfl)
@[simp] theorem q_sBreak : sBreak ρ = some (.brk ρ) := (rfl)
@[simp] theorem q_sWhile {n : Nat} {c : XWT} {b : XS} : sWhile n c b ρ = whGo c b n ρ := (rfl)
@[simp] theorem q_wLc {src : XWI} {g : XG} {t : XWT} {e : XW} {vs : List Nat} : wLc src g t e vs ρ = (src ρ).bind fun x => grd (x.1.length ≤ 40000) ((wlGo g t e vs x.1 x.2).bind fun r => some (dats r.1, backE x.2 r.2 vs)) := by
  unfold wLc
  simp only [grd_ite]
  rfl
@[simp] theorem q_backE_nil {ρ1 : Env} : backE ρ1 ρ [] = ρ := (rfl)
@[simp] theorem q_backE_cons {ρ1 : Env} {i : Nat} {vs : List Nat} : backE ρ1 ρ (i :: vs) = (backE ρ1 ρ vs).set i (keepD ρ1[i]?) := (rfl)
@[simp] theorem q_keepD_d {d : PD} : keepD (some (.dat d)) = .dat d := (rfl)
@[simp] theorem q_keepD_u : keepD (some .un) = .un := (rfl)
@[simp] theorem q_keepD_o {cs : List Cel} : keepD (some (.own cs)) = .un := (rfl)
@[simp] theorem q_clearE_nil : clearE ρ [] = ρ := (rfl)
@[simp] theorem q_clearE_cons {i : Nat} {vs : List Nat} : clearE ρ (i :: vs) = (clearE ρ vs).set i .un := (rfl)
/-! ### where a def ends -/
def endP {Q : PD → Prop} (_ : Tag Q) : Out → Prop
  | .ret d _ => Q d
  | .nxt _ => Q .none
  | _ => False
def endW {Q : PD × List Cel → Prop} (_ : Tag Q) : Out → Prop
  | .ret d ρ => wp (ownAt ρ 0) (tag fun cs => Q (d, cs))
  | .nxt ρ => wp (ownAt ρ 0) (tag fun cs => Q (.none, cs))
  | _ => False
def endD' {Q : List Cel → Prop} (_ : Tag Q) : Out → Prop
  | .retO cs _ => Q cs
  | _ => False
section
variable {QP : PD → Prop} {QW : PD × List Cel → Prop} {QD : List Cel → Prop} {d : PD} {cs : List Cel}
@[simp] theorem endP_ret : endP (tag QP) (.ret d ρ) = QP d := (rfl)
@[simp] theorem endP_nxt : endP (tag QP) (.nxt ρ) = QP .none := (rfl)
@[simp] theorem endW_ret : endW (tag QW) (.ret d ρ) = wp (ownAt ρ 0) (tag fun cs => QW (d, cs)) := (rfl)
@[simp] theorem endW_nxt : endW (tag QW) (.nxt ρ) = wp (ownAt ρ 0) (tag fun cs => QW (.none, cs)) := (rfl)
@[simp] theorem endD_ret : endD' (tag QD) (.retO cs ρ) = QD cs := (rfl)
end
theorem wp_runP {n k : Nat} {X : XS} {ds : List PD} {Q : PD → Prop} (hn : ds.length = n) (h : wp (X (ds.map Sl.dat ++ List.replicate k Sl.un)) (tag (endP (tag Q)))) : wp (runP n k X ds) (tag Q) := by
  obtain ⟨o, e, h⟩ := h
  unfold runP
  rw [if_pos hn, e]
  cases o with
  | ret d ρ => exact ⟨_, rfl, h⟩
  | nxt ρ => exact ⟨_, rfl, h⟩
  | _ => exact h.elim
theorem wp_runW {n k : Nat} {X : XS} {cs : List Cel} {ds : List PD} {Q : PD × List Cel → Prop} (hn : ds.length = n) (h : wp (X (.own cs :: (ds.map Sl.dat ++ List.replicate k Sl.un))) (tag (endW (tag Q)))) : wp (runW n k X cs ds) (tag Q) := by
  obtain ⟨o, e, h⟩ := h
  unfold runW
  rw [if_pos hn, e]
  cases o with
  | ret d ρ =>
    obtain ⟨cs', e2, h2⟩ := h
    exact ⟨(d, cs'), by rw [Option.bind_some]; show (ownAt ρ 0).bind _ = _; rw [e2]; rfl, h2⟩
  | nxt ρ =>
    obtain ⟨cs', e2, h2⟩ := h
    exact ⟨(.none, cs'), by rw [Option.bind_some]; show (ownAt ρ 0).bind _ = _; rw [e2]; rfl, h2⟩
  | _ => exact h.elim
theorem wp_runD {n k : Nat} {X : XS} {ds : List PD} {Q : List Cel → Prop} (hn : ds.length = n) (h : wp (X (ds.map Sl.dat ++ List.replicate k Sl.un)) (tag (endD' (tag Q)))) : wp (runD n k X ds) (tag Q) := by
  obtain ⟨o, e, h⟩ := h
  unfold runD
  rw [if_pos hn, e]
  cases o with
  | retO d ρ => exact ⟨_, rfl, h⟩
  | _ => exact h.elim
/-- a value that is known -/
theorem eq_of_wp {α : Type} {o : Option α} {a : α} (h : wp o (tag fun x => x = a)) : o = some a := wp_eq.mp h
/-! ### loops -/
/-- what holds at a place of a loop: kept as it was written, only the state is run -/
structure Inv {J : Env → Prop} (t : Tag J) (ρ : Env) : Prop where
  of ::
  to : J ρ
def forK {J : Env → Prop} {Q : Out → Prop} (_ : Tag J) (_ : Tag Q) : Out → Prop
  | .nxt ρ => Inv (tag J) ρ
  | .cnt ρ => Inv (tag J) ρ
  | .brk ρ => Q (.nxt ρ)
  | .ret d ρ => Q (.ret d ρ)
  | .retO d ρ => Q (.retO d ρ)
section
variable {J : Env → Prop} {Q : Out → Prop} {d : PD} {cs : List Cel}
@[simp] theorem forK_nxt : forK (tag J) (tag Q) (.nxt ρ) = Inv (tag J) ρ := (rfl)
@[simp] theorem forK_cnt : forK (tag J) (tag Q) (.cnt ρ) = Inv (tag J) ρ := (rfl)
@[simp] theorem forK_brk : forK (tag J) (tag Q) (.brk ρ) = Q (.nxt ρ) := (rfl)
@[simp] theorem forK_ret : forK (tag J) (tag Q) (.ret d ρ) = Q (.ret d ρ) := (rfl)
@[simp] theorem forK_retO : forK (tag J) (tag Q) (.retO cs ρ) = Q (.retO cs ρ) := (rfl)
end
theorem wp_for {g : XG} {b : XS} {xs : List PD} {Q : Out → Prop} (I : Nat → Env → Prop) (h0 : I 0 ρ) (hs : ∀ (i : Nat) (h : i < xs.length) (ρ : Env), I i ρ → wp (g xs[i] ρ) (tag fun ρ1 => wp (b ρ1) (tag (forK (tag (I (i + 1))) (tag Q))))) (hq : ∀ ρ, I xs.length ρ → Q (.nxt ρ)) : wp (forGo g b xs ρ) (tag Q) := by
  induction xs generalizing ρ I with
  | nil => exact ⟨_, rfl, hq ρ h0⟩
  | cons x xs ih =>
    obtain ⟨ρ1, e1, o, e2, h2⟩ := hs 0 (Nat.succ_pos _) ρ h0
    have go : ∀ ρ2, I 1 ρ2 → wp (forGo g b xs ρ2) (tag Q) := fun ρ2 h3 => ih (fun i => I (i + 1)) h3 (fun i hi ρ hI => hs (i + 1) (Nat.succ_lt_succ hi) ρ hI) hq
    have e1 : g x ρ = some ρ1 := e1
    unfold forGo
    rw [e1, Option.bind_some, e2, Option.bind_some]
    cases o with
    | nxt ρ2 => exact go ρ2 h2.to
    | cnt ρ2 => exact go ρ2 h2.to
    | brk ρ2 => exact ⟨_, rfl, h2⟩
    | ret d ρ2 => exact ⟨_, rfl, h2⟩
    | retO d ρ2 => exact ⟨_, rfl, h2⟩
@[simp] theorem Inv_wp {g : Env → Option Out} {Q : Out → Prop} : Inv (tag fun ρ2 => wp (g ρ2) (tag Q)) ρ = wp (g ρ) (tag Q) := propext ⟨fun h => h.to, fun h => ⟨h⟩⟩
theorem wp_for_nil {g : XG} {b : XS} {Q : Out → Prop} : wp (forGo g b [] ρ) (tag Q) = Q (.nxt ρ) := by unfold forGo; exact wp_some
theorem wp_for_cons {g : XG} {b : XS} {x : PD} {xs : List PD} {Q : Out → Prop} : wp (forGo g b (x :: xs) ρ) (tag Q) = wp (g x ρ) (tag fun ρ1 => wp (b ρ1) (tag (forK (tag fun ρ2 => wp (forGo g b xs ρ2) (tag Q)) (tag Q)))) := by
  have e : forGo g b (x :: xs) ρ = (g x ρ).bind fun ρ1 => (b ρ1).bind fun o => match o with
    | .nxt ρ2 => forGo g b xs ρ2
    | .cnt ρ2 => forGo g b xs ρ2
    | .brk ρ2 => some (.nxt ρ2)
    | .ret d ρ2 => some (.ret d ρ2)
    | .retO d ρ2 => some (.retO d ρ2) := rfl
  rw [e, wp_bind]
  apply propext
  have k : ∀ o : Out, wp (match o with
    | .nxt ρ2 => forGo g b xs ρ2
    | .cnt ρ2 => forGo g b xs ρ2
    | .brk ρ2 => some (.nxt ρ2)
    | .ret d ρ2 => some (.ret d ρ2)
    | .retO d ρ2 => some (.retO d ρ2)) (tag Q) ↔ forK (tag fun ρ2 => wp (forGo g b xs ρ2) (tag Q)) (tag Q) o := fun o => by cases o <;> simp
  constructor
  · exact fun h => wp_mono h fun ρ1 h1 => wp_mono (by rw [wp_bind] at h1; exact h1) fun o h2 => (k o).mp h2
  · exact fun h => wp_mono h fun ρ1 h1 => by rw [wp_bind]; exact wp_mono h1 fun o h2 => (k o).mpr h2
theorem wp_forM {α : Type} {g : XG} {b : XS} {l : List α} {enc : α → PD} {Q : Out → Prop} (I : Nat → Env → Prop) (h0 : I 0 ρ) (hs : ∀ (i : Nat) (h : i < l.length) (ρ : Env), I i ρ → wp (g (enc l[i]) ρ) (tag fun ρ1 => wp (b ρ1) (tag (forK (tag (I (i + 1))) (tag Q))))) (hq : ∀ ρ, I l.length ρ → Q (.nxt ρ)) : wp (forGo g b (l.map enc) ρ) (tag Q) :=
  wp_for I h0 (fun i h ρ hI => by
    rw [List.getElem_map]
    exact hs i (by simpa using h) ρ hI) (fun ρ h => hq ρ (by simpa using h))
theorem wp_forR {g : XG} {b : XS} {n : Nat} {Q : Out → Prop} (I : Nat → Env → Prop) (h0 : I 0 ρ) (hs : ∀ (i : Nat) (h : i < n) (ρ : Env), I i ρ → wp (g (natD i) ρ) (tag fun ρ1 => wp (b ρ1) (tag (forK (tag (I (i + 1))) (tag Q))))) (hq : ∀ ρ, I n ρ → Q (.nxt ρ)) : wp (forGo g b ((List.range n).map natD) ρ) (tag Q) :=
  wp_forM I h0 (fun i h ρ hI => by
    rw [List.getElem_range]
    exact hs i (by simpa using h) ρ hI) (fun ρ h => hq ρ (by simpa using h))
theorem pairsD_map {α : Type} (enc : α → PD) (xs : List α) : pairsD (xs.map enc) = (xs.zipIdx).map fun p => .tuple [natD p.2, enc p.1] := by
  unfold pairsD
  rw [List.zipIdx_map, List.map_map]
  rfl
@[simp] theorem pairsD_len {xs : List PD} : (pairsD xs).length = xs.length := by unfold pairsD; simp
theorem wp_forE {α : Type} {g : XG} {b : XS} {l : List α} {enc : α → PD} {Q : Out → Prop} (I : Nat → Env → Prop) (h0 : I 0 ρ) (hs : ∀ (i : Nat) (h : i < l.length) (ρ : Env), I i ρ → wp (g (.tuple [natD i, enc l[i]]) ρ) (tag fun ρ1 => wp (b ρ1) (tag (forK (tag (I (i + 1))) (tag Q))))) (hq : ∀ ρ, I l.length ρ → Q (.nxt ρ)) : wp (forGo g b (pairsD (l.map enc)) ρ) (tag Q) := by
  rw [pairsD_map]
  refine wp_forM I h0 (fun i h ρ hI => ?_) (fun ρ h => hq ρ (by simpa using h))
  have h' : i < l.length := by simpa using h
  have := hs i h' ρ hI
  simp only [List.getElem_zipIdx, Nat.zero_add]
  exact this
theorem wp_while {c : XWT} {b : XS} {n : Nat} {Q : Out → Prop} (I : Nat → Env → Prop) {k : Nat} (hk : k < n) (h0 : I k ρ) (hs : ∀ (k : Nat) (ρ : Env), I k ρ → wp (c ρ) (tag fun x => (x.1 = false → Q (.nxt x.2)) ∧ (x.1 = true → wp (b x.2) (tag (forK (tag fun ρ => ∃ j, j < k ∧ I j ρ) (tag Q)))))) : wp (whGo c b n ρ) (tag Q) := by
  induction n generalizing k ρ with
  | zero => omega
  | succ n ih =>
    obtain ⟨⟨t, ρ1⟩, e1, h1, h2⟩ := hs k ρ h0
    unfold whGo
    rw [e1, Option.bind_some]
    cases t with
    | false => exact ⟨_, rfl, h1 rfl⟩
    | true =>
      obtain ⟨o, e2, h3⟩ := h2 rfl
      have e2 : b ρ1 = some o := e2
      simp only [if_true, e2, Option.bind_some]
      cases o with
      | nxt ρ2 => obtain ⟨j, hj, hI⟩ := h3.to; exact ih (by omega) hI
      | cnt ρ2 => obtain ⟨j, hj, hI⟩ := h3.to; exact ih (by omega) hI
      | brk ρ2 => exact ⟨_, rfl, h3⟩
      | ret d ρ2 => exact ⟨_, rfl, h3⟩
      | retO d ρ2 => exact ⟨_, rfl, h3⟩
/-! ### comprehensions -/
theorem wp_lc {α : Type} {g : XGV} {t : XT} {e : XE} {enc : α → PD} (p : α → Bool) (f : α → PD) {l : List α} {Q : List PD → Prop} (h : ∀ x ∈ l, wp (g (enc x) v) (tag fun v1 => wp (t v1) (tag fun b => b = p x ∧ (p x = true → wp (e v1) (tag fun d => d = f x))))) (hq : Q ((l.filter p).map f)) : wp (lcGo g t e v (l.map enc)) (tag Q) := by
  have main : ∀ l : List α, (∀ x ∈ l, wp (g (enc x) v) (tag fun v1 => wp (t v1) (tag fun b => b = p x ∧ (p x = true → wp (e v1) (tag fun d => d = f x))))) → lcGo g t e v (l.map enc) = some ((l.filter p).map f) := by
    intro l
    induction l with
    | nil => intro _; rfl
    | cons x xs ih =>
      intro h
      obtain ⟨v1, h1, b, h2, hb, h3⟩ := h x (List.mem_cons_self ..)
      subst hb
      have ih := ih fun y hy => h y (List.mem_cons_of_mem _ hy)
      rw [List.map_cons]
      unfold lcGo
      rw [h1, Option.bind_some, h2, Option.bind_some, ih]
      cases hp : p x with
      | true =>
        obtain ⟨d, h4, h5⟩ := h3 hp
        subst h5
        rw [if_pos rfl, h4, List.filter_cons, if_pos hp]
        rfl
      | false => rw [if_neg Bool.false_ne_true, List.filter_cons, if_neg (by rw [hp]; exact Bool.false_ne_true)]
  exact ⟨_, main l h, hq⟩
theorem wp_lcT {α : Type} {g : XGV} {e : XE} {enc : α → PD} (f : α → PD) {l : List α} {Q : List PD → Prop} (h : ∀ x ∈ l, wp (g (enc x) v) (tag fun v1 => wp (e v1) (tag fun d => d = f x))) (hq : Q (l.map f)) : wp (lcGo g xYes e v (l.map enc)) (tag Q) :=
  wp_lc (fun _ => true) f (fun x hx => wp_mono (h x hx) fun v1 h1 => ⟨true, rfl, rfl, fun _ => h1⟩) (by rw [List.filter_eq_self.mpr fun _ _ => rfl]; exact hq)
/-- over enumerate -/
theorem wp_lcE {α : Type} {g : XGV} {t : XT} {e : XE} {enc : α → PD} (p : α × Nat → Bool) (f : α × Nat → PD) {l : List α} {Q : List PD → Prop} (h : ∀ (i : Nat) (hi : i < l.length), wp (g (.tuple [natD i, enc l[i]]) v) (tag fun v1 => wp (t v1) (tag fun b => b = p (l[i], i) ∧ (p (l[i], i) = true → wp (e v1) (tag fun d => d = f (l[i], i)))))) (hq : Q ((l.zipIdx.filter p).map f)) : wp (lcGo g t e v (pairsD (l.map enc))) (tag Q) := by
  rw [pairsD_map]
  refine wp_lc p f (fun x hx => ?_) hq
  obtain ⟨y, i⟩ := x
  obtain ⟨h1, h2⟩ := List.mem_zipIdx' hx
  have h2 : y = l[i] := h2
  rw [h2]
  exact h i h1
theorem wp_lcET {α : Type} {g : XGV} {e : XE} {enc : α → PD} (f : α × Nat → PD) {l : List α} {Q : List PD → Prop} (h : ∀ (i : Nat) (hi : i < l.length), wp (g (.tuple [natD i, enc l[i]]) v) (tag fun v1 => wp (e v1) (tag fun d => d = f (l[i], i)))) (hq : Q (l.zipIdx.map f)) : wp (lcGo g xYes e v (pairsD (l.map enc))) (tag Q) :=
  wp_lcE (fun _ => true) f (fun i hi => wp_mono (h i hi) fun v1 h1 => ⟨true, rfl, rfl, fun _ => h1⟩) (by rw [List.filter_eq_self.mpr fun _ _ => rfl]; exact hq)
/-- a comprehension that draws; what is kept, by a word of each item -/
theorem wp_wl {g : XG} {t : XWT} {e : XW} {vs : List Nat} {xs : List PD} {Q : List PD × Env → Prop} (I : Nat → List PD → Env → Prop) (h0 : I 0 [] ρ) (hs : ∀ (i : Nat) (h : i < xs.length) (ds : List PD) (ρ : Env), I i ds ρ → wp (g xs[i] (clearE ρ vs)) (tag fun ρ1 => wp (t ρ1) (tag fun b => (b.1 = true → wp (e b.2) (tag fun d => Inv (tag (I (i + 1) (ds ++ [d.1]))) d.2)) ∧ (b.1 = false → Inv (tag (I (i + 1) ds)) b.2)))) (hq : ∀ ds ρ, I xs.length ds ρ → Q (ds, ρ)) : wp (wlGo g t e vs xs ρ) (tag Q) := by
  have main : ∀ (xs : List PD) (I : Nat → List PD → Env → Prop) (acc : List PD) (ρ : Env), I 0 acc ρ → (∀ (i : Nat) (h : i < xs.length) (ds : List PD) (ρ : Env), I i ds ρ → wp (g xs[i] (clearE ρ vs)) (tag fun ρ1 => wp (t ρ1) (tag fun b => (b.1 = true → wp (e b.2) (tag fun d => Inv (tag (I (i + 1) (ds ++ [d.1]))) d.2)) ∧ (b.1 = false → Inv (tag (I (i + 1) ds)) b.2)))) → ∃ ds ρ', wlGo g t e vs xs ρ = some (ds, ρ') ∧ I xs.length (acc ++ ds) ρ' := by
    intro xs
    induction xs with
    | nil => intro I acc ρ h0 _; exact ⟨[], ρ, rfl, by simpa using h0⟩
    | cons x xs ih =>
      intro I acc ρ h0 hs
      obtain ⟨ρ1, e1, ⟨b, ρ2⟩, e2, h1, h2⟩ := hs 0 (Nat.succ_pos _) acc ρ h0
      have e1 : g x (clearE ρ vs) = some ρ1 := e1
      unfold wlGo
      rw [e1, Option.bind_some, e2, Option.bind_some]
      cases b with
      | true =>
        obtain ⟨⟨d, ρ3⟩, e3, h3⟩ := h1 rfl
        obtain ⟨ds, ρ', e4, h4⟩ := ih (fun i => I (i + 1)) (acc ++ [d]) ρ3 h3.to fun i hi ds ρ hI => hs (i + 1) (Nat.succ_lt_succ hi) ds ρ hI
        refine ⟨d :: ds, ρ', ?_, by simpa using h4⟩
        have e3 : e ρ2 = some (d, ρ3) := e3
        simp only [if_true, e3, Option.bind_some, e4]
      | false =>
        obtain ⟨ds, ρ', e4, h4⟩ := ih (fun i => I (i + 1)) acc ρ2 (h2 rfl).to fun i hi ds ρ hI => hs (i + 1) (Nat.succ_lt_succ hi) ds ρ hI
        refine ⟨ds, ρ', ?_, by simpa using h4⟩
        simp [e4]
  obtain ⟨ds, ρ', e1, h1⟩ := main xs I [] ρ h0 hs
  exact ⟨_, e1, hq ds ρ' (by simpa using h1)⟩
theorem natD_toNat {r : Int} (h : 0 ≤ r) : natD r.toNat = .int r := by unfold natD; rw [Int.toNat_of_nonneg h]
theorem emod_nat {a b : Int} (hb : 0 < b) : ∃ j : Nat, (j : Int) < b ∧ a % b = (j : Int) := by
  have h1 := Int.emod_nonneg a (show b ≠ 0 by omega)
  have h2 := Int.emod_lt_of_pos a hb
  exact ⟨(a % b).toNat, by omega, by omega⟩
/-! ### places -/
theorem atI_nat' {α : Type} {xs : List α} {k : Nat} : atI xs (k : Int) = xs[k]? := by
  unfold atI ixN
  by_cases h : k < xs.length
  · rw [if_pos (by omega), if_pos (by omega)]
    simp
  · rw [if_pos (by omega), if_neg (by omega)]
    simp
    omega
theorem atI_at {α : Type} {xs : List α} {k : Nat} (h : k < xs.length) : atI xs (k : Int) = some xs[k] := by rw [atI_nat', List.getElem?_eq_getElem h]
theorem atI_map {α β : Type} {f : α → β} {xs : List α} {k : Nat} (h : k < xs.length) : atI (xs.map f) (k : Int) = some (f xs[k]) := by rw [atI_nat', List.getElem?_map, List.getElem?_eq_getElem h]; rfl
theorem atI_int {α β : Type} {f : α → β} {xs : List α} {k : Int} (h0 : 0 ≤ k) (h : k.toNat < xs.length) : atI (xs.map f) k = some (f xs[k.toNat]) := by
  obtain ⟨j, rfl⟩ : ∃ j : Nat, k = (j : Int) := ⟨k.toNat, by omega⟩
  exact atI_map (by simpa using h)
theorem atI_last {α : Type} {xs : List α} (h : xs ≠ []) : atI xs (-1) = some (xs.getLast h) := by
  unfold atI ixN
  have := List.length_pos_iff.mpr h
  rw [if_neg (by omega), if_pos (by omega)]
  simp [List.getLast_eq_getElem]
  rw [List.getElem?_eq_getElem (by omega)]
  congr 2
  omega
@[simp] theorem atI_0 {α : Type} {x : α} {xs : List α} : atI (x :: xs) 0 = some x := by simpa using atI_nat' (xs := x :: xs) (k := 0)
@[simp] theorem atI_1 {α : Type} {x y : α} {xs : List α} : atI (x :: y :: xs) 1 = some y := by simpa using atI_nat' (xs := x :: y :: xs) (k := 1)
@[simp] theorem atI_2 {α : Type} {x y z : α} {xs : List α} : atI (x :: y :: z :: xs) 2 = some z := by simpa using atI_nat' (xs := x :: y :: z :: xs) (k := 2)
@[simp] theorem atI_3 {α : Type} {x y z u : α} {xs : List α} : atI (x :: y :: z :: u :: xs) 3 = some u := by simpa using atI_nat' (xs := x :: y :: z :: u :: xs) (k := 3)
@[simp] theorem ixN_20 : ixN 2 0 = some 0 := (rfl)
@[simp] theorem ixN_21 : ixN 2 1 = some 1 := (rfl)
@[simp] theorem ixN_30 : ixN 3 0 = some 0 := (rfl)
@[simp] theorem ixN_31 : ixN 3 1 = some 1 := (rfl)
@[simp] theorem ixN_32 : ixN 3 2 = some 2 := (rfl)
@[simp] theorem ixN_40 : ixN 4 0 = some 0 := (rfl)
@[simp] theorem ixN_41 : ixN 4 1 = some 1 := (rfl)
@[simp] theorem ixN_42 : ixN 4 2 = some 2 := (rfl)
@[simp] theorem ixN_43 : ixN 4 3 = some 3 := (rfl)
theorem ixN_nat' {n k : Nat} (h : k < n) : ixN n (k : Int) = some k := by
  unfold ixN
  rw [if_pos (by omega), if_pos (by omega)]
  simp
theorem ixN_int {n : Nat} {k : Int} (h0 : 0 ≤ k) (h : k.toNat < n) : ixN n k = some k.toNat := by
  unfold ixN
  rw [if_pos (by omega), if_pos (by omega)]
@[simp] theorem datAt_0 {d : PD} {r : List Cel} : datAt (.dat d :: r) 0 = some d := (rfl)
@[simp] theorem datAt_S {c : Cel} {r : List Cel} {i : Nat} : datAt (c :: r) (i + 1) = datAt r i := (rfl)
@[simp] theorem subAt_0 {d : List PD} {r : List Cel} : subAt (.sub d :: r) 0 = some d := (rfl)
@[simp] theorem subAt_S {c : Cel} {r : List Cel} {i : Nat} : subAt (c :: r) (i + 1) = subAt r i := (rfl)
theorem subAt_set {os : List Cel} {s : Nat} {l : List PD} (h : s < os.length) : subAt (os.set s (.sub l)) s = some l := by
  unfold subAt
  rw [List.getElem?_set_self h]
/-- one of several, by a number -/
theorem wp_pick {α : Type} {l : List α} {r : Nat} {Q : α → Prop} (h : r < l.length) (hq : ∀ x ∈ l, Q x) : wp (atI l (r : Int)) (tag Q) := by
  rw [atI_at h]
  exact ⟨_, rfl, hq _ (List.getElem_mem h)⟩
/-! ### lists of numbers and truths -/
theorem unI_nats (ns : List Nat) : unI (ns.map natD) = some (ns.map fun (n : Nat) => (n : Int)) := by
  have e : ns.map natD = (ns.map fun (n : Nat) => (n : Int)).map PyData.int := by rw [List.map_map]; rfl
  rw [e]
  exact @unI_map kk0 _
theorem unI_of {α : Type} (f : α → Int) (l : List α) : unI (l.map fun x => PyData.int (f x)) = some (l.map f) := by
  have e : (l.map fun x => PyData.int (f x)) = (l.map f).map PyData.int := by rw [List.map_map]; rfl
  rw [e]
  exact @unI_map kk0 _
theorem unB_of {α : Type} (f : α → Bool) (l : List α) : unB (l.map fun x => PyData.bool (f x)) = some (l.map f) := by
  have e : (l.map fun x => PyData.bool (f x)) = (l.map f).map PyData.bool := by rw [List.map_map]; rfl
  rw [e]
  exact @unB_map kk0 _
end
end Uv
namespace Uv
theorem erase_perm {α : Type} : ∀ {l : List α} {j : Nat} (h : j < l.length), (l[j] :: l.eraseIdx j).Perm l
  | x :: xs, 0, _ => .refl _
  | x :: xs, j + 1, h => by
    have ih := erase_perm (l := xs) (j := j) (by simpa using h)
    simpa using (List.Perm.swap x (xs[j]'(by simpa using h)) (xs.eraseIdx j)).symm.symm.trans (ih.cons x)
theorem erase_map {α β : Type} (f : α → β) : ∀ (l : List α) (j : Nat), (l.map f).eraseIdx j = (l.eraseIdx j).map f
  | [], _ => rfl
  | x :: xs, 0 => rfl
  | x :: xs, j + 1 => by simp [erase_map f xs j]
end Uv

namespace Uv
open PySem PySem.Spec PyProof.Rows L2
/-! ### webs -/
structure Road where
  b : Option Nat
  e : Option Nat
  r : Int
structure Web where
  roads : List Road
  gives : List (List Nat)
  takes : List (List Nat)
def endD : Option Nat → PD
  | none => .none
  | some n => natD n
def roadD (x : Road) : PD := .tuple [endD x.b, endD x.e, .int x.r]
def natsD (l : List Nat) : PD := .tuple (l.map natD)
def webD (W : Web) : PD := .tuple [.tuple (W.roads.map roadD), .tuple (W.gives.map natsD), .tuple (W.takes.map natsD)]
def side (s : Nat) (x : Road) : Option Nat := if s = 0 then x.b else x.e
/-- the roads whose end of this side is the house -/
def atR (rs : List Road) (s h : Nat) : List Nat := (rs.zipIdx.filter fun p => side s p.1 == some h).map (·.2)
def OkRoad (n : Nat) (x : Road) : Prop := x.b ≠ x.e ∧ (∀ h, x.b = some h → h < n) ∧ (∀ h, x.e = some h → h < n) ∧ 0 ≤ x.r ∧ x.r ≤ 1000000000000
structure IsWeb (W : Web) : Prop where
  houses : 1 ≤ W.gives.length ∧ W.gives.length ≤ 8
  same : W.takes.length = W.gives.length
  count : 1 ≤ W.roads.length ∧ W.roads.length ≤ 20
  road : ∀ x ∈ W.roads, OkRoad W.gives.length x
  give : ∀ (h : Nat) (l : List Nat), W.gives[h]? = some l → l.Perm (atR W.roads 0 h)
  take : ∀ (h : Nat) (l : List Nat), W.takes[h]? = some l → l.Perm (atR W.roads 1 h)
theorem atR_lt {rs : List Road} {s h k : Nat} (hk : k ∈ atR rs s h) : k < rs.length := by
  unfold atR at hk
  obtain ⟨⟨x, j⟩, h1, rfl⟩ := List.mem_map.mp hk
  have h2 := (List.mem_filter.mp h1).1
  have h3 := List.mem_zipIdx h2
  simp at h3
  omega
theorem zip_sorted {α : Type} : ∀ (xs : List α) (n : Nat) (p : α × Nat → Bool), (((xs.zipIdx n).filter p).map (·.2)).Pairwise (· < ·) ∧ ∀ k ∈ ((xs.zipIdx n).filter p).map (·.2), n ≤ k
  | [], n, p => by simp
  | x :: xs, n, p => by
    obtain ⟨h1, h2⟩ := zip_sorted xs (n + 1) p
    rw [List.zipIdx_cons, List.filter_cons]
    by_cases c : p (x, n) = true
    · rw [if_pos c, List.map_cons]
      refine ⟨List.pairwise_cons.mpr ⟨fun k hk => by have := h2 k hk; show n < k; omega, h1⟩, fun k hk => ?_⟩
      rcases List.mem_cons.mp hk with e | e
      · rw [e]; exact Nat.le_refl _
      · have := h2 k e; omega
    · rw [if_neg c]
      exact ⟨h1, fun k hk => by have := h2 k hk; omega⟩
theorem atR_sorted (rs : List Road) (s h : Nat) : (atR rs s h).Pairwise (· < ·) := (zip_sorted rs 0 _).1
/-- the rising list of a house's roads is what any order of them is when sorted -/
theorem sort_perm {l m : List Nat} (p : l.Perm m) (hm : m.Pairwise (· < ·)) : sortI (l.map fun (n : Nat) => (n : Int)) = m.map fun (n : Nat) => (n : Int) := by
  refine @sorted_eq kk0 _ _ ((@sortI_perm kk0 _).trans (p.map _)) (@sortI_sorted kk0 _) ?_
  rw [List.pairwise_map]
  exact hm.imp fun h => by omega
end Uv

namespace Uv
open PySem PySem.Spec PyProof.Rows L2
/-! ### what repr tells, and what may be compared -/
theorem ok_app {a b : Str} (ha : PyData.strOk a = true) (hb : PyData.strOk b = true) : PyData.strOk (a ++ b) = true := by
  show ((a.cps ++ b.cps).all _) = true
  rw [Array.all_append]
  exact Bool.and_eq_true_iff.mpr ⟨ha, hb⟩
theorem ok_ofS (x : String) : PyData.strOk (Str.ofString x) = true := by
  rw [Str.ofString_eq_toList]
  unfold PyData.strOk
  simp only [List.all_toArray, List.all_map, List.all_eq_true]
  intro c _
  have := c.valid
  simp only [Function.comp_apply, decide_eq_true_eq]
  have h : c.toNat = c.val.toNat := rfl
  rcases this with h1 | h1
  · omega
  · omega
theorem ok_join {sep : Str} (hs : PyData.strOk sep = true) : ∀ {ts : List Str}, (∀ t ∈ ts, PyData.strOk t = true) → PyData.strOk (Str.join sep ts) = true
  | [], _ => by simp [Str.join, Str.empty, PyData.strOk]
  | [t], h => h t (List.mem_cons_self ..)
  | t :: u :: r, h => by
    show PyData.strOk (t ++ sep ++ Str.join sep (u :: r)) = true
    exact ok_app (ok_app (h t (List.mem_cons_self ..)) hs) (ok_join hs fun x hx => h x (List.mem_cons_of_mem _ hx))
theorem ok_from : ∀ {ts : List Str} {k : Nat} {acc : Str}, PyData.strOk acc = true → (∀ t ∈ ts, PyData.strOk t = true) → PyData.strOk (textFrom k acc ts) = true
  | [], _, _, ha, _ => ha
  | t :: r, k, acc, ha, h => by
    show PyData.strOk (textFrom (k + 1) _ r) = true
    exact ok_from (ok_app (ok_app ha (ok_ofS _)) (h t (List.mem_cons_self ..))) fun x hx => h x (List.mem_cons_of_mem _ hx)
structure Sho (k n : Nat) (d : PD) : Prop where
  sh : d.showable = true
  nd : scrF d = true
  dp : d.depth ≤ k
  ln : d.shown.length ≤ n
  ok : PyData.strOk d.shown = true
section
variable {k n : Nat} {d : PD} {ds : List PD}
theorem Sho.mono {k' n' : Nat} (h : Sho k n d) (hk : k ≤ k') (hn : n ≤ n') : Sho k' n' d := ⟨h.sh, h.nd, Nat.le_trans h.dp hk, Nat.le_trans h.ln hn, h.ok⟩
theorem Sho.non : Sho k 5 .none := ⟨rfl, rfl, Nat.zero_le _, by decide, ok_ofS _⟩
theorem Sho.bool {b : Bool} : Sho k 5 (.bool b) := ⟨rfl, rfl, Nat.zero_le _, by cases b <;> decide, by cases b <;> exact ok_ofS _⟩
theorem Sho.int {i : Int} (h : i.natAbs < 10 ^ 40) : Sho k 41 (.int i) := by
  refine ⟨?_, rfl, Nat.zero_le _, ?_, ok_ofS _⟩
  · rw [PyData.showable, decide_eq_true_eq]
    by_cases c : i.natAbs = 0
    · rw [c]; decide
    · have : i.natAbs.log2 < 140 := (Nat.log2_lt c).mpr (Nat.lt_of_lt_of_le h (by decide))
      omega
  · show (Str.ofString (toString i)).length ≤ 41
    rw [PySem.ofString_length]
    exact int_text_length_le10 (k := 40) (by decide) h
theorem all_show (h : ∀ d ∈ ds, PyData.showable d = true) : PyData.showableAll ds = true := by
  induction ds with
  | nil => rfl
  | cons d ds ih => rw [PyData.showableAll, h d (List.mem_cons_self ..), ih fun x hx => h x (List.mem_cons_of_mem _ hx)]; rfl
theorem all_noD (h : ∀ d ∈ ds, scrF d = true) : scrFs ds = true := by
  induction ds with
  | nil => rfl
  | cons d ds ih => rw [scrFs, h d (List.mem_cons_self ..), ih fun x hx => h x (List.mem_cons_of_mem _ hx)]; rfl
theorem all_depth (h : ∀ d ∈ ds, PyData.depth d ≤ n) : PyData.depthAll ds ≤ n := by
  induction ds with
  | nil => exact Nat.zero_le _
  | cons d ds ih =>
    have h1 := h d (List.mem_cons_self ..)
    have h2 := ih fun x hx => h x (List.mem_cons_of_mem _ hx)
    rw [PyData.depthAll]
    omega
theorem all_shown (h : ∀ d ∈ ds, PyData.strOk d.shown = true) : ∀ t ∈ PyData.shownAll ds, PyData.strOk t = true := by
  induction ds with
  | nil => intro t ht; exact nomatch ht
  | cons d ds ih =>
    intro t ht
    rw [PyData.shownAll] at ht
    rcases List.mem_cons.mp ht with e | e
    · rw [e]; exact h d (List.mem_cons_self ..)
    · exact ih (fun x hx => h x (List.mem_cons_of_mem _ hx)) t e
theorem all_len (h : ∀ d ∈ ds, d.shown.length ≤ n) : ((PyData.shownAll ds).map (·.length)).sum + 2 * (PyData.shownAll ds).length ≤ ds.length * (n + 2) := by
  induction ds with
  | nil => exact Nat.zero_le _
  | cons d ds ih =>
    have h1 := h d (List.mem_cons_self ..)
    have h2 := ih fun x hx => h x (List.mem_cons_of_mem _ hx)
    rw [PyData.shownAll]
    simp only [List.map_cons, List.sum_cons, List.length_cons, Nat.succ_mul]
    omega
theorem Sho.tup {L : Nat} (h : ∀ d ∈ ds, Sho k n d) (hl : ds.length ≤ L) : Sho (k + 1) (L * (n + 2) + 3) (.tuple ds) := by
  refine ⟨all_show fun d hd => (h d hd).sh, all_noD fun d hd => (h d hd).nd, Nat.succ_le_succ (all_depth fun d hd => (h d hd).dp), ?_, ?_⟩
  · have h1 := tupleText_len_le (PyData.shownAll ds)
    have h2 := all_len fun d hd => (h d hd).ln
    have h3 := Nat.mul_le_mul_right (n + 2) hl
    show (tupleText (PyData.shownAll ds)).length ≤ _
    omega
  · exact ok_app (ok_app (ok_ofS _) (ok_join (ok_ofS _) (all_shown fun d hd => (h d hd).ok))) (ok_ofS _)
theorem Sho.lst {L : Nat} (h : ∀ d ∈ ds, Sho k n d) (hl : ds.length ≤ L) : Sho (k + 1) (L * (n + 2) + 3) (.list ds) := by
  refine ⟨all_show fun d hd => (h d hd).sh, all_noD fun d hd => (h d hd).nd, Nat.succ_le_succ (all_depth fun d hd => (h d hd).dp), ?_, ?_⟩
  · have h1 := listText_len_le (PyData.shownAll ds)
    have h2 := all_len fun d hd => (h d hd).ln
    have h3 := Nat.mul_le_mul_right (n + 2) hl
    show (listText (PyData.shownAll ds)).length ≤ _
    omega
  · exact ok_app (ok_from (ok_ofS _) (all_shown fun d hd => (h d hd).ok)) (ok_ofS _)
theorem Sho.nat {j : Nat} (h : j < 10 ^ 40) : Sho k 41 (natD j) := Sho.int (by show (j : Int).natAbs < _; omega)
theorem Sho.nats {l : List Nat} {L : Nat} (h : ∀ j ∈ l, j < 10 ^ 40) (hl : l.length ≤ L) : Sho (k + 1) (L * 43 + 3) (natsD l) := Sho.tup (fun d hd => by obtain ⟨j, hj, rfl⟩ := List.mem_map.mp hd; exact Sho.nat (h j hj)) (by simpa using hl)
theorem Sho.can (h : Sho 60 10000000 d) : CanShow d := ⟨h.sh, h.nd, h.dp, Nat.le_trans h.ln (by rw [sizeLine_eq]; decide)⟩
theorem rp_of (h : Sho 60 10000000 d) : reprP d = some (.str d.shown) := by
  unfold reprP
  rw [if_pos h.can]
theorem ne_str {x : Str} (h : PyData.strOk x = true) : neP (.str x) (.str x) = some (.bool false) := by
  have e : SeqAt.shaped (.str x) = true := by
    unfold SeqAt.shaped
    rw [show PyData.canLay0 (.str x) = PyData.strOk x by simp [PyData.canLay0], h]
    rfl
  unfold neP
  rw [if_pos ⟨e, e⟩]
  simp [PyData.eqv]
theorem eq_str {x : Str} (h : PyData.strOk x = true) : eqP (.str x) (.str x) = some (.bool true) := by
  have e : SeqAt.shaped (.str x) = true := by
    unfold SeqAt.shaped
    rw [show PyData.canLay0 (.str x) = PyData.strOk x by simp [PyData.canLay0], h]
    rfl
  unfold eqP
  rw [if_pos ⟨e, e⟩]
  simp [PyData.eqv]
theorem ne_shown (h : Sho 60 10000000 d) : neP (.str d.shown) (.str d.shown) = some (.bool false) := ne_str h.ok
theorem eq_shown (h : Sho 60 10000000 d) : eqP (.str d.shown) (.str d.shown) = some (.bool true) := eq_str h.ok
/-! what may be compared -/
structure Lay (k : Nat) (d : PD) : Prop where
  cl : d.canLay0 = true
  dp : d.depth ≤ k
theorem all_lay (h : ∀ d ∈ ds, PyData.canLay0 d = true) : PyData.canLayAll0 ds = true := by
  induction ds with
  | nil => rfl
  | cons d ds ih => rw [PyData.canLayAll0, h d (List.mem_cons_self ..), ih fun x hx => h x (List.mem_cons_of_mem _ hx)]; rfl
theorem Lay.non : Lay k .none := ⟨rfl, Nat.zero_le _⟩
theorem Lay.bool {b : Bool} : Lay k (.bool b) := ⟨rfl, Nat.zero_le _⟩
theorem Lay.int {i : Int} : Lay k (.int i) := ⟨rfl, Nat.zero_le _⟩
theorem Lay.tup (h : ∀ d ∈ ds, Lay k d) : Lay (k + 1) (.tuple ds) := ⟨all_lay fun d hd => (h d hd).cl, Nat.succ_le_succ (all_depth fun d hd => (h d hd).dp)⟩
theorem Lay.lst (h : ∀ d ∈ ds, Lay k d) : Lay (k + 1) (.list ds) := ⟨all_lay fun d hd => (h d hd).cl, Nat.succ_le_succ (all_depth fun d hd => (h d hd).dp)⟩
theorem Lay.mono {k' : Nat} (h : Lay k d) (hk : k ≤ k') : Lay k' d := ⟨h.cl, Nat.le_trans h.dp hk⟩
theorem Lay.sh (h : Lay 60 d) : SeqAt.shaped d = true := by
  unfold SeqAt.shaped
  rw [h.cl, Bool.true_and, decide_eq_true_eq]
  exact Nat.le_trans h.dp (by decide)
theorem Lay.map {α : Type} {f : α → PD} {l : List α} (h : ∀ x, Lay k (f x)) : ∀ d ∈ l.map f, Lay k d := fun d hd => by obtain ⟨x, _, rfl⟩ := List.mem_map.mp hd; exact h x
theorem Lay.natsT {l : List Nat} : Lay (k + 1) (.tuple (l.map natD)) := Lay.tup (Lay.map fun _ => Lay.int)
theorem Lay.natsL {l : List Nat} : Lay (k + 1) (.list (l.map natD)) := Lay.lst (Lay.map fun _ => Lay.int)
theorem eqP_lay {e : PD} (h : Lay 60 d) (h' : Lay 60 e) : eqP d e = some (.bool (PyData.eqv d e)) := by unfold eqP; rw [if_pos ⟨h.sh, h'.sh⟩]
theorem neP_lay {e : PD} (h : Lay 60 d) (h' : Lay 60 e) : neP d e = some (.bool (!PyData.eqv d e)) := by unfold neP; rw [if_pos ⟨h.sh, h'.sh⟩]
theorem eqv_nats {l m : List Nat} : PyData.eqvAll (l.map natD) (m.map natD) = (l == m) := by
  induction l generalizing m with
  | nil => cases m <;> rfl
  | cons x xs ih => cases m with
    | nil => rfl
    | cons y ys =>
      have e : ((x : Int) == (y : Int)) = (x == y) := Bool.eq_iff_iff.mpr (by simp; omega)
      simp [PyData.eqvAll, PyData.eqv, ih, e]
theorem eqv_ints {l m : List Int} : PyData.eqvAll (l.map PyData.int) (m.map PyData.int) = (l == m) := by
  induction l generalizing m with
  | nil => cases m <;> rfl
  | cons x xs ih => cases m with
    | nil => rfl
    | cons y ys => simp [PyData.eqvAll, PyData.eqv, ih]
end
end Uv

namespace Uv
open PySem PySem.Spec PyProof.Rows L2
/-! ### things as data, and what is asked of them -/
structure Tie where
  g : Nat
  t : Nat
  r : Int
structure Seat where
  much : Int
  order : List Nat
structure Fair where
  ties : List Tie
  givers : List Seat
  takers : List Seat
def intsD (l : List Int) : PD := .tuple (l.map PyData.int)
def tieD (x : Tie) : PD := .tuple [natD x.g, natD x.t, .int x.r]
def seatD (x : Seat) : PD := .tuple [.int x.much, natsD x.order]
def fairD (F : Fair) : PD := .tuple [.tuple (F.ties.map tieD), .tuple (F.givers.map seatD), .tuple (F.takers.map seatD)]
section
variable {ρ : Env} {v : VE}
@[simp] theorem q_star {a : XE} {as : XA} : xStar a as v = (a v).bind fun x => (partsP x).bind fun xs => (as v).bind fun ys => some (xs ++ ys) := (rfl)
@[simp] theorem q_parts_t {ds : List PD} : partsP (.tuple ds) = some ds := (rfl)
@[simp] theorem q_parts_l {ds : List PD} : partsP (.list ds) = some ds := (rfl)
@[simp] theorem q_cat {xs ys : List PD} : catP (.list xs) (.list ys) = grd (xs.length + ys.length ≤ 100000) (some (.list (xs ++ ys))) := by unfold catP; simp only [grd_ite]
@[simp] theorem q_rep {xs : List PD} {j : Int} : repP (.list xs) (.int j) = grd (0 ≤ j ∧ j ≤ 100000 ∧ xs.length * j.toNat ≤ 100000) (some (.list (List.replicate j.toNat xs).flatten)) := by unfold repP; simp only [grd_ite]
@[simp] theorem q_mul_l {xs : List PD} {j : Int} : mulP (.list xs) (.int j) = grd (0 ≤ j ∧ j ≤ 100000 ∧ xs.length * j.toNat ≤ 100000) (some (.list (List.replicate j.toNat xs).flatten)) := by unfold mulP; simp only [grd_ite]
@[simp] theorem q_mulU_i {i j : Int} : mulU (.int i) (.int j) = grd (In64 i ∨ In64 j) (some (.int (i * j))) := by show mulP (.int i) (.int j) = _; exact q_mul
@[simp] theorem q_mulU_l {xs : List PD} {j : Int} : mulU (.list xs) (.int j) = grd (0 ≤ j ∧ j ≤ 100000 ∧ xs.length * j.toNat ≤ 100000) (some (.list (List.replicate j.toNat xs).flatten)) := by show mulP (.list xs) (.int j) = _; exact q_mul_l
@[simp] theorem q_mulU_t {xs : List PD} {j : Int} : mulU (.tuple xs) (.int j) = grd (xs ≠ [] ∧ 0 ≤ j ∧ j ≤ 1000 ∧ xs.length ≤ 1000) (some (.tuple (List.replicate j.toNat xs).flatten)) := by unfold mulU; simp only [grd_ite]
@[simp] theorem q_minU_l {ds : List PD} : minU [.list ds] = (unI ds).bind minL := (rfl)
@[simp] theorem q_minU_2 {i j : Int} : minU [.int i, .int j] = some (.int (if j < i then j else i)) := (rfl)
@[simp] theorem q_minU_3 {i j k : Int} : minU [.int i, .int j, .int k] = some (.int (if k < (if j < i then j else i) then k else (if j < i then j else i))) := (rfl)
@[simp] theorem q_maxP_2 {i j : Int} : maxP [.int i, .int j] = some (.int (if j > i then j else i)) := (rfl)
@[simp] theorem q_back_l {ds : List PD} : backP (.list ds) = some (.list ds.reverse) := (rfl)
@[simp] theorem q_back_t {ds : List PD} : backP (.tuple ds) = some (.tuple ds.reverse) := (rfl)
@[simp] theorem q_backL {ds : List PD} : backL (.list ds) = some (.list ds.reverse) := (rfl)
theorem q_rgP {n : Int} : rgP (.int n) = grd (-(2 ^ 62) ≤ n ∧ n ≤ 100000) (some ((List.range n.toNat).map natD)) := by unfold rgP; simp only [grd_ite]
structure Rg (n : Int) : Prop where
  lo : -(2 ^ 62) ≤ n
  hi : n ≤ 100000
theorem rg_nat {n : Nat} (h : n ≤ 100000) : Rg (n : Int) := ⟨by omega, by omega⟩
@[simp] theorem q_rgL {n : Int} : rgL (.int n) = grd (Rg n) (some (.list ((List.range n.toNat).map natD))) := by
  unfold rgL
  rw [q_rgP, grd_iff (c' := Rg n) ⟨fun h => ⟨h.1, h.2⟩, fun h => ⟨h.lo, h.hi⟩⟩]
  unfold grd
  split <;> rfl
@[simp] theorem q_rgT {n : Int} : rgT (.int n) = grd (Rg n) (some (.tuple ((List.range n.toNat).map natD))) := by
  unfold rgT
  rw [q_rgP, grd_iff (c' := Rg n) ⟨fun h => ⟨h.1, h.2⟩, fun h => ⟨h.lo, h.hi⟩⟩]
  unfold grd
  split <;> rfl
@[simp] theorem q_three {a b c : Cel} : three [a, b, c] = some (a, b, c) := (rfl)
@[simp] theorem q_sPar3 {i j k : Nat} {as : XWC} : sPar3 i j k as ρ = (as ρ).bind fun x => (three x.1).bind fun c => grd (i < x.2.length ∧ j < x.2.length ∧ k < x.2.length) (some (.nxt (((x.2.set i (toSl c.1)).set j (toSl c.2.1)).set k (toSl c.2.2)))) := by unfold sPar3; simp only [grd_ite]
@[simp] theorem q_sAug {i : Nat} {f : Int → Int → Int} {k a : XE} : sAug i f k a ρ = (ownAt ρ i).bind fun cs => ((k (vw ρ)).bind isI).bind fun k => (ixN cs.length k).bind fun n => ((datAt cs n).bind isI).bind fun x => ((a (vw ρ)).bind isI).bind fun y => some (.nxt (ρ.set i (.own (cs.set n (.dat (.int (f x y))))))) := (rfl)
@[simp] theorem q_wOO {f : PD → PD → Option PD} {a b : XW} : wOO f a b ρ = (a ρ).bind fun x => (b x.2).bind fun y => ((f x.1 y.1).bind asList).bind fun ds => some (dats ds, y.2) := (rfl)
@[simp] theorem q_xCut {a : XE} {lo hi : XO} : xCut a lo hi v = (a v).bind fun d => (lo v).bind fun l => (hi v).bind fun h => cutP d l h := (rfl)
@[simp] theorem q_cutP_l {ds : List PD} {l h : Option Int} : cutP (.list ds) l h = some (.list (cutD ds l h)) := (rfl)
@[simp] theorem q_cutP_s {ds : List PD} {l h : Option Int} : cutP (scrD ds) l h = some (.list (cutD ds l h)) := (rfl)
end
section
variable {l : List Nat} {m : List Int} {W : Web} {F : Fair} {x : Road} {t : Tie} {s : Seat} {i : Int} {k : Nat}
/-! tuples of numbers -/
@[simp] theorem n_seq : seqP (natsD l) = some (l.map natD) := (rfl)
@[simp] theorem n_len : lenP (natsD l) = some (natD l.length) := by unfold natsD; simp
@[simp] theorem n_ix : ixP (natsD l) (.int i) = atI (l.map natD) i := (rfl)
@[simp] theorem n_tup : tupP (natsD l) = some (natsD l) := (rfl)
@[simp] theorem n_lst : listP (natsD l) = some (.list (l.map natD)) := (rfl)
@[simp] theorem n_parts : partsP (natsD l) = some (l.map natD) := (rfl)
@[simp] theorem n_full : full (natsD l) = false := (rfl)
@[simp] theorem n_isT : isTy .tuple (natsD l) = true := (rfl)
@[simp] theorem n_enum : enumP [natsD l] = some (pairsD (l.map natD)) := (rfl)
@[simp] theorem n_none : isNone (natsD l) = false := (rfl)
@[simp] theorem n_addR {ds : List PD} : addP (.tuple ds) (natsD l) = grd (ds.length + l.length ≤ 100000) (some (.tuple (ds ++ l.map natD))) := by
  unfold natsD
  rw [q_add_t, List.length_map]
theorem flats_of {ds : List PD} (h : ∀ d ∈ ds, flat d = true) : flats ds = true := by
  induction ds with
  | nil => rfl
  | cons d ds ih => rw [q_flats_cons, h d (List.mem_cons_self ..), ih fun x hx => h x (List.mem_cons_of_mem _ hx)]; rfl
theorem flats_map {α : Type} {f : α → PD} {l : List α} (h : ∀ x, flat (f x) = true) : flats (l.map f) = true := flats_of fun d hd => by obtain ⟨x, _, rfl⟩ := List.mem_map.mp hd; exact h x
@[simp] theorem n_flat : flat (natsD l) = true := by unfold natsD; rw [q_flat_t]; exact flats_map fun _ => q_flat_i
@[simp] theorem n_flats : flats (l.map natD) = true := flats_map fun _ => q_flat_i
@[simp] theorem i_flats : flats (m.map PyData.int) = true := flats_map fun _ => q_flat_i
@[simp] theorem i_seq : seqP (intsD m) = some (m.map PyData.int) := (rfl)
@[simp] theorem i_len : lenP (intsD m) = some (natD m.length) := by unfold intsD; simp
@[simp] theorem i_ix : ixP (intsD m) (.int i) = atI (m.map PyData.int) i := (rfl)
@[simp] theorem i_tup : tupP (intsD m) = some (intsD m) := (rfl)
@[simp] theorem i_lst : listP (intsD m) = some (.list (m.map PyData.int)) := (rfl)
@[simp] theorem i_parts : partsP (intsD m) = some (m.map PyData.int) := (rfl)
@[simp] theorem i_full : full (intsD m) = false := (rfl)
@[simp] theorem i_isT : isTy .tuple (intsD m) = true := (rfl)
@[simp] theorem i_enum : enumP [intsD m] = some (pairsD (m.map PyData.int)) := (rfl)
@[simp] theorem i_none : isNone (intsD m) = false := (rfl)
@[simp] theorem i_flat : flat (intsD m) = true := by unfold intsD; rw [q_flat_t]; exact i_flats
theorem memInt_nat {l : List Nat} {k : Nat} : ((k : Int) ∈ l.map fun (n : Nat) => (n : Int)) ↔ k ∈ l := by
  constructor
  · intro h
    obtain ⟨j, hj, e⟩ := List.mem_map.mp h
    have e : (j : Int) = (k : Int) := e
    have : j = k := by omega
    subst this
    exact hj
  · exact fun h => List.mem_map.mpr ⟨k, h, rfl⟩
theorem idx_nat {l : List Nat} {k : Nat} : (l.map fun (n : Nat) => (n : Int)).idxOf (k : Int) = l.idxOf k := by
  induction l with
  | nil => rfl
  | cons x xs ih =>
    rw [List.map_cons, List.idxOf_cons, List.idxOf_cons, ih]
    have e : ((x : Int) == (k : Int)) = (x == k) := Bool.eq_iff_iff.mpr (by simp; omega)
    rw [e]
theorem n_idx (h : k ∈ l) : idxP (natsD l) (natD k) = some (natD (l.idxOf k)) := by
  unfold natsD idxP
  simp only [unI_nats, Option.bind_some]
  rw [if_pos (memInt_nat.mpr h), idx_nat]
theorem n_idxL (h : k ∈ l) : idxP (.list (l.map natD)) (natD k) = some (natD (l.idxOf k)) := by
  have hf : (l.map natD).findIdx? (fun z => PyData.eqv z (natD k)) = some (l.idxOf k) := by
    induction l with
    | nil => exact nomatch h
    | cons x xs ih =>
      rw [List.map_cons, List.findIdx?_cons, List.idxOf_cons]
      have e : PyData.eqv (natD x) (natD k) = (x == k) := by
        show ((x : Int) == (k : Int)) = _
        exact Bool.eq_iff_iff.mpr (by simp; omega)
      rw [e]
      by_cases c : x = k
      · simp [c]
      · have hk : k ∈ xs := (List.mem_cons.mp h).resolve_left fun z => c z.symm
        have e2 : (x == k) = false := by simpa using c
        rw [e2]
        simp [ih hk]
  unfold idxP
  dsimp only
  rw [if_pos ⟨(Lay.natsL (k := 59)).sh, (Lay.int (k := 60)).sh⟩, hf]
/-! webs -/
@[simp] theorem w_seq : seqP (webD W) = some [.tuple (W.roads.map roadD), .tuple (W.gives.map natsD), .tuple (W.takes.map natsD)] := (rfl)
@[simp] theorem w_0 : ixP (webD W) (.int 0) = some (.tuple (W.roads.map roadD)) := (rfl)
@[simp] theorem w_1 : ixP (webD W) (.int 1) = some (.tuple (W.gives.map natsD)) := (rfl)
@[simp] theorem w_2 : ixP (webD W) (.int 2) = some (.tuple (W.takes.map natsD)) := (rfl)
@[simp] theorem w_full : full (webD W) = false := (rfl)
@[simp] theorem w_none : isNone (webD W) = false := (rfl)
@[simp] theorem r_seq : seqP (roadD x) = some [endD x.b, endD x.e, .int x.r] := (rfl)
@[simp] theorem r_0 : ixP (roadD x) (.int 0) = some (endD x.b) := (rfl)
@[simp] theorem r_1 : ixP (roadD x) (.int 1) = some (endD x.e) := (rfl)
@[simp] theorem r_2 : ixP (roadD x) (.int 2) = some (.int x.r) := (rfl)
@[simp] theorem e_none {o : Option Nat} : isNone (endD o) = o.isNone := by cases o <;> rfl
@[simp] theorem e_flat {o : Option Nat} : flat (endD o) = true := by cases o <;> simp [endD]
@[simp] theorem r_flat : flat (roadD x) = true := by simp [roadD]
theorem eq_end {o : Option Nat} {h : Nat} : eqP (endD o) (natD h) = some (.bool (o == some h)) := by
  cases o with
  | none => rfl
  | some n => simp [endD]; exact Bool.eq_iff_iff.mpr (by simp; omega)
/-! fairs -/
@[simp] theorem f_seq : seqP (fairD F) = some [.tuple (F.ties.map tieD), .tuple (F.givers.map seatD), .tuple (F.takers.map seatD)] := (rfl)
@[simp] theorem f_0 : ixP (fairD F) (.int 0) = some (.tuple (F.ties.map tieD)) := (rfl)
@[simp] theorem f_1 : ixP (fairD F) (.int 1) = some (.tuple (F.givers.map seatD)) := (rfl)
@[simp] theorem f_2 : ixP (fairD F) (.int 2) = some (.tuple (F.takers.map seatD)) := (rfl)
@[simp] theorem f_full : full (fairD F) = false := (rfl)
@[simp] theorem f_isT : isTy .tuple (fairD F) = true := (rfl)
@[simp] theorem f_len : lenP (fairD F) = some (natD 3) := (rfl)
@[simp] theorem t_seq : seqP (tieD t) = some [natD t.g, natD t.t, .int t.r] := (rfl)
@[simp] theorem t_0 : ixP (tieD t) (.int 0) = some (natD t.g) := (rfl)
@[simp] theorem t_1 : ixP (tieD t) (.int 1) = some (natD t.t) := (rfl)
@[simp] theorem t_2 : ixP (tieD t) (.int 2) = some (.int t.r) := (rfl)
@[simp] theorem t_full : full (tieD t) = false := (rfl)
@[simp] theorem t_isT : isTy .tuple (tieD t) = true := (rfl)
@[simp] theorem t_len : lenP (tieD t) = some (natD 3) := (rfl)
@[simp] theorem t_flat : flat (tieD t) = true := by simp [tieD]
@[simp] theorem s_seq : seqP (seatD s) = some [.int s.much, natsD s.order] := (rfl)
@[simp] theorem s_0 : ixP (seatD s) (.int 0) = some (.int s.much) := (rfl)
@[simp] theorem s_1 : ixP (seatD s) (.int 1) = some (natsD s.order) := (rfl)
@[simp] theorem s_full : full (seatD s) = false := (rfl)
@[simp] theorem s_isT : isTy .tuple (seatD s) = true := (rfl)
@[simp] theorem s_len : lenP (seatD s) = some (natD 2) := (rfl)
@[simp] theorem s_flat : flat (seatD s) = true := by simp [seatD]
end
/-! truth of types -/
section
variable {i : Int} {b : Bool} {x : Str} {ds : List PD}
@[simp] theorem ty_ii : isTy .int (.int i) = true := (rfl)
@[simp] theorem ty_bi : isTy .bool (.int i) = false := (rfl)
@[simp] theorem ty_ti : isTy .tuple (.int i) = false := (rfl)
@[simp] theorem ty_ib : isTy .int (.bool b) = true := (rfl)
@[simp] theorem ty_bb : isTy .bool (.bool b) = true := (rfl)
@[simp] theorem ty_tt : isTy .tuple (.tuple ds) = true := (rfl)
@[simp] theorem ty_it : isTy .int (.tuple ds) = false := (rfl)
@[simp] theorem ty_bt : isTy .bool (.tuple ds) = false := (rfl)
@[simp] theorem ty_st : isTy .str (.tuple ds) = false := (rfl)
@[simp] theorem ty_in : isTy .int .none = false := (rfl)
@[simp] theorem ty_bn : isTy .bool .none = false := (rfl)
@[simp] theorem ty_tn : isTy .tuple .none = false := (rfl)
@[simp] theorem ty_sn : isTy .str .none = false := (rfl)
@[simp] theorem ty_si : isTy .str (.int i) = false := (rfl)
@[simp] theorem ty_sb : isTy .str (.bool b) = false := (rfl)
@[simp] theorem ty_tb : isTy .tuple (.bool b) = false := (rfl)
/-! sums, all, any over lists of a shape -/
theorem q_sum {α : Type} {f : α → Int} {l : List α} : sumP (.list (l.map fun x => .int (f x))) = some (.int (l.map f).sum) := by
  unfold sumP intsP
  simp only [unI_of, Option.bind_some]
theorem q_sumI {l : List Int} : sumP (.list (l.map PyData.int)) = some (.int l.sum) := by
  unfold sumP intsP
  simp only [@unI_map kk0, Option.bind_some]
theorem q_all {α : Type} {f : α → Bool} {l : List α} : allP (.list (l.map fun x => .bool (f x))) = some (.bool (l.all f)) := by
  unfold allP boolsP
  simp only [unB_of, Option.bind_some, List.all_map]
  rfl
theorem q_any {α : Type} {f : α → Bool} {l : List α} : anyP (.list (l.map fun x => .bool (f x))) = some (.bool (l.any f)) := by
  unfold anyP boolsP
  simp only [unB_of, Option.bind_some, List.any_map]
  rfl
@[simp] theorem all_tt {α : Type} {l : List α} : (l.all fun _ => true) = true := List.all_eq_true.mpr fun _ _ => rfl
theorem q_sort {l : List Nat} : sortP (natsD l) = some (.list ((sortI (l.map fun (n : Nat) => (n : Int))).map PyData.int)) := by
  unfold natsD sortP
  simp only [unI_nats, Option.bind_some]
end
end Uv

namespace Uv
open PySem PySem.Spec PyProof.Rows L2
variable {ρ : Env}
@[simp] theorem q_mk_dic {l : List (Int × PD)} : (Sl.dic l).mk = none := (rfl)
@[simp] theorem q_vw_dic {l : List (Int × PD)} : (Sl.dic l).vw = none := (rfl)
@[simp] theorem q_dicAt0 {l : List (Int × PD)} {r : Env} : dicAt (.dic l :: r) 0 = some l := (rfl)
@[simp] theorem q_dicAtS {s : Sl} {r : Env} {i : Nat} : dicAt (s :: r) (i + 1) = dicAt r i := (rfl)
@[simp] theorem q_sDNew {i : Nat} : sDNew i ρ = grd (i < ρ.length) (some (.nxt (ρ.set i (.dic [])))) := by
  unfold sDNew
  by_cases c : i < ρ.length
  · rw [if_pos c]; simp [grd, c]
  · rw [if_neg c]; simp [grd, c]
@[simp] theorem q_sEn {i : Nat} {y : XS} : sEn i y ρ = (y ρ).bind fun o => some (fzO i o) := (rfl)
@[simp] theorem fzO_nxt {i : Nat} : fzO i (.nxt ρ) = .nxt (fzE ρ i) := (rfl)
@[simp] theorem fzO_brk {i : Nat} : fzO i (.brk ρ) = .brk (fzE ρ i) := (rfl)
@[simp] theorem fzO_cnt {i : Nat} : fzO i (.cnt ρ) = .cnt (fzE ρ i) := (rfl)
@[simp] theorem fzO_ret {i : Nat} {d : PD} : fzO i (.ret d ρ) = .ret d ρ := (rfl)
@[simp] theorem fzO_retO {i : Nat} {cs : List Cel} : fzO i (.retO cs ρ) = .retO cs ρ := (rfl)
@[simp] theorem q_wDin {i : Nat} {k : XE} : wDin i k ρ = ((k (mk ρ)).bind isI).bind fun n => (dicAt ρ i).bind fun l => some (.bool (hasD l n), ρ) := (rfl)
@[simp] theorem q_wDnot {i : Nat} {k : XE} : wDnot i k ρ = ((k (mk ρ)).bind isI).bind fun n => (dicAt ρ i).bind fun l => some (.bool (!hasD l n), ρ) := (rfl)
@[simp] theorem q_wDget {i : Nat} {k : XE} : wDget i k ρ = ((k (mk ρ)).bind isI).bind fun n => (dicAt ρ i).bind fun l => (getD l n).bind fun d => some (d, ρ) := (rfl)
@[simp] theorem q_sDput {i : Nat} {k : XE} {a : XW} : sDput i k a ρ = (a ρ).bind fun x => ((k (mk x.2)).bind isI).bind fun n => (dicAt x.2 i).bind fun l => grd (l.length < 100000) (some (.nxt (x.2.set i (.dic (putD l n x.1))))) := by
  unfold sDput
  congr 1
  funext x
  congr 1
  funext n
  congr 1
  funext l
  by_cases c : l.length < 100000
  · rw [if_pos c]; simp [grd, c]
  · rw [if_neg c]; simp [grd, c]
end Uv

namespace Fn
open PySem PySem.Spec PyProof.Rows L2 Uv
-- _law_deck_d: 0 _law_script, 1 _law_cells, 2 _law_cell
@[irreducible] def X__law_deck_d : XS :=
    sSeq (sAsg (gName' 1) (wM (xOp addP (xUn listP (xSl (xVar 0) xNoPart (xPart (xC (.int 63))))) (xOp mulU (xLst (xCons (xC (.int 7)) xNil)) (xCB (on1 toIntP) (xCons (xOp eqP (xCB (on1 lenP) (xCons (xVar 0) xNil)) (xC (.int 0))) xNil))))))
    (sRetO (wOL (wcDat (wM (xVar 1)) (wcDat (wM (xC (.int 0))) (wcSub (wOM (xLc (xiE (xVar 1)) (gvName 2) xYes (xOp mulU (xVar 2) (xCB (on1 toIntP) (xCons (xOp geP (xVar 2) (xOp powP (xC (.int 10)) (xC (.int 18)))) xNil))) [2])) (wcDat (wM (xC (.int 43))) wcNil))))))
@[irreducible] def F__law_deck_d : List PD → Option (List Cel) := runD 1 2 X__law_deck_d
-- _law_draw: 0 _law_deck_here, 1 _law_many, 2 _law_cells, 3 _law_turn, 4 _law_rests, 5 _law_blend, 6 _law_spot, 7 _law_digit
@[irreducible] def X__law_draw : XS :=
    sDraw (xOp modP (xVar 3) (xCB (on1 lenP) (xCons (xVar 2) xNil))) (xOp addP (xVar 3) (xC (.int 1))) (xB (xOp gtU (xOp ixP (xVar 4) (xVar 6)) (xC (.int 0)))) (xOp modP (xOp ixP (xVar 4) (xVar 6)) (xVar 1)) (xOp divP (xOp ixP (xVar 4) (xVar 6)) (xVar 1)) (xOp modP (xOp addP (xOp addP (xOp mulU (xVar 5) (xC (.int 48271))) (xOp modP (xOp ixP (xVar 2) (xVar 6)) (xC (.int 2147483629)))) (xOp mulU (xC (.int 30011)) (xVar 3))) (xC (.int 2147483647))) (xOp modP (xOp divP (xOp modP (xOp mulU (xOp ixP (xVar 0) (xC (.int 3))) (xOp ixP (xVar 0) (xC (.int 3)))) (xC (.int 2147483629))) (xC (.int 8))) (xVar 1))
@[irreducible] def F__law_draw : List Cel → List PD → Option (PD × List Cel) := runW 1 6 X__law_draw
-- _law_amount: 0 _law_deck_here, 1 _law_far, 2 _law_some
@[irreducible] def X__law_amount : XS :=
    sSeq (sAsg (gName' 2) (wM (xLst (xCons (xC (.int 0)) (xCons (xC (.int 1)) (xCons (xC (.int 1)) (xCons (xC (.int 2)) (xCons (xC (.int 2)) (xCons (xC (.int 3)) xNil)))))))))
    (sSeq (sIf (wMT (xB (xVar 1))) (sAsg (gName' 2) (wOp addP (wM (xVar 2)) (wLst (wCons (wM (xOp powP (xC (.int 10)) (xC (.int 15)))) (wCons (wM (xOp subP (xOp powP (xC (.int 10)) (xC (.int 15))) (xC (.int 1)))) (wCons (wM (xOp powP (xC (.int 10)) (xC (.int 12)))) (wCons (wM (xC (.int 7))) (wCons (wOp addP (wM (xC (.int 1))) (wCallK 0 F__law_draw (wCons (wM (xOp powP (xC (.int 10)) (xC (.int 15)))) wNil))) (wCons (wCallK 0 F__law_draw (wCons (wM (xC (.int 1000))) wNil)) wNil))))))))) sNext)
    (sRet (wOp ixP (wM (xVar 2)) (wCallK 0 F__law_draw (wCons (wM (xCB (on1 lenP) (xCons (xVar 2) xNil))) wNil)))))
@[irreducible] def F__law_amount : List Cel → List PD → Option (PD × List Cel) := runW 1 1 X__law_amount
-- _law_order_c: 0 _law_deck_here, 1 _law_numbers, 2 _law_left, 3 _law_found, 4 _law_k
@[irreducible] def X__law_order_c_b1 : XS :=
    sApp 3 (wPop 2 (wCallK 0 F__law_draw (wCons (wV (xCB (on1 lenP) (xCons (xVar 2) xNil))) wNil)))
@[irreducible] def X__law_order_c : XS :=
    sSeq (sOwn 2 (wOM (xUn listP (xVar 1))))
    (sSeq (sOwn 3 (wOL wcNil))
    (sSeq (sFor (wiA rngP (wCons (wM (xCB (on1 lenP) (xCons (xVar 1) xNil))) wNil)) (gName' 4) X__law_order_c_b1)
    (sFz 2 (sFz 3 (sRet (wM (xCB (on1 tupP) (xCons (xVar 3) xNil))))))))
@[irreducible] def F__law_order_c : List Cel → List PD → Option (PD × List Cel) := runW 1 3 X__law_order_c
-- _law_fair: 0 _law_deck_here, 1 _law_seats, 2 _law_most, 3 _law_far, 4 _law_many, 5 _law_ties*, 6 _law_k, 7 _law_sides, 8 _law_side*, 9 _law_rows, 10 _law_seat*, 11 _law_own
@[irreducible] def X__law_fair_b1 : XS :=
    sApp 5 (wTup (wCons (wCallK 0 F__law_draw (wCons (wM (xOp ixP (xVar 4) (xC (.int 0)))) wNil)) (wCons (wCallK 0 F__law_draw (wCons (wM (xOp ixP (xVar 4) (xC (.int 1)))) wNil)) (wCons (wCallK 0 F__law_amount (wCons (wM (xVar 3)) wNil)) wNil))))
@[irreducible] def X__law_fair_b2 : XS :=
    sSeq (sAsg (gName' 11) (wM (xLc (xiA rngP (xCons (xCB (on1 lenP) (xCons (xVar 5) xNil)) xNil)) (gvName 6) (xB (xOp eqP (xOp ixP (xOp ixP (xVar 5) (xVar 6)) (xVar 8)) (xVar 10))) (xVar 6) [6])))
    (sApp 9 (wTup (wCons (wCallK 0 F__law_amount (wCons (wM (xVar 3)) wNil)) (wCons (wCallK 0 F__law_order_c (wCons (wM (xVar 11)) wNil)) wNil))))
@[irreducible] def X__law_fair_b3 : XS :=
    sSeq (sOwn 9 (wOL wcNil))
    (sSeq (sFor (wiA rngP (wCons (wM (xOp ixP (xVar 4) (xVar 8))) wNil)) (gName' 10) X__law_fair_b2)
    (sFz 9 (sApp 7 (wM (xCB (on1 tupP) (xCons (xVar 9) xNil))))))
@[irreducible] def X__law_fair : XS :=
    sSeq (sAsg (gName' 4) (wTup (wCons (wOp addP (wM (xC (.int 1))) (wCallK 0 F__law_draw (wCons (wM (xVar 1)) wNil))) (wCons (wOp addP (wM (xC (.int 1))) (wCallK 0 F__law_draw (wCons (wM (xVar 1)) wNil))) wNil))))
    (sSeq (sOwn 5 (wOL wcNil))
    (sSeq (sFor (wiA rngP (wCons (wCallK 0 F__law_draw (wCons (wM (xOp addP (xVar 2) (xC (.int 1)))) wNil)) wNil)) (gName' 6) X__law_fair_b1)
    (sFz 5 (sSeq (sOwn 7 (wOL wcNil))
    (sSeq (sFor (wiE (wM (xTup (xCons (xC (.int 0)) (xCons (xC (.int 1)) xNil))))) (gName' 8) X__law_fair_b3)
    (sFz 7 (sRet (wM (xTup (xCons (xCB (on1 tupP) (xCons (xVar 5) xNil)) (xCons (xOp ixP (xVar 7) (xC (.int 0))) (xCons (xOp ixP (xVar 7) (xC (.int 1))) xNil))))))))))))
@[irreducible] def F__law_fair : List Cel → List PD → Option (PD × List Cel) := runW 3 8 X__law_fair
-- _law_same_c: 0 _law_found*, 1 _law_due*, 2 _law_k
@[irreducible] def X__law_same_c (self : List PD → Option PD) : XS :=
    sSeq (sIf (wMT (xB (xIsi .tuple (xVar 1)))) (sSeq (sIf (wMT (xTOr (xTNot (xB (xIsi .tuple (xVar 0)))) (xB (xOp neP (xCB (on1 lenP) (xCons (xVar 0) xNil)) (xCB (on1 lenP) (xCons (xVar 1) xNil)))))) (sRet (wM (xC (.bool false)))) sNext)
    (sRet (wM (xOp eqP (xLc (xiA rngP (xCons (xCB (on1 lenP) (xCons (xVar 1) xNil)) xNil)) (gvName 2) (xTNot (xB (xCB self (xCons (xOp ixP (xVar 0) (xVar 2)) (xCons (xOp ixP (xVar 1) (xVar 2)) xNil))))) (xVar 2) [2]) (xLst xNil))))) sNext)
    (sSeq (sIf (wMT (xB (xIsi .bool (xVar 1)))) (sRet (wM (xAnd (xIsi .bool (xVar 0)) (xOp eqP (xVar 0) (xVar 1))))) sNext)
    (sRet (wM (xAnd (xIsi .int (xVar 0)) (xAnd (xNot (xIsi .bool (xVar 0))) (xOp eqP (xVar 0) (xVar 1)))))))
def F__law_same_c : Nat → List PD → Option PD
  | 0 => fun _ => none
  | n + 1 => runP 2 1 (X__law_same_c (F__law_same_c n))
-- _law_sharing: 0 _law_deck_here, 1 _law_fair_here, 2 _law_ties, 3 _law_givers, 4 _law_takers, 5 _law_left, 6 _law_found, 7 _law_tie, 8 _law_giver, 9 _law_taker, 10 _law_room, 11 _law_most, 12 _law_many, 13 _law_seat
@[irreducible] def X__law_sharing_b1 : XS :=
    sSeq (sAsg (gTup' 3 (gCons' (gName' 8) (gCons' (gName' 9) (gCons' (gName' 10) gNil')))) (wM (xOp ixP (xVar 2) (xVar 7))))
    (sSeq (sAsg (gName' 11) (wV (xCB minU (xCons (xVar 10) (xCons (xOp ixP (xOp ixP (xVar 5) (xC (.int 0))) (xVar 8)) (xCons (xOp ixP (xOp ixP (xVar 5) (xC (.int 1))) (xVar 9)) xNil))))))
    (sSeq (sAsg (gName' 12) (wOp ixP (wLst (wCons (wM (xC (.int 0))) (wCons (wM (xVar 11)) (wCons (wM (xVar 11)) (wCons (wCallK 0 F__law_draw (wCons (wM (xOp addP (xVar 11) (xC (.int 1)))) wNil)) wNil))))) (wCallK 0 F__law_draw (wCons (wM (xC (.int 4))) wNil))))
    (sSeq (sSet 6 (xVar 7) (wM (xVar 12)))
    (sSeq (sSetS 5 (xC (.int 0)) (xVar 8) (wV (xOp subP (xOp ixP (xOp ixP (xVar 5) (xC (.int 0))) (xVar 8)) (xVar 12))))
    (sSetS 5 (xC (.int 1)) (xVar 9) (wV (xOp subP (xOp ixP (xOp ixP (xVar 5) (xC (.int 1))) (xVar 9)) (xVar 12))))))))
@[irreducible] def X__law_sharing : XS :=
    sSeq (sAsg (gTup' 3 (gCons' (gName' 2) (gCons' (gName' 3) (gCons' (gName' 4) gNil')))) (wM (xVar 1)))
    (sSeq (sOwn 5 (wOL (wcSub (wOM (xLc (xiE (xVar 3)) (gvName 13) xYes (xOp ixP (xVar 13) (xC (.int 0))) [13])) (wcSub (wOM (xLc (xiE (xVar 4)) (gvName 13) xYes (xOp ixP (xVar 13) (xC (.int 0))) [13])) wcNil))))
    (sSeq (sOwn 6 (wOM (xOp repP (xLst (xCons (xC (.int 0)) xNil)) (xCB (on1 lenP) (xCons (xVar 2) xNil)))))
    (sSeq (sFor (wiE (wCallK 0 F__law_order_c (wCons (wM (xUn rgL (xCB (on1 lenP) (xCons (xVar 2) xNil)))) wNil))) (gName' 7) X__law_sharing_b1)
    (sFz 5 (sFz 6 (sRet (wM (xCB (on1 tupP) (xCons (xVar 6) xNil)))))))))
@[irreducible] def F__law_sharing : List Cel → List PD → Option (PD × List Cel) := runW 1 12 X__law_sharing
-- borne: 0 bears*, 1 numbers, 2 number
@[irreducible] def X_borne : XS :=
    sRet (wM (xCB (on1 sumP) (xCons (xLc (xiE (xVar 1)) (gvName 2) xYes (xOp ixP (xVar 0) (xVar 2)) [2]) xNil)))
@[irreducible] def F_borne : List PD → Option PD := runP 2 1 X_borne
-- side_in_all: 0 seats, 1 sharing*, 2 much, 3 order
@[irreducible] def X_side_in_all : XS :=
    sRet (wM (xCB (on1 tupP) (xCons (xLc (xiE (xVar 0)) (gvTup 2 (gvCons (gvName 2) (gvCons (gvName 3) gvNil))) xYes (xCB F_borne (xCons (xVar 1) (xCons (xVar 3) xNil))) [2, 3]) xNil)))
@[irreducible] def F_side_in_all : List PD → Option PD := runP 2 2 X_side_in_all
-- in_all: 0 fair, 1 sharing
@[irreducible] def X_in_all : XS :=
    sRet (wM (xTup (xCons (xCB F_side_in_all (xCons (xOp ixP (xVar 0) (xC (.int 1))) (xCons (xVar 1) xNil))) (xCons (xCB F_side_in_all (xCons (xOp ixP (xVar 0) (xC (.int 2))) (xCons (xVar 1) xNil))) xNil))))
@[irreducible] def F_in_all : List PD → Option PD := runP 2 0 X_in_all
-- is_number: 0 thing
@[irreducible] def X_is_number : XS :=
    sRet (wM (xAnd (xIsi .int (xVar 0)) (xNot (xIsi .bool (xVar 0)))))
@[irreducible] def F_is_number : List PD → Option PD := runP 1 0 X_is_number
-- is_number_to: 0 thing, 1 most
@[irreducible] def X_is_number_to : XS :=
    sRet (wM (xAnd (xCB F_is_number (xCons (xVar 0) xNil)) (xChain leP leP (xC (.int 0)) (xVar 0) (xVar 1))))
@[irreducible] def F_is_number_to : List PD → Option PD := runP 2 0 X_is_number_to
-- is_order: 0 thing, 1 numbers, 2 number
@[irreducible] def X_is_order : XS :=
    sRet (wM (xAnd (xIsi .tuple (xVar 0)) (xAnd (xCB (on1 allP) (xCons (xLc (xiE (xVar 0)) (gvName 2) xYes (xCB F_is_number (xCons (xVar 2) xNil)) [2]) xNil)) (xOp eqP (xCB (on1 sortP) (xCons (xVar 0) xNil)) (xVar 1)))))
@[irreducible] def F_is_order : List PD → Option PD := runP 2 1 X_is_order
-- is_tuple_of: 0 thing, 1 least, 2 most
@[irreducible] def X_is_tuple_of : XS :=
    sRet (wM (xAnd (xIsi .tuple (xVar 0)) (xChain leP leP (xVar 1) (xCB (on1 lenP) (xCons (xVar 0) xNil)) (xVar 2))))
@[irreducible] def F_is_tuple_of : List PD → Option PD := runP 3 0 X_is_tuple_of
-- is_seat: 0 thing, 1 ties
@[irreducible] def X_is_seat : XS :=
    sRet (wM (xAnd (xCB F_is_tuple_of (xCons (xVar 0) (xCons (xC (.int 2)) (xCons (xC (.int 2)) xNil)))) (xAnd (xCB F_is_number_to (xCons (xOp ixP (xVar 0) (xC (.int 0))) (xCons (xC (.int 1000000000000000)) xNil))) (xCB F_is_order (xCons (xOp ixP (xVar 0) (xC (.int 1))) (xCons (xVar 1) xNil))))))
@[irreducible] def F_is_seat : List PD → Option PD := runP 2 0 X_is_seat
-- are_seats: 0 seats, 1 sitting*, 2 number, 3 seat, 4 tie, 5 other
@[irreducible] def X_are_seats : XS :=
    sRet (wM (xCB (on1 allP) (xCons (xLc (xiA enumP (xCons (xVar 0) xNil)) (gvTup 2 (gvCons (gvName 2) (gvCons (gvName 3) gvNil))) xYes (xCB F_is_seat (xCons (xVar 3) (xCons (xLc (xiA enumP (xCons (xVar 1) xNil)) (gvTup 2 (gvCons (gvName 4) (gvCons (gvName 5) gvNil))) (xB (xOp eqP (xVar 5) (xVar 2))) (xVar 4) [4, 5]) xNil))) [2, 3]) xNil)))
@[irreducible] def F_are_seats : List PD → Option PD := runP 2 4 X_are_seats
-- is_tie: 0 thing, 1 givers, 2 takers, 3 giver, 4 taker, 5 room
@[irreducible] def X_is_tie : XS :=
    sSeq (sIf (wMT (xTNot (xB (xCB F_is_tuple_of (xCons (xVar 0) (xCons (xC (.int 3)) (xCons (xC (.int 3)) xNil))))))) (sRet (wM (xC (.bool false)))) sNext)
    (sSeq (sAsg (gTup' 3 (gCons' (gName' 3) (gCons' (gName' 4) (gCons' (gName' 5) gNil')))) (wM (xVar 0)))
    (sRet (wM (xAnd (xCB F_is_number_to (xCons (xVar 3) (xCons (xOp subP (xVar 1) (xC (.int 1))) xNil))) (xAnd (xCB F_is_number_to (xCons (xVar 4) (xCons (xOp subP (xVar 2) (xC (.int 1))) xNil))) (xCB F_is_number_to (xCons (xVar 5) (xCons (xC (.int 1000000000000000)) xNil))))))))
@[irreducible] def F_is_tie : List PD → Option PD := runP 3 3 X_is_tie
-- is_fair: 0 thing, 1 ties, 2 givers*, 3 takers*, 4 tie
@[irreducible] def X_is_fair : XS :=
    sSeq (sIf (wMT (xTNot (xB (xCB F_is_tuple_of (xCons (xVar 0) (xCons (xC (.int 3)) (xCons (xC (.int 3)) xNil))))))) (sRet (wM (xC (.bool false)))) sNext)
    (sSeq (sAsg (gTup' 3 (gCons' (gName' 1) (gCons' (gName' 2) (gCons' (gName' 3) gNil')))) (wM (xVar 0)))
    (sSeq (sIf (wMT (xTOr (xTNot (xB (xCB F_is_tuple_of (xCons (xVar 1) (xCons (xC (.int 0)) (xCons (xC (.int 36)) xNil)))))) (xTOr (xTNot (xB (xCB F_is_tuple_of (xCons (xVar 2) (xCons (xC (.int 1)) (xCons (xC (.int 28)) xNil)))))) (xTNot (xB (xCB F_is_tuple_of (xCons (xVar 3) (xCons (xC (.int 1)) (xCons (xC (.int 28)) xNil))))))))) (sRet (wM (xC (.bool false)))) sNext)
    (sSeq (sIf (wMT (xTNot (xB (xCB (on1 allP) (xCons (xLc (xiE (xVar 1)) (gvName 4) xYes (xCB F_is_tie (xCons (xVar 4) (xCons (xCB (on1 lenP) (xCons (xVar 2) xNil)) (xCons (xCB (on1 lenP) (xCons (xVar 3) xNil)) xNil)))) [4]) xNil))))) (sRet (wM (xC (.bool false)))) sNext)
    (sRet (wM (xAnd (xCB F_are_seats (xCons (xVar 2) (xCons (xLc (xiE (xVar 1)) (gvName 4) xYes (xOp ixP (xVar 4) (xC (.int 0))) [4]) xNil))) (xCB F_are_seats (xCons (xVar 3) (xCons (xLc (xiE (xVar 1)) (gvName 4) xYes (xOp ixP (xVar 4) (xC (.int 1))) [4]) xNil)))))))))
@[irreducible] def F_is_fair : List PD → Option PD := runP 1 4 X_is_fair
-- spare: 0 seat, 1 sharing, 2 much, 3 order
@[irreducible] def X_spare : XS :=
    sSeq (sAsg (gTup' 2 (gCons' (gName' 2) (gCons' (gName' 3) gNil'))) (wM (xVar 0)))
    (sRet (wM (xOp subP (xVar 2) (xCB F_borne (xCons (xVar 1) (xCons (xVar 3) xNil))))))
@[irreducible] def F_spare : List PD → Option PD := runP 2 2 X_spare
-- is_sharing: 0 fair, 1 thing*, 2 ties, 3 givers, 4 takers, 5 bears, 6 tie, 7 seat
@[irreducible] def X_is_sharing : XS :=
    sSeq (sAsg (gTup' 3 (gCons' (gName' 2) (gCons' (gName' 3) (gCons' (gName' 4) gNil')))) (wM (xVar 0)))
    (sSeq (sIf (wMT (xTNot (xB (xCB F_is_tuple_of (xCons (xVar 1) (xCons (xCB (on1 lenP) (xCons (xVar 2) xNil)) (xCons (xCB (on1 lenP) (xCons (xVar 2) xNil)) xNil))))))) (sRet (wM (xC (.bool false)))) sNext)
    (sSeq (sIf (wMT (xTNot (xB (xCB (on1 allP) (xCons (xLc (xiA zipP (xCons (xVar 1) (xCons (xVar 2) xNil))) (gvTup 2 (gvCons (gvName 5) (gvCons (gvName 6) gvNil))) xYes (xCB F_is_number_to (xCons (xVar 5) (xCons (xOp ixP (xVar 6) (xC (.int 2))) xNil))) [5, 6]) xNil))))) (sRet (wM (xC (.bool false)))) sNext)
    (sRet (wM (xCB (on1 allP) (xCons (xLc (xiE (xOp addP (xVar 3) (xVar 4))) (gvName 7) xYes (xOp geP (xCB F_spare (xCons (xVar 7) (xCons (xVar 1) xNil))) (xC (.int 0))) [7]) xNil))))))
@[irreducible] def F_is_sharing : List PD → Option PD := runP 2 6 X_is_sharing
-- has_less_liked: 0 bears, 1 order, 2 number
@[irreducible] def X_has_less_liked : XS :=
    sRet (wM (xOp gtU (xCB F_borne (xCons (xVar 0) (xCons (xSl (xVar 1) (xPart (xOp addP (xIdx (xVar 1) (xVar 2)) (xC (.int 1)))) xNoPart) xNil))) (xC (.int 0))))
@[irreducible] def F_has_less_liked : List PD → Option PD := runP 3 0 X_has_less_liked
-- would_have: 0 seat, 1 sharing, 2 tie
@[irreducible] def X_would_have : XS :=
    sRet (wM (xOr (xOp gtU (xCB F_spare (xCons (xVar 0) (xCons (xVar 1) xNil))) (xC (.int 0))) (xCB F_has_less_liked (xCons (xVar 1) (xCons (xOp ixP (xVar 0) (xC (.int 1))) (xCons (xVar 2) xNil))))))
@[irreducible] def F_would_have : List PD → Option PD := runP 3 0 X_would_have
-- loose: 0 fair, 1 sharing*, 2 ties, 3 givers*, 4 takers*, 5 number, 6 giver, 7 taker, 8 room
@[irreducible] def X_loose : XS :=
    sSeq (sAsg (gTup' 3 (gCons' (gName' 2) (gCons' (gName' 3) (gCons' (gName' 4) gNil')))) (wM (xVar 0)))
    (sRet (wM (xCB (on1 tupP) (xCons (xLc (xiA enumP (xCons (xVar 2) xNil)) (gvTup 2 (gvCons (gvName 5) (gvCons (gvTup 3 (gvCons (gvName 6) (gvCons (gvName 7) (gvCons (gvName 8) gvNil)))) gvNil))) (xTAnd (xB (xOp ltP (xOp ixP (xVar 1) (xVar 5)) (xVar 8))) (xTAnd (xB (xCB F_would_have (xCons (xOp ixP (xVar 3) (xVar 6)) (xCons (xVar 1) (xCons (xVar 5) xNil))))) (xB (xCB F_would_have (xCons (xOp ixP (xVar 4) (xVar 7)) (xCons (xVar 1) (xCons (xVar 5) xNil))))))) (xVar 5) [5, 6, 7, 8]) xNil))))
@[irreducible] def F_loose : List PD → Option PD := runP 2 7 X_loose
-- turned_fair: 0 fair, 1 ties, 2 givers, 3 takers, 4 giver, 5 taker, 6 room
@[irreducible] def X_turned_fair : XS :=
    sSeq (sAsg (gTup' 3 (gCons' (gName' 1) (gCons' (gName' 2) (gCons' (gName' 3) gNil')))) (wM (xVar 0)))
    (sRet (wM (xTup (xCons (xCB (on1 tupP) (xCons (xLc (xiE (xVar 1)) (gvTup 3 (gvCons (gvName 4) (gvCons (gvName 5) (gvCons (gvName 6) gvNil)))) xYes (xTup (xCons (xVar 5) (xCons (xVar 4) (xCons (xVar 6) xNil)))) [4, 5, 6]) xNil)) (xCons (xVar 3) (xCons (xVar 2) xNil))))))
@[irreducible] def F_turned_fair : List PD → Option PD := runP 1 6 X_turned_fair
-- law_z27: 0 _law_script, 1 _law_deck_here, 2 _law_turn, 3 _law_fair_here, 4 _law_kept, 5 _law_due, 6 _law_found, 7 _law_k, 8 _law_sharing_here, 9 _law_giver, 10 _law_taker, 11 _law_room
@[irreducible] def X_law_z27_b1 : XS :=
    sSeq (sAsg (gName' 8) (wCallK 1 F__law_sharing (wCons (wM (xVar 3)) wNil)))
    (sSeq (sIf (wMT (xTOr (xB (xOp isntU (xCB F_is_sharing (xCons (xVar 6) (xCons (xVar 8) xNil))) (xC (.bool true)))) (xB (xOp neP (xCB F_in_all (xCons (xVar 6) (xCons (xVar 8) xNil))) (xUn backP (xCB F_in_all (xCons (xVar 3) (xCons (xVar 8) xNil)))))))) (sFz 1 (sRet (wM (xC (.bool false))))) sNext)
    (sIf (wMT (xTNot (xB (xCB (F__law_same_c 9) (xCons (xCB F_loose (xCons (xVar 6) (xCons (xVar 8) xNil))) (xCons (xCB F_loose (xCons (xVar 3) (xCons (xVar 8) xNil))) xNil)))))) (sFz 1 (sRet (wM (xC (.bool false))))) sNext))
@[irreducible] def X_law_z27_b2 : XS :=
    sSeq (sAsg (gName' 3) (wCallK 1 F__law_fair (wCons (wM (xC (.int 6))) (wCons (wM (xC (.int 12))) (wCons (wOp eqP (wCallK 1 F__law_draw (wCons (wM (xC (.int 2))) wNil)) (wM (xC (.int 0)))) wNil)))))
    (sSeq (sAsg (gName' 4) (wM (xCB (on1 reprP) (xCons (xVar 3) xNil))))
    (sSeq (sAsg (gName' 5) (wM (xTup (xCons (xCB (on1 tupP) (xCons (xLc (xiE (xOp ixP (xVar 3) (xC (.int 0)))) (gvTup 3 (gvCons (gvName 9) (gvCons (gvName 10) (gvCons (gvName 11) gvNil)))) xYes (xTup (xCons (xVar 10) (xCons (xVar 9) (xCons (xVar 11) xNil)))) [9, 10, 11]) xNil)) (xCons (xOp ixP (xVar 3) (xC (.int 2))) (xCons (xOp ixP (xVar 3) (xC (.int 1))) xNil))))))
    (sSeq (sAsg (gName' 6) (wM (xCB F_turned_fair (xCons (xVar 3) xNil))))
    (sSeq (sIf (wMT (xTOr (xTNot (xB (xCB (F__law_same_c 9) (xCons (xVar 6) (xCons (xVar 5) xNil))))) (xTOr (xTNot (xB (xCB (F__law_same_c 9) (xCons (xCB F_turned_fair (xCons (xVar 6) xNil)) (xCons (xVar 3) xNil))))) (xB (xOp isntU (xCB F_is_fair (xCons (xVar 6) xNil)) (xC (.bool true))))))) (sFz 1 (sRet (wM (xC (.bool false))))) sNext)
    (sSeq (sFor (wiA rngP (wCons (wM (xC (.int 4))) wNil)) (gName' 7) X_law_z27_b1)
    (sIf (wMT (xB (xOp neP (xCB (on1 reprP) (xCons (xVar 3) xNil)) (xVar 4)))) (sFz 1 (sRet (wM (xC (.bool false))))) sNext))))))
@[irreducible] def X_law_z27 : XS :=
    sSeq (sOwn 1 (wCallD F__law_deck_d (wCons (wM (xVar 0)) wNil)))
    (sSeq (sFor (wiA rngP (wCons (wM (xC (.int 6))) wNil)) (gName' 2) X_law_z27_b2)
    (sFz 1 (sRet (wM (xC (.bool true))))))
@[irreducible] def F_law_z27 : List PD → Option PD := runP 1 11 X_law_z27
-- big_of: 0 web, 1 begin, 2 end, 3 room
@[irreducible] def X_big_of : XS :=
    sRet (wM (xOp addP (xCB (on1 sumP) (xCons (xLc (xiE (xOp ixP (xVar 0) (xC (.int 0)))) (gvTup 3 (gvCons (gvName 1) (gvCons (gvName 2) (gvCons (gvName 3) gvNil)))) xYes (xVar 3) [1, 2, 3]) xNil)) (xC (.int 1))))
@[irreducible] def F_big_of : List PD → Option PD := runP 1 3 X_big_of
-- is_lot: 0 web, 1 thing, 2 houses*, 3 house, 4 ahead
@[irreducible] def X_is_lot : XS :=
    sSeq (sAsg (gName' 2) (wM (xCB (on1 lenP) (xCons (xOp ixP (xVar 0) (xC (.int 1))) xNil))))
    (sSeq (sIf (wMT (xTOr (xTNot (xB (xCB F_is_tuple_of (xCons (xVar 1) (xCons (xC (.int 0)) (xCons (xVar 2) xNil)))))) (xTNot (xB (xCB (on1 allP) (xCons (xLc (xiE (xVar 1)) (gvName 3) xYes (xCB F_is_number_to (xCons (xVar 3) (xCons (xOp subP (xVar 2) (xC (.int 1))) xNil))) [3]) xNil)))))) (sRet (wM (xC (.bool false)))) sNext)
    (sRet (wM (xCB (on1 allP) (xCons (xLc (xiA zipP (xCons (xVar 1) (xCons (xSl (xVar 1) (xPart (xC (.int 1))) xNoPart) xNil))) (gvTup 2 (gvCons (gvName 4) (gvCons (gvName 3) gvNil))) xYes (xOp ltP (xVar 4) (xVar 3)) [4, 3]) xNil)))))
@[irreducible] def F_is_lot : List PD → Option PD := runP 2 3 X_is_lot
-- last_gladly: 0 web, 1 stream, 2 road, 3 end
@[irreducible] def X_last_gladly : XS :=
    sSeq (sAsg (gName' 3) (wM (xOp ixP (xOp ixP (xOp ixP (xVar 0) (xC (.int 0))) (xVar 2)) (xC (.int 1)))))
    (sRet (wM (xOr (xOp isU (xVar 3) (xC .none)) (xCB F_has_less_liked (xCons (xVar 1) (xCons (xOp ixP (xOp ixP (xVar 0) (xC (.int 2))) (xVar 3)) (xCons (xVar 2) xNil)))))))
@[irreducible] def F_last_gladly : List PD → Option PD := runP 3 1 X_last_gladly
-- is_stopped: 0 web, 1 stream, 2 lot, 3 road
@[irreducible] def X_is_stopped : XS :=
    sRet (wM (xAnd (xOp inP (xOp ixP (xOp ixP (xOp ixP (xVar 0) (xC (.int 0))) (xVar 3)) (xC (.int 1))) (xVar 2)) (xNot (xCB F_last_gladly (xCons (xVar 0) (xCons (xVar 1) (xCons (xVar 3) xNil)))))))
@[irreducible] def F_is_stopped : List PD → Option PD := runP 4 0 X_is_stopped
-- first_gladly: 0 web, 1 stream, 2 road, 3 begin
@[irreducible] def X_first_gladly : XS :=
    sSeq (sAsg (gName' 3) (wM (xOp ixP (xOp ixP (xOp ixP (xVar 0) (xC (.int 0))) (xVar 2)) (xC (.int 0)))))
    (sRet (wM (xOr (xOp isU (xVar 3) (xC .none)) (xCB F_has_less_liked (xCons (xVar 1) (xCons (xOp ixP (xOp ixP (xVar 0) (xC (.int 1))) (xVar 3)) (xCons (xVar 2) xNil)))))))
@[irreducible] def F_first_gladly : List PD → Option PD := runP 3 1 X_first_gladly
-- pressed: 0 web*, 1 stream*, 2 lot*, 3 road, 4 begin, 5 end, 6 room
@[irreducible] def X_pressed : XS :=
    sRet (wM (xLc (xiA enumP (xCons (xOp ixP (xVar 0) (xC (.int 0))) xNil)) (gvTup 2 (gvCons (gvName 3) (gvCons (gvTup 3 (gvCons (gvName 4) (gvCons (gvName 5) (gvCons (gvName 6) gvNil)))) gvNil))) (xTAnd (xB (xOp ltP (xOp ixP (xVar 1) (xVar 3)) (xVar 6))) (xTOr (xB (xOp inP (xVar 4) (xVar 2))) (xB (xCB F_first_gladly (xCons (xVar 0) (xCons (xVar 1) (xCons (xVar 3) xNil))))))) (xVar 3) [3, 4, 5, 6]))
@[irreducible] def F_pressed : List PD → Option PD := runP 3 4 X_pressed
-- calms: 0 web*, 1 stream*, 2 thing*, 3 road
@[irreducible] def X_calms : XS :=
    sSeq (sIf (wMT (xTNot (xB (xCB F_is_lot (xCons (xVar 0) (xCons (xVar 2) xNil)))))) (sRet (wM (xC (.bool false)))) sNext)
    (sRet (wM (xCB (on1 allP) (xCons (xLc (xiE (xCB F_pressed (xCons (xVar 0) (xCons (xVar 1) (xCons (xVar 2) xNil))))) (gvName 3) xYes (xCB F_is_stopped (xCons (xVar 0) (xCons (xVar 1) (xCons (xVar 2) (xCons (xVar 3) xNil))))) [3]) xNil))))
@[irreducible] def F_calms : List PD → Option PD := runP 3 1 X_calms
-- door_seats: 0 web*, 1 roads, 2 road
@[irreducible] def X_door_seats : XS :=
    sRet (wM (xLc (xiE (xVar 1)) (gvName 2) xYes (xTup (xCons (xOp ixP (xOp ixP (xOp ixP (xVar 0) (xC (.int 0))) (xVar 2)) (xC (.int 2))) (xCons (xTup (xCons (xVar 2) xNil)) xNil))) [2]))
@[irreducible] def F_door_seats : List PD → Option PD := runP 2 1 X_door_seats
-- in_doors: 0 web, 1 number, 2 road
@[irreducible] def X_in_doors : XS :=
    sRet (wM (xCB (on1 tupP) (xCons (xLc (xiA enumP (xCons (xOp ixP (xVar 0) (xC (.int 0))) xNil)) (gvTup 2 (gvCons (gvName 1) (gvCons (gvName 2) gvNil))) (xB (xOp isU (xOp ixP (xVar 2) (xC (.int 0))) (xC .none))) (xVar 1) [1, 2]) xNil)))
@[irreducible] def F_in_doors : List PD → Option PD := runP 1 2 X_in_doors
-- lying: 0 web, 1 house
@[irreducible] def X_lying : XS :=
    sRet (wM (xOp addP (xCB (on1 lenP) (xCons (xOp ixP (xVar 0) (xC (.int 0))) xNil)) (xOp mulU (xC (.int 2)) (xVar 1))))
@[irreducible] def F_lying : List PD → Option PD := runP 2 0 X_lying
-- standing: 0 web, 1 house
@[irreducible] def X_standing : XS :=
    sRet (wM (xOp addP (xCB F_lying (xCons (xVar 0) (xCons (xVar 1) xNil))) (xC (.int 1))))
@[irreducible] def F_standing : List PD → Option PD := runP 2 0 X_standing
-- givers_of: 0 web*, 1 big*, 2 seats, 3 house, 4 order
@[irreducible] def X_givers_of : XS :=
    sSeq (sAsg (gName' 1) (wM (xCB F_big_of (xCons (xVar 0) xNil))))
    (sSeq (sAsg (gName' 2) (wM (xLc (xiA enumP (xCons (xOp ixP (xVar 0) (xC (.int 1))) xNil)) (gvTup 2 (gvCons (gvName 3) (gvCons (gvName 4) gvNil))) xYes (xTup (xCons (xVar 1) (xCons (xTup (xCons (xCB F_lying (xCons (xVar 0) (xCons (xVar 3) xNil))) (xStar (xVar 4) (xCons (xCB F_standing (xCons (xVar 0) (xCons (xVar 3) xNil))) xNil)))) xNil))) [3, 4])))
    (sRet (wM (xCB (on1 tupP) (xCons (xOp addP (xVar 2) (xCB F_door_seats (xCons (xVar 0) (xCons (xCB F_in_doors (xCons (xVar 0) xNil)) xNil)))) xNil)))))
@[irreducible] def F_givers_of : List PD → Option PD := runP 1 4 X_givers_of
-- house_ties: 0 web, 1 big, 2 ties, 3 house
@[irreducible] def X_house_ties_b1 : XS :=
    sExt 2 (wM (xLst (xCons (xTup (xCons (xVar 3) (xCons (xVar 3) (xCons (xVar 1) xNil)))) (xCons (xTup (xCons (xVar 3) (xCons (xVar 3) (xCons (xVar 1) xNil)))) xNil))))
@[irreducible] def X_house_ties : XS :=
    sSeq (sAsg (gName' 1) (wM (xCB F_big_of (xCons (xVar 0) xNil))))
    (sSeq (sOwn 2 (wOL wcNil))
    (sSeq (sFor (wiA rngP (wCons (wM (xCB (on1 lenP) (xCons (xOp ixP (xVar 0) (xC (.int 1))) xNil))) wNil)) (gName' 3) X_house_ties_b1)
    (sFz 2 (sRet (wM (xCB (on1 tupP) (xCons (xVar 2) xNil)))))))
@[irreducible] def F_house_ties : List PD → Option PD := runP 1 3 X_house_ties
-- out_doors: 0 web, 1 number, 2 road
@[irreducible] def X_out_doors : XS :=
    sRet (wM (xCB (on1 tupP) (xCons (xLc (xiA enumP (xCons (xOp ixP (xVar 0) (xC (.int 0))) xNil)) (gvTup 2 (gvCons (gvName 1) (gvCons (gvName 2) gvNil))) (xB (xOp isU (xOp ixP (xVar 2) (xC (.int 1))) (xC .none))) (xVar 1) [1, 2]) xNil)))
@[irreducible] def F_out_doors : List PD → Option PD := runP 1 2 X_out_doors
-- road_ties: 0 web, 1 coming, 2 going, 3 houses, 4 ties, 5 road, 6 begin, 7 end, 8 room, 9 giver, 10 taker
@[irreducible] def X_road_ties_b1 : XS :=
    sSeq (sAsg (gName' 9) (wM (xIf (xB (xOp isU (xVar 6) (xC .none))) (xOp addP (xVar 3) (xIdx (xVar 1) (xVar 5))) (xVar 6))))
    (sSeq (sAsg (gName' 10) (wM (xIf (xB (xOp isU (xVar 7) (xC .none))) (xOp addP (xVar 3) (xIdx (xVar 2) (xVar 5))) (xVar 7))))
    (sApp 4 (wM (xTup (xCons (xVar 9) (xCons (xVar 10) (xCons (xVar 8) xNil)))))))
@[irreducible] def X_road_ties : XS :=
    sSeq (sAsg (gName' 1) (wM (xCB F_in_doors (xCons (xVar 0) xNil))))
    (sSeq (sAsg (gName' 2) (wM (xCB F_out_doors (xCons (xVar 0) xNil))))
    (sSeq (sAsg (gName' 3) (wM (xCB (on1 lenP) (xCons (xOp ixP (xVar 0) (xC (.int 1))) xNil))))
    (sSeq (sOwn 4 (wOL wcNil))
    (sSeq (sFor (wiA enumP (wCons (wM (xOp ixP (xVar 0) (xC (.int 0)))) wNil)) (gTup' 2 (gCons' (gName' 5) (gCons' (gTup' 3 (gCons' (gName' 6) (gCons' (gName' 7) (gCons' (gName' 8) gNil')))) gNil'))) X_road_ties_b1)
    (sFz 4 (sRet (wM (xCB (on1 tupP) (xCons (xVar 4) xNil)))))))))
@[irreducible] def F_road_ties : List PD → Option PD := runP 1 10 X_road_ties
-- takers_of: 0 web*, 1 big*, 2 seats, 3 house, 4 order
@[irreducible] def X_takers_of : XS :=
    sSeq (sAsg (gName' 1) (wM (xCB F_big_of (xCons (xVar 0) xNil))))
    (sSeq (sAsg (gName' 2) (wM (xLc (xiA enumP (xCons (xOp ixP (xVar 0) (xC (.int 2))) xNil)) (gvTup 2 (gvCons (gvName 3) (gvCons (gvName 4) gvNil))) xYes (xTup (xCons (xVar 1) (xCons (xTup (xCons (xCB F_standing (xCons (xVar 0) (xCons (xVar 3) xNil))) (xStar (xVar 4) (xCons (xCB F_lying (xCons (xVar 0) (xCons (xVar 3) xNil))) xNil)))) xNil))) [3, 4])))
    (sRet (wM (xCB (on1 tupP) (xCons (xOp addP (xVar 2) (xCB F_door_seats (xCons (xVar 0) (xCons (xCB F_out_doors (xCons (xVar 0) xNil)) xNil)))) xNil)))))
@[irreducible] def F_takers_of : List PD → Option PD := runP 1 4 X_takers_of
-- fair_of: 0 web
@[irreducible] def X_fair_of : XS :=
    sRet (wM (xTup (xCons (xOp addP (xCB F_road_ties (xCons (xVar 0) xNil)) (xCB F_house_ties (xCons (xVar 0) xNil))) (xCons (xCB F_givers_of (xCons (xVar 0) xNil)) (xCons (xCB F_takers_of (xCons (xVar 0) xNil)) xNil)))))
@[irreducible] def F_fair_of : List PD → Option PD := runP 1 0 X_fair_of
-- wanted: 0 fair, 1 sharing, 2 giver, 3 ties, 4 givers, 5 takers, 6 tie, 7 taker, 8 room
@[irreducible] def X_wanted_b1 : XS :=
    sSeq (sAsg (gTup' 2 (gCons' (gName' 7) (gCons' (gName' 8) gNil'))) (wM (xSl (xOp ixP (xVar 3) (xVar 6)) (xPart (xC (.int 1))) xNoPart)))
    (sIf (wMT (xTAnd (xB (xOp ltP (xOp ixP (xVar 1) (xVar 6)) (xVar 8))) (xB (xCB F_would_have (xCons (xOp ixP (xVar 5) (xVar 7)) (xCons (xVar 1) (xCons (xVar 6) xNil))))))) (sRet (wM (xVar 6))) sNext)
@[irreducible] def X_wanted : XS :=
    sSeq (sAsg (gTup' 3 (gCons' (gName' 3) (gCons' (gName' 4) (gCons' (gName' 5) gNil')))) (wM (xVar 0)))
    (sSeq (sFor (wiE (wM (xOp ixP (xOp ixP (xVar 4) (xVar 2)) (xC (.int 1))))) (gName' 6) X_wanted_b1)
    (sRet (wM (xC .none))))
@[irreducible] def F_wanted : List PD → Option PD := runP 3 6 X_wanted
section
variable [kk : KK]
def T__law_deck_d : TS :=
    tSeq (tAsg (tOp (rAddU K) (tCB (rListQ K) (tCons (tSl (rSlU K) (tVar 0) tNoPart (tPart (tC (.int 63)))) tNil)) (tOp (rMulV K) (tLst (tCons (tC (.int 7)) tNil)) (tCB rIntQ (tCons (tOp (rEqX K) (tCB (rLenQ K) (tCons (tVar 0) tNil)) (tC (.int 0))) tNil)))) (gName 1))
    (tRet (tLst (tCons (tVar 1) (tCons (tC (.int 0)) (tCons (tLc (iSeq K (tVar 1)) (gName 2) tYes (tOp (rMulV K) (tVar 2) (tCB rIntQ (tCons (tOp oGe (tVar 2) (tOp oPow (tC (.int 10)) (tC (.int 18)))) tNil))) [2]) (tCons (tC (.int 43)) tNil))))))
theorem ss__law_deck_d : SS T__law_deck_d X__law_deck_d := by
  unfold X__law_deck_d T__law_deck_d
  exact ss_seq (ss_asg (sg_name (by decide)) (sw_M (se_op so_add (SEF.se (sef_list (se_sl se_var sp_none (sp_some se_int)))) (se_op so_mulV (SEF.se (sef_lst (sa_cons se_int sa_nil))) (se_cb sc_int (sa_cons (se_op so_eq (se_cb sc_len (sa_cons se_var sa_nil)) se_int) sa_nil))))))
    (ss_retO (swo_lst (swc_dat (sw_M se_var) (swc_dat (sw_M se_int) (swc_sub (swo_M (sef_lc (si_seq se_var) sgv_name (by decide) st_yes (se_op so_mulV se_var (se_cb sc_int (sa_cons (se_op so_ge se_var (se_op so_pow se_int se_int)) sa_nil))))) (swc_dat (sw_M se_int) swc_nil))))))
def T__law_draw : TS :=
    tSeq (tAsg (tVar 0) (gTU K 4 (gCons (gName 2) (gCons (gName 3) (gCons (gName 4) (gCons (gName 5) gNil))))))
    (tSeq (tAsg (tOp oMod (tVar 3) (tCB (rLenQ K) (tCons (tVar 2) tNil))) (gName 6))
    (tSeq (tAsg (tOp (rAddU K) (tVar 3) (tC (.int 1))) (gSub (tVar 0) (tC (.int 1)) rSetL))
    (tSeq (tIfS (tTest (tOp (rGtU K) (tOp (rIx K) (tVar 4) (tVar 6)) (tC (.int 0)))) (tSeq (tAsg (tOp oMod (tOp (rIx K) (tVar 4) (tVar 6)) (tVar 1)) (gName 7)) (tSeq (tAsg (tOp oDivW (tOp (rIx K) (tVar 4) (tVar 6)) (tVar 1)) (gSub (tVar 4) (tVar 6) rSetL)) (tRet (tVar 7)))) tNext)
    (tSeq (tAsg (tOp oMod (tOp (rAddU K) (tOp (rAddU K) (tOp (rMulV K) (tVar 5) (tC (.int 48271))) (tOp oMod (tOp (rIx K) (tVar 2) (tVar 6)) (tC (.int 2147483629)))) (tOp (rMulV K) (tC (.int 30011)) (tVar 3))) (tC (.int 2147483647))) (gSub (tVar 0) (tC (.int 3)) rSetL))
    (tRet (tOp oMod (tOp oDivW (tOp oMod (tOp (rMulV K) (tOp (rIx K) (tVar 0) (tC (.int 3))) (tOp (rIx K) (tVar 0) (tC (.int 3)))) (tC (.int 2147483629))) (tC (.int 8))) (tVar 1)))))))
theorem ss__law_draw : SS T__law_draw X__law_draw := by
  unfold X__law_draw T__law_draw
  exact ss_draw (se_op so_mod se_var (se_cb sc_len (sa_cons se_var sa_nil))) (se_op so_add se_var se_int) (st_test (se_op so_gtU (se_op so_ix se_var se_var) se_int)) (se_op so_mod (se_op so_ix se_var se_var) se_var) (se_op so_div (se_op so_ix se_var se_var) se_var) (se_op so_mod (se_op so_add (se_op so_add (se_op so_mulV se_var se_int) (se_op so_mod (se_op so_ix se_var se_var) se_int)) (se_op so_mulV se_int se_var)) se_int) (se_op so_mod (se_op so_div (se_op so_mod (se_op so_mulV (se_op so_ix se_var se_int) (se_op so_ix se_var se_int)) se_int) se_int) se_var)
def T__law_amount : TS :=
    tSeq (tAsg (tLst (tCons (tC (.int 0)) (tCons (tC (.int 1)) (tCons (tC (.int 1)) (tCons (tC (.int 2)) (tCons (tC (.int 2)) (tCons (tC (.int 3)) tNil))))))) (gName 2))
    (tSeq (tIfS (tB (tVar 1)) (tAsg (tOp (rAddU K) (tVar 2) (tLst (tCons (tOp oPow (tC (.int 10)) (tC (.int 15))) (tCons (tOp oSub (tOp oPow (tC (.int 10)) (tC (.int 15))) (tC (.int 1))) (tCons (tOp oPow (tC (.int 10)) (tC (.int 12))) (tCons (tC (.int 7)) (tCons (tOp (rAddU K) (tC (.int 1)) (tCall (spW F__law_draw) [] E0 (tCons (tVar 0) (tCons (tOp oPow (tC (.int 10)) (tC (.int 15))) tNil)))) (tCons (tCall (spW F__law_draw) [] E0 (tCons (tVar 0) (tCons (tC (.int 1000)) tNil))) tNil)))))))) (gName 2)) tNext)
    (tRet (tOp (rIx K) (tVar 2) (tCall (spW F__law_draw) [] E0 (tCons (tVar 0) (tCons (tCB (rLenQ K) (tCons (tVar 2) tNil)) tNil))))))
theorem ss__law_amount : SS T__law_amount X__law_amount := by
  unfold X__law_amount T__law_amount
  exact ss_seq (ss_asg (sg_name (by decide)) (sw_M (SEF.se (sef_lst (sa_cons se_int (sa_cons se_int (sa_cons se_int (sa_cons se_int (sa_cons se_int (sa_cons se_int sa_nil))))))))))
    (ss_seq (ss_if (swt_M (st_B se_var)) (ss_asg (sg_name (by decide)) (sw_op so_add (sw_M se_var) (sw_lst (swa_cons (sw_M (se_op so_pow se_int se_int)) (swa_cons (sw_M (se_op so_sub (se_op so_pow se_int se_int) se_int)) (swa_cons (sw_M (se_op so_pow se_int se_int)) (swa_cons (sw_M se_int) (swa_cons (sw_op so_add (sw_M se_int) (sw_callK (swa_cons (sw_M (se_op so_pow se_int se_int)) swa_nil))) (swa_cons (sw_callK (swa_cons (sw_M se_int) swa_nil)) swa_nil))))))))) ss_next)
    (ss_ret (sw_op so_ix (sw_M se_var) (sw_callK (swa_cons (sw_M (se_cb sc_len (sa_cons se_var sa_nil))) swa_nil)))))
theorem ss_X__law_order_c_b1 : SS (tDrop (tBM K "list" rAppend (tVar 3) (tCons (tBM K "list" rPopAt (tVar 2) (tCons (tCall (spW F__law_draw) [] E0 (tCons (tVar 0) (tCons (tCB (rLenQ K) (tCons (tVar 2) tNil)) tNil))) tNil)) tNil))) X__law_order_c_b1 := by
  unfold X__law_order_c_b1
  exact ss_app (sw_pop (sw_callK (swa_cons (sw_V (se_cb sc_len (sa_cons se_var sa_nil))) swa_nil)))
def T__law_order_c : TS :=
    tSeq (tAsg (tCB (rListQ K) (tCons (tVar 1) tNil)) (gName 2))
    (tSeq (tAsg (tLst tNil) (gName 3))
    (tSeq (tFor (iRng1 (tCons (tCB (rLenQ K) (tCons (tVar 1) tNil)) tNil)) (gName 4) (tDrop (tBM K "list" rAppend (tVar 3) (tCons (tBM K "list" rPopAt (tVar 2) (tCons (tCall (spW F__law_draw) [] E0 (tCons (tVar 0) (tCons (tCB (rLenQ K) (tCons (tVar 2) tNil)) tNil))) tNil)) tNil))))
    (tRet (tCB (rTupF K) (tCons (tVar 3) tNil)))))
theorem ss__law_order_c : SS T__law_order_c X__law_order_c := by
  unfold X__law_order_c T__law_order_c
  exact ss_seq (ss_own (by decide) (swo_M (sef_list se_var)))
    (ss_seq (ss_own (by decide) (swo_lst swc_nil))
    (ss_seq (ss_for (swi_rng (swa_cons (sw_M (se_cb sc_len (sa_cons se_var sa_nil))) swa_nil)) (sg_name (by decide)) ss_X__law_order_c_b1)
    (ss_fz (ss_fz (ss_ret (sw_M (se_cb sc_tup (sa_cons se_var sa_nil))))))))
theorem ss_X__law_fair_b1 : SS (tDrop (tBM K "list" rAppend (tVar 5) (tCons (tTupF (tCons (tCall (spW F__law_draw) [] E0 (tCons (tVar 0) (tCons (tOp (rIx K) (tVar 4) (tC (.int 0))) tNil))) (tCons (tCall (spW F__law_draw) [] E0 (tCons (tVar 0) (tCons (tOp (rIx K) (tVar 4) (tC (.int 1))) tNil))) (tCons (tCall (spW F__law_amount) [] E0 (tCons (tVar 0) (tCons (tVar 3) tNil))) tNil)))) tNil))) X__law_fair_b1 := by
  unfold X__law_fair_b1
  exact ss_app (sw_tup (swa_cons (sw_callK (swa_cons (sw_M (se_op so_ix se_var se_int)) swa_nil)) (swa_cons (sw_callK (swa_cons (sw_M (se_op so_ix se_var se_int)) swa_nil)) (swa_cons (sw_callK (swa_cons (sw_M se_var) swa_nil)) swa_nil))))
theorem ss_X__law_fair_b2 : SS (tSeq (tAsg (tLc (iRng1 (tCons (tCB (rLenQ K) (tCons (tVar 5) tNil)) tNil)) (gName 6) (tTest (tOp (rEqX K) (tOp (rIx K) (tOp (rIx K) (tVar 5) (tVar 6)) (tVar 8)) (tVar 10))) (tVar 6) [6]) (gName 11))
    (tDrop (tBM K "list" rAppend (tVar 9) (tCons (tTupF (tCons (tCall (spW F__law_amount) [] E0 (tCons (tVar 0) (tCons (tVar 3) tNil))) (tCons (tCall (spW F__law_order_c) [] E0 (tCons (tVar 0) (tCons (tVar 11) tNil))) tNil))) tNil)))) X__law_fair_b2 := by
  unfold X__law_fair_b2
  exact ss_seq (ss_asg (sg_name (by decide)) (sw_M (SEF.se (sef_lc (si_rng (sa_cons (se_cb sc_len (sa_cons se_var sa_nil)) sa_nil)) sgv_name (by decide) (st_test (se_op so_eq (se_op so_ix (se_op so_ix se_var se_var) se_var) se_var)) se_var))))
    (ss_app (sw_tup (swa_cons (sw_callK (swa_cons (sw_M se_var) swa_nil)) (swa_cons (sw_callK (swa_cons (sw_M se_var) swa_nil)) swa_nil))))
theorem ss_X__law_fair_b3 : SS (tSeq (tAsg (tLst tNil) (gName 9))
    (tSeq (tFor (iRng1 (tCons (tOp (rIx K) (tVar 4) (tVar 8)) tNil)) (gName 10) (tSeq (tAsg (tLc (iRng1 (tCons (tCB (rLenQ K) (tCons (tVar 5) tNil)) tNil)) (gName 6) (tTest (tOp (rEqX K) (tOp (rIx K) (tOp (rIx K) (tVar 5) (tVar 6)) (tVar 8)) (tVar 10))) (tVar 6) [6]) (gName 11))
    (tDrop (tBM K "list" rAppend (tVar 9) (tCons (tTupF (tCons (tCall (spW F__law_amount) [] E0 (tCons (tVar 0) (tCons (tVar 3) tNil))) (tCons (tCall (spW F__law_order_c) [] E0 (tCons (tVar 0) (tCons (tVar 11) tNil))) tNil))) tNil)))))
    (tDrop (tBM K "list" rAppend (tVar 7) (tCons (tCB (rTupF K) (tCons (tVar 9) tNil)) tNil))))) X__law_fair_b3 := by
  unfold X__law_fair_b3
  exact ss_seq (ss_own (by decide) (swo_lst swc_nil))
    (ss_seq (ss_for (swi_rng (swa_cons (sw_M (se_op so_ix se_var se_var)) swa_nil)) (sg_name (by decide)) ss_X__law_fair_b2)
    (ss_fz (ss_app (sw_M (se_cb sc_tup (sa_cons se_var sa_nil))))))
def T__law_fair : TS :=
    tSeq (tAsg (tTupF (tCons (tOp (rAddU K) (tC (.int 1)) (tCall (spW F__law_draw) [] E0 (tCons (tVar 0) (tCons (tVar 1) tNil)))) (tCons (tOp (rAddU K) (tC (.int 1)) (tCall (spW F__law_draw) [] E0 (tCons (tVar 0) (tCons (tVar 1) tNil)))) tNil))) (gName 4))
    (tSeq (tAsg (tLst tNil) (gName 5))
    (tSeq (tFor (iRng1 (tCons (tCall (spW F__law_draw) [] E0 (tCons (tVar 0) (tCons (tOp (rAddU K) (tVar 2) (tC (.int 1))) tNil))) tNil)) (gName 6) (tDrop (tBM K "list" rAppend (tVar 5) (tCons (tTupF (tCons (tCall (spW F__law_draw) [] E0 (tCons (tVar 0) (tCons (tOp (rIx K) (tVar 4) (tC (.int 0))) tNil))) (tCons (tCall (spW F__law_draw) [] E0 (tCons (tVar 0) (tCons (tOp (rIx K) (tVar 4) (tC (.int 1))) tNil))) (tCons (tCall (spW F__law_amount) [] E0 (tCons (tVar 0) (tCons (tVar 3) tNil))) tNil)))) tNil))))
    (tSeq (tAsg (tLst tNil) (gName 7))
    (tSeq (tFor (iSeq K (tTupF (tCons (tC (.int 0)) (tCons (tC (.int 1)) tNil)))) (gName 8) (tSeq (tAsg (tLst tNil) (gName 9))
    (tSeq (tFor (iRng1 (tCons (tOp (rIx K) (tVar 4) (tVar 8)) tNil)) (gName 10) (tSeq (tAsg (tLc (iRng1 (tCons (tCB (rLenQ K) (tCons (tVar 5) tNil)) tNil)) (gName 6) (tTest (tOp (rEqX K) (tOp (rIx K) (tOp (rIx K) (tVar 5) (tVar 6)) (tVar 8)) (tVar 10))) (tVar 6) [6]) (gName 11))
    (tDrop (tBM K "list" rAppend (tVar 9) (tCons (tTupF (tCons (tCall (spW F__law_amount) [] E0 (tCons (tVar 0) (tCons (tVar 3) tNil))) (tCons (tCall (spW F__law_order_c) [] E0 (tCons (tVar 0) (tCons (tVar 11) tNil))) tNil))) tNil)))))
    (tDrop (tBM K "list" rAppend (tVar 7) (tCons (tCB (rTupF K) (tCons (tVar 9) tNil)) tNil))))))
    (tRet (tTupF (tCons (tCB (rTupF K) (tCons (tVar 5) tNil)) (tCons (tOp (rIx K) (tVar 7) (tC (.int 0))) (tCons (tOp (rIx K) (tVar 7) (tC (.int 1))) tNil)))))))))
theorem ss__law_fair : SS T__law_fair X__law_fair := by
  unfold X__law_fair T__law_fair
  exact ss_seq (ss_asg (sg_name (by decide)) (sw_tup (swa_cons (sw_op so_add (sw_M se_int) (sw_callK (swa_cons (sw_M se_var) swa_nil))) (swa_cons (sw_op so_add (sw_M se_int) (sw_callK (swa_cons (sw_M se_var) swa_nil))) swa_nil))))
    (ss_seq (ss_own (by decide) (swo_lst swc_nil))
    (ss_seq (ss_for (swi_rng (swa_cons (sw_callK (swa_cons (sw_M (se_op so_add se_var se_int)) swa_nil)) swa_nil)) (sg_name (by decide)) ss_X__law_fair_b1)
    (ss_fz (ss_seq (ss_own (by decide) (swo_lst swc_nil))
    (ss_seq (ss_for (swi_seq (sw_M (se_tup (sa_cons se_int (sa_cons se_int sa_nil))))) (sg_name (by decide)) ss_X__law_fair_b3)
    (ss_fz (ss_ret (sw_M (se_tup (sa_cons (se_cb sc_tup (sa_cons se_var sa_nil)) (sa_cons (se_op so_ix se_var se_int) (sa_cons (se_op so_ix se_var se_int) sa_nil))))))))))))
def T__law_same_c (self : List PD → Option PD) : TS :=
    tSeq (tIfS (tB (tCB (rIsi K) (tCons (tVar 1) (tCons (tC (.ty "tuple")) tNil)))) (tSeq (tIfS (tOr (tNot (tB (tCB (rIsi K) (tCons (tVar 0) (tCons (tC (.ty "tuple")) tNil))))) (tTest (tOp (rNeD K) (tCB (rLenQ K) (tCons (tVar 0) tNil)) (tCB (rLenQ K) (tCons (tVar 1) tNil))))) (tRet (tC (.bl false))) tNext)
    (tRet (tOp (rEqX K) (tLc (iRng1 (tCons (tCB (rLenQ K) (tCons (tVar 1) tNil)) tNil)) (gName 2) (tNot (tB (tCall (spF self) [] E0 (tCons (tOp (rIx K) (tVar 0) (tVar 2)) (tCons (tOp (rIx K) (tVar 1) (tVar 2)) tNil))))) (tVar 2) [2]) (tLst tNil)))) tNext)
    (tSeq (tIfS (tB (tCB (rIsi K) (tCons (tVar 1) (tCons (tC (.ty "bool")) tNil)))) (tRet (tAndV (tCB (rIsi K) (tCons (tVar 0) (tCons (tC (.ty "bool")) tNil))) (tOp (rEqX K) (tVar 0) (tVar 1)))) tNext)
    (tRet (tAndV (tCB (rIsi K) (tCons (tVar 0) (tCons (tC (.ty "int")) tNil))) (tAndV (tNotV (tCB (rIsi K) (tCons (tVar 0) (tCons (tC (.ty "bool")) tNil)))) (tOp (rEqX K) (tVar 0) (tVar 1))))))
theorem ss__law_same_c (self : List PD → Option PD) : SS (T__law_same_c self) (X__law_same_c self) := by
  unfold X__law_same_c T__law_same_c
  exact ss_seq (ss_if (swt_M (st_B (se_isi .tuple rfl se_var))) (ss_seq (ss_if (swt_M (st_or (st_not (st_B (se_isi .tuple rfl se_var))) (st_test (se_op so_ne (se_cb sc_len (sa_cons se_var sa_nil)) (se_cb sc_len (sa_cons se_var sa_nil)))))) (ss_ret (sw_M se_bl)) ss_next)
    (ss_ret (sw_M (se_op so_eq (SEF.se (sef_lc (si_rng (sa_cons (se_cb sc_len (sa_cons se_var sa_nil)) sa_nil)) sgv_name (by decide) (st_not (st_B (se_call (sa_cons (se_op so_ix se_var se_var) (sa_cons (se_op so_ix se_var se_var) sa_nil))))) se_var)) (SEF.se (sef_lst sa_nil)))))) ss_next)
    (ss_seq (ss_if (swt_M (st_B (se_isi .bool rfl se_var))) (ss_ret (sw_M (se_and (se_isi .bool rfl se_var) (se_op so_eq se_var se_var)))) ss_next)
    (ss_ret (sw_M (se_and (se_isi .int rfl se_var) (se_and (se_not (se_isi .bool rfl se_var)) (se_op so_eq se_var se_var))))))
theorem ss_X__law_sharing_b1 : SS (tSeq (tAsg (tOp (rIx K) (tVar 2) (tVar 7)) (gTU K 3 (gCons (gName 8) (gCons (gName 9) (gCons (gName 10) gNil)))))
    (tSeq (tAsg (tCB (rMinV K) (tCons (tVar 10) (tCons (tOp (rIx K) (tOp (rIx K) (tVar 5) (tC (.int 0))) (tVar 8)) (tCons (tOp (rIx K) (tOp (rIx K) (tVar 5) (tC (.int 1))) (tVar 9)) tNil)))) (gName 11))
    (tSeq (tAsg (tOp (rIx K) (tLst (tCons (tC (.int 0)) (tCons (tVar 11) (tCons (tVar 11) (tCons (tCall (spW F__law_draw) [] E0 (tCons (tVar 0) (tCons (tOp (rAddU K) (tVar 11) (tC (.int 1))) tNil))) tNil))))) (tCall (spW F__law_draw) [] E0 (tCons (tVar 0) (tCons (tC (.int 4)) tNil)))) (gName 12))
    (tSeq (tAsg (tVar 12) (gSub (tVar 6) (tVar 7) rSetL))
    (tSeq (tAsg (tOp oSub (tOp (rIx K) (tOp (rIx K) (tVar 5) (tC (.int 0))) (tVar 8)) (tVar 12)) (gSub (tOp (rIx K) (tVar 5) (tC (.int 0))) (tVar 8) rSetL))
    (tAsg (tOp oSub (tOp (rIx K) (tOp (rIx K) (tVar 5) (tC (.int 1))) (tVar 9)) (tVar 12)) (gSub (tOp (rIx K) (tVar 5) (tC (.int 1))) (tVar 9) rSetL))))))) X__law_sharing_b1 := by
  unfold X__law_sharing_b1
  exact ss_seq (ss_asg (sg_tup (sg_cons (sg_name (by decide)) (sg_cons (sg_name (by decide)) (sg_cons (sg_name (by decide)) sg_nil)))) (sw_M (se_op so_ix se_var se_var)))
    (ss_seq (ss_asg (sg_name (by decide)) (sw_V (se_cb sc_minV (sa_cons se_var (sa_cons (se_op so_ix (se_op so_ix se_var se_int) se_var) (sa_cons (se_op so_ix (se_op so_ix se_var se_int) se_var) sa_nil))))))
    (ss_seq (ss_asg (sg_name (by decide)) (sw_op so_ix (sw_lst (swa_cons (sw_M se_int) (swa_cons (sw_M se_var) (swa_cons (sw_M se_var) (swa_cons (sw_callK (swa_cons (sw_M (se_op so_add se_var se_int)) swa_nil)) swa_nil))))) (sw_callK (swa_cons (sw_M se_int) swa_nil))))
    (ss_seq (ss_set se_var (sw_M se_var))
    (ss_seq (ss_setS se_int se_var (sw_V (se_op so_sub (se_op so_ix (se_op so_ix se_var se_int) se_var) se_var)))
    (ss_setS se_int se_var (sw_V (se_op so_sub (se_op so_ix (se_op so_ix se_var se_int) se_var) se_var)))))))
def T__law_sharing : TS :=
    tSeq (tAsg (tVar 1) (gTU K 3 (gCons (gName 2) (gCons (gName 3) (gCons (gName 4) gNil)))))
    (tSeq (tAsg (tLst (tCons (tLc (iSeq K (tVar 3)) (gName 13) tYes (tOp (rIx K) (tVar 13) (tC (.int 0))) [13]) (tCons (tLc (iSeq K (tVar 4)) (gName 13) tYes (tOp (rIx K) (tVar 13) (tC (.int 0))) [13]) tNil))) (gName 5))
    (tSeq (tAsg (tOp (rMulV K) (tLst (tCons (tC (.int 0)) tNil)) (tCB (rLenQ K) (tCons (tVar 2) tNil))) (gName 6))
    (tSeq (tFor (iSeq K (tCall (spW F__law_order_c) [] E0 (tCons (tVar 0) (tCons (tLstRg (tRg1 (tCB (rLenQ K) (tCons (tVar 2) tNil)))) tNil)))) (gName 7) (tSeq (tAsg (tOp (rIx K) (tVar 2) (tVar 7)) (gTU K 3 (gCons (gName 8) (gCons (gName 9) (gCons (gName 10) gNil)))))
    (tSeq (tAsg (tCB (rMinV K) (tCons (tVar 10) (tCons (tOp (rIx K) (tOp (rIx K) (tVar 5) (tC (.int 0))) (tVar 8)) (tCons (tOp (rIx K) (tOp (rIx K) (tVar 5) (tC (.int 1))) (tVar 9)) tNil)))) (gName 11))
    (tSeq (tAsg (tOp (rIx K) (tLst (tCons (tC (.int 0)) (tCons (tVar 11) (tCons (tVar 11) (tCons (tCall (spW F__law_draw) [] E0 (tCons (tVar 0) (tCons (tOp (rAddU K) (tVar 11) (tC (.int 1))) tNil))) tNil))))) (tCall (spW F__law_draw) [] E0 (tCons (tVar 0) (tCons (tC (.int 4)) tNil)))) (gName 12))
    (tSeq (tAsg (tVar 12) (gSub (tVar 6) (tVar 7) rSetL))
    (tSeq (tAsg (tOp oSub (tOp (rIx K) (tOp (rIx K) (tVar 5) (tC (.int 0))) (tVar 8)) (tVar 12)) (gSub (tOp (rIx K) (tVar 5) (tC (.int 0))) (tVar 8) rSetL))
    (tAsg (tOp oSub (tOp (rIx K) (tOp (rIx K) (tVar 5) (tC (.int 1))) (tVar 9)) (tVar 12)) (gSub (tOp (rIx K) (tVar 5) (tC (.int 1))) (tVar 9) rSetL))))))))
    (tRet (tCB (rTupF K) (tCons (tVar 6) tNil))))))
theorem ss__law_sharing : SS T__law_sharing X__law_sharing := by
  unfold X__law_sharing T__law_sharing
  exact ss_seq (ss_asg (sg_tup (sg_cons (sg_name (by decide)) (sg_cons (sg_name (by decide)) (sg_cons (sg_name (by decide)) sg_nil)))) (sw_M se_var))
    (ss_seq (ss_own (by decide) (swo_lst (swc_sub (swo_M (sef_lc (si_seq se_var) sgv_name (by decide) st_yes (se_op so_ix se_var se_int))) (swc_sub (swo_M (sef_lc (si_seq se_var) sgv_name (by decide) st_yes (se_op so_ix se_var se_int))) swc_nil))))
    (ss_seq (ss_own (by decide) (swo_M (sef_op sof_repV (SEF.se (sef_lst (sa_cons se_int sa_nil))) (se_cb sc_len (sa_cons se_var sa_nil)))))
    (ss_seq (ss_for (swi_seq (sw_callK (swa_cons (sw_M (SEF.se (sef_rgL (se_cb sc_len (sa_cons se_var sa_nil))))) swa_nil))) (sg_name (by decide)) ss_X__law_sharing_b1)
    (ss_fz (ss_fz (ss_ret (sw_M (se_cb sc_tup (sa_cons se_var sa_nil)))))))))
def T_borne : TS :=
    tRet (tCB (rSum K) (tCons (tLc (iSeq K (tVar 1)) (gName 2) tYes (tOp (rIx K) (tVar 0) (tVar 2)) [2]) tNil))
theorem ss_borne : SS T_borne X_borne := by
  unfold X_borne T_borne
  exact ss_ret (sw_M (se_cb sc_sum (sa_cons (SEF.se (sef_lc (si_seq se_var) sgv_name (by decide) st_yes (se_op so_ix se_var se_var))) sa_nil)))
def T_side_in_all : TS :=
    tRet (tCB (rTupF K) (tCons (tLc (iSeq K (tVar 0)) (gTU K 2 (gCons (gName 2) (gCons (gName 3) gNil))) tYes (tCall (spF F_borne) [] E0 (tCons (tVar 1) (tCons (tVar 3) tNil))) [2, 3]) tNil))
theorem ss_side_in_all : SS T_side_in_all X_side_in_all := by
  unfold X_side_in_all T_side_in_all
  exact ss_ret (sw_M (se_cb sc_tup (sa_cons (SEF.se (sef_lc (si_seq se_var) (sgv_tup (sgv_cons sgv_name (sgv_cons sgv_name sgv_nil))) (by decide) st_yes (se_call (sa_cons se_var (sa_cons se_var sa_nil))))) sa_nil)))
def T_in_all : TS :=
    tRet (tTupF (tCons (tCall (spF F_side_in_all) [] E0 (tCons (tOp (rIx K) (tVar 0) (tC (.int 1))) (tCons (tVar 1) tNil))) (tCons (tCall (spF F_side_in_all) [] E0 (tCons (tOp (rIx K) (tVar 0) (tC (.int 2))) (tCons (tVar 1) tNil))) tNil)))
theorem ss_in_all : SS T_in_all X_in_all := by
  unfold X_in_all T_in_all
  exact ss_ret (sw_M (se_tup (sa_cons (se_call (sa_cons (se_op so_ix se_var se_int) (sa_cons se_var sa_nil))) (sa_cons (se_call (sa_cons (se_op so_ix se_var se_int) (sa_cons se_var sa_nil))) sa_nil))))
def T_is_number : TS :=
    tRet (tAndV (tCB (rIsi K) (tCons (tVar 0) (tCons (tC (.ty "int")) tNil))) (tNotV (tCB (rIsi K) (tCons (tVar 0) (tCons (tC (.ty "bool")) tNil)))))
theorem ss_is_number : SS T_is_number X_is_number := by
  unfold X_is_number T_is_number
  exact ss_ret (sw_M (se_and (se_isi .int rfl se_var) (se_not (se_isi .bool rfl se_var))))
def T_is_number_to : TS :=
    tRet (tAndV (tCall (spF F_is_number) [] E0 (tCons (tVar 0) tNil)) (tChain oLe oLe (tC (.int 0)) (tVar 0) (tVar 1)))
theorem ss_is_number_to : SS T_is_number_to X_is_number_to := by
  unfold X_is_number_to T_is_number_to
  exact ss_ret (sw_M (se_and (se_call (sa_cons se_var sa_nil)) (se_chain so_le so_le se_int se_var se_var)))
def T_is_order : TS :=
    tRet (tAndV (tCB (rIsi K) (tCons (tVar 0) (tCons (tC (.ty "tuple")) tNil))) (tAndV (tCB (rAll K) (tCons (tLc (iSeq K (tVar 0)) (gName 2) tYes (tCall (spF F_is_number) [] E0 (tCons (tVar 2) tNil)) [2]) tNil)) (tOp (rEqX K) (tCB (rSortedU K) (tCons (tVar 0) tNil)) (tVar 1))))
theorem ss_is_order : SS T_is_order X_is_order := by
  unfold X_is_order T_is_order
  exact ss_ret (sw_M (se_and (se_isi .tuple rfl se_var) (se_and (se_cb sc_all (sa_cons (SEF.se (sef_lc (si_seq se_var) sgv_name (by decide) st_yes (se_call (sa_cons se_var sa_nil)))) sa_nil)) (se_op so_eq (se_cb sc_sort (sa_cons se_var sa_nil)) se_var))))
def T_is_tuple_of : TS :=
    tRet (tAndV (tCB (rIsi K) (tCons (tVar 0) (tCons (tC (.ty "tuple")) tNil))) (tChain oLe oLe (tVar 1) (tCB (rLenQ K) (tCons (tVar 0) tNil)) (tVar 2)))
theorem ss_is_tuple_of : SS T_is_tuple_of X_is_tuple_of := by
  unfold X_is_tuple_of T_is_tuple_of
  exact ss_ret (sw_M (se_and (se_isi .tuple rfl se_var) (se_chain so_le so_le se_var (se_cb sc_len (sa_cons se_var sa_nil)) se_var)))
def T_is_seat : TS :=
    tRet (tAndV (tCall (spF F_is_tuple_of) [] E0 (tCons (tVar 0) (tCons (tC (.int 2)) (tCons (tC (.int 2)) tNil)))) (tAndV (tCall (spF F_is_number_to) [] E0 (tCons (tOp (rIx K) (tVar 0) (tC (.int 0))) (tCons (tC (.int 1000000000000000)) tNil))) (tCall (spF F_is_order) [] E0 (tCons (tOp (rIx K) (tVar 0) (tC (.int 1))) (tCons (tVar 1) tNil)))))
theorem ss_is_seat : SS T_is_seat X_is_seat := by
  unfold X_is_seat T_is_seat
  exact ss_ret (sw_M (se_and (se_call (sa_cons se_var (sa_cons se_int (sa_cons se_int sa_nil)))) (se_and (se_call (sa_cons (se_op so_ix se_var se_int) (sa_cons se_int sa_nil))) (se_call (sa_cons (se_op so_ix se_var se_int) (sa_cons se_var sa_nil))))))
def T_are_seats : TS :=
    tRet (tCB (rAll K) (tCons (tLc (iEnumU K (tCons (tVar 0) tNil)) (gTU K 2 (gCons (gName 2) (gCons (gName 3) gNil))) tYes (tCall (spF F_is_seat) [] E0 (tCons (tVar 3) (tCons (tLc (iEnumU K (tCons (tVar 1) tNil)) (gTU K 2 (gCons (gName 4) (gCons (gName 5) gNil))) (tTest (tOp (rEqX K) (tVar 5) (tVar 2))) (tVar 4) [4, 5]) tNil))) [2, 3]) tNil))
theorem ss_are_seats : SS T_are_seats X_are_seats := by
  unfold X_are_seats T_are_seats
  exact ss_ret (sw_M (se_cb sc_all (sa_cons (SEF.se (sef_lc (si_enum (sa_cons se_var sa_nil)) (sgv_tup (sgv_cons sgv_name (sgv_cons sgv_name sgv_nil))) (by decide) st_yes (se_call (sa_cons se_var (sa_cons (SEF.se (sef_lc (si_enum (sa_cons se_var sa_nil)) (sgv_tup (sgv_cons sgv_name (sgv_cons sgv_name sgv_nil))) (by decide) (st_test (se_op so_eq se_var se_var)) se_var)) sa_nil))))) sa_nil)))
def T_is_tie : TS :=
    tSeq (tIfS (tNot (tB (tCall (spF F_is_tuple_of) [] E0 (tCons (tVar 0) (tCons (tC (.int 3)) (tCons (tC (.int 3)) tNil)))))) (tRet (tC (.bl false))) tNext)
    (tSeq (tAsg (tVar 0) (gTU K 3 (gCons (gName 3) (gCons (gName 4) (gCons (gName 5) gNil)))))
    (tRet (tAndV (tCall (spF F_is_number_to) [] E0 (tCons (tVar 3) (tCons (tOp oSub (tVar 1) (tC (.int 1))) tNil))) (tAndV (tCall (spF F_is_number_to) [] E0 (tCons (tVar 4) (tCons (tOp oSub (tVar 2) (tC (.int 1))) tNil))) (tCall (spF F_is_number_to) [] E0 (tCons (tVar 5) (tCons (tC (.int 1000000000000000)) tNil)))))))
theorem ss_is_tie : SS T_is_tie X_is_tie := by
  unfold X_is_tie T_is_tie
  exact ss_seq (ss_if (swt_M (st_not (st_B (se_call (sa_cons se_var (sa_cons se_int (sa_cons se_int sa_nil))))))) (ss_ret (sw_M se_bl)) ss_next)
    (ss_seq (ss_asg (sg_tup (sg_cons (sg_name (by decide)) (sg_cons (sg_name (by decide)) (sg_cons (sg_name (by decide)) sg_nil)))) (sw_M se_var))
    (ss_ret (sw_M (se_and (se_call (sa_cons se_var (sa_cons (se_op so_sub se_var se_int) sa_nil))) (se_and (se_call (sa_cons se_var (sa_cons (se_op so_sub se_var se_int) sa_nil))) (se_call (sa_cons se_var (sa_cons se_int sa_nil))))))))
def T_is_fair : TS :=
    tSeq (tIfS (tNot (tB (tCall (spF F_is_tuple_of) [] E0 (tCons (tVar 0) (tCons (tC (.int 3)) (tCons (tC (.int 3)) tNil)))))) (tRet (tC (.bl false))) tNext)
    (tSeq (tAsg (tVar 0) (gTU K 3 (gCons (gName 1) (gCons (gName 2) (gCons (gName 3) gNil)))))
    (tSeq (tIfS (tOr (tNot (tB (tCall (spF F_is_tuple_of) [] E0 (tCons (tVar 1) (tCons (tC (.int 0)) (tCons (tC (.int 36)) tNil)))))) (tOr (tNot (tB (tCall (spF F_is_tuple_of) [] E0 (tCons (tVar 2) (tCons (tC (.int 1)) (tCons (tC (.int 28)) tNil)))))) (tNot (tB (tCall (spF F_is_tuple_of) [] E0 (tCons (tVar 3) (tCons (tC (.int 1)) (tCons (tC (.int 28)) tNil)))))))) (tRet (tC (.bl false))) tNext)
    (tSeq (tIfS (tNot (tB (tCB (rAll K) (tCons (tLc (iSeq K (tVar 1)) (gName 4) tYes (tCall (spF F_is_tie) [] E0 (tCons (tVar 4) (tCons (tCB (rLenQ K) (tCons (tVar 2) tNil)) (tCons (tCB (rLenQ K) (tCons (tVar 3) tNil)) tNil)))) [4]) tNil)))) (tRet (tC (.bl false))) tNext)
    (tRet (tAndV (tCall (spF F_are_seats) [] E0 (tCons (tVar 2) (tCons (tLc (iSeq K (tVar 1)) (gName 4) tYes (tOp (rIx K) (tVar 4) (tC (.int 0))) [4]) tNil))) (tCall (spF F_are_seats) [] E0 (tCons (tVar 3) (tCons (tLc (iSeq K (tVar 1)) (gName 4) tYes (tOp (rIx K) (tVar 4) (tC (.int 1))) [4]) tNil))))))))
theorem ss_is_fair : SS T_is_fair X_is_fair := by
  unfold X_is_fair T_is_fair
  exact ss_seq (ss_if (swt_M (st_not (st_B (se_call (sa_cons se_var (sa_cons se_int (sa_cons se_int sa_nil))))))) (ss_ret (sw_M se_bl)) ss_next)
    (ss_seq (ss_asg (sg_tup (sg_cons (sg_name (by decide)) (sg_cons (sg_name (by decide)) (sg_cons (sg_name (by decide)) sg_nil)))) (sw_M se_var))
    (ss_seq (ss_if (swt_M (st_or (st_not (st_B (se_call (sa_cons se_var (sa_cons se_int (sa_cons se_int sa_nil)))))) (st_or (st_not (st_B (se_call (sa_cons se_var (sa_cons se_int (sa_cons se_int sa_nil)))))) (st_not (st_B (se_call (sa_cons se_var (sa_cons se_int (sa_cons se_int sa_nil))))))))) (ss_ret (sw_M se_bl)) ss_next)
    (ss_seq (ss_if (swt_M (st_not (st_B (se_cb sc_all (sa_cons (SEF.se (sef_lc (si_seq se_var) sgv_name (by decide) st_yes (se_call (sa_cons se_var (sa_cons (se_cb sc_len (sa_cons se_var sa_nil)) (sa_cons (se_cb sc_len (sa_cons se_var sa_nil)) sa_nil)))))) sa_nil))))) (ss_ret (sw_M se_bl)) ss_next)
    (ss_ret (sw_M (se_and (se_call (sa_cons se_var (sa_cons (SEF.se (sef_lc (si_seq se_var) sgv_name (by decide) st_yes (se_op so_ix se_var se_int))) sa_nil))) (se_call (sa_cons se_var (sa_cons (SEF.se (sef_lc (si_seq se_var) sgv_name (by decide) st_yes (se_op so_ix se_var se_int))) sa_nil)))))))))
def T_spare : TS :=
    tSeq (tAsg (tVar 0) (gTU K 2 (gCons (gName 2) (gCons (gName 3) gNil))))
    (tRet (tOp oSub (tVar 2) (tCall (spF F_borne) [] E0 (tCons (tVar 1) (tCons (tVar 3) tNil)))))
theorem ss_spare : SS T_spare X_spare := by
  unfold X_spare T_spare
  exact ss_seq (ss_asg (sg_tup (sg_cons (sg_name (by decide)) (sg_cons (sg_name (by decide)) sg_nil))) (sw_M se_var))
    (ss_ret (sw_M (se_op so_sub se_var (se_call (sa_cons se_var (sa_cons se_var sa_nil))))))
def T_is_sharing : TS :=
    tSeq (tAsg (tVar 0) (gTU K 3 (gCons (gName 2) (gCons (gName 3) (gCons (gName 4) gNil)))))
    (tSeq (tIfS (tNot (tB (tCall (spF F_is_tuple_of) [] E0 (tCons (tVar 1) (tCons (tCB (rLenQ K) (tCons (tVar 2) tNil)) (tCons (tCB (rLenQ K) (tCons (tVar 2) tNil)) tNil)))))) (tRet (tC (.bl false))) tNext)
    (tSeq (tIfS (tNot (tB (tCB (rAll K) (tCons (tLc (RZ.iZipA K (tCons (tVar 1) (tCons (tVar 2) tNil))) (gTU K 2 (gCons (gName 5) (gCons (gName 6) gNil))) tYes (tCall (spF F_is_number_to) [] E0 (tCons (tVar 5) (tCons (tOp (rIx K) (tVar 6) (tC (.int 2))) tNil))) [5, 6]) tNil)))) (tRet (tC (.bl false))) tNext)
    (tRet (tCB (rAll K) (tCons (tLc (iSeq K (tOp (rAddU K) (tVar 3) (tVar 4))) (gName 7) tYes (tOp oGe (tCall (spF F_spare) [] E0 (tCons (tVar 7) (tCons (tVar 1) tNil))) (tC (.int 0))) [7]) tNil)))))
theorem ss_is_sharing : SS T_is_sharing X_is_sharing := by
  unfold X_is_sharing T_is_sharing
  exact ss_seq (ss_asg (sg_tup (sg_cons (sg_name (by decide)) (sg_cons (sg_name (by decide)) (sg_cons (sg_name (by decide)) sg_nil)))) (sw_M se_var))
    (ss_seq (ss_if (swt_M (st_not (st_B (se_call (sa_cons se_var (sa_cons (se_cb sc_len (sa_cons se_var sa_nil)) (sa_cons (se_cb sc_len (sa_cons se_var sa_nil)) sa_nil))))))) (ss_ret (sw_M se_bl)) ss_next)
    (ss_seq (ss_if (swt_M (st_not (st_B (se_cb sc_all (sa_cons (SEF.se (sef_lc (si_zip (sa_cons se_var (sa_cons se_var sa_nil))) (sgv_tup (sgv_cons sgv_name (sgv_cons sgv_name sgv_nil))) (by decide) st_yes (se_call (sa_cons se_var (sa_cons (se_op so_ix se_var se_int) sa_nil))))) sa_nil))))) (ss_ret (sw_M se_bl)) ss_next)
    (ss_ret (sw_M (se_cb sc_all (sa_cons (SEF.se (sef_lc (si_seq (se_op so_add se_var se_var)) sgv_name (by decide) st_yes (se_op so_ge (se_call (sa_cons se_var (sa_cons se_var sa_nil))) se_int))) sa_nil))))))
def T_has_less_liked : TS :=
    tRet (tOp (rGtU K) (tCall (spF F_borne) [] E0 (tCons (tVar 0) (tCons (tSl (rSlU K) (tVar 1) (tPart (tOp (rAddU K) (tIdx K (tVar 1) (tCons (tVar 2) tNil)) (tC (.int 1)))) tNoPart) tNil))) (tC (.int 0)))
theorem ss_has_less_liked : SS T_has_less_liked X_has_less_liked := by
  unfold X_has_less_liked T_has_less_liked
  exact ss_ret (sw_M (se_op so_gtU (se_call (sa_cons se_var (sa_cons (se_sl se_var (sp_some (se_op so_add (se_idx se_var se_var) se_int)) sp_none) sa_nil))) se_int))
def T_would_have : TS :=
    tRet (tOrV (tOp (rGtU K) (tCall (spF F_spare) [] E0 (tCons (tVar 0) (tCons (tVar 1) tNil))) (tC (.int 0))) (tCall (spF F_has_less_liked) [] E0 (tCons (tVar 1) (tCons (tOp (rIx K) (tVar 0) (tC (.int 1))) (tCons (tVar 2) tNil)))))
theorem ss_would_have : SS T_would_have X_would_have := by
  unfold X_would_have T_would_have
  exact ss_ret (sw_M (se_or (se_op so_gtU (se_call (sa_cons se_var (sa_cons se_var sa_nil))) se_int) (se_call (sa_cons se_var (sa_cons (se_op so_ix se_var se_int) (sa_cons se_var sa_nil))))))
def T_loose : TS :=
    tSeq (tAsg (tVar 0) (gTU K 3 (gCons (gName 2) (gCons (gName 3) (gCons (gName 4) gNil)))))
    (tRet (tCB (rTupF K) (tCons (tLc (iEnumU K (tCons (tVar 2) tNil)) (gTU K 2 (gCons (gName 5) (gCons (gTU K 3 (gCons (gName 6) (gCons (gName 7) (gCons (gName 8) gNil)))) gNil))) (tAnd (tTest (tOp oLt (tOp (rIx K) (tVar 1) (tVar 5)) (tVar 8))) (tAnd (tB (tCall (spF F_would_have) [] E0 (tCons (tOp (rIx K) (tVar 3) (tVar 6)) (tCons (tVar 1) (tCons (tVar 5) tNil))))) (tB (tCall (spF F_would_have) [] E0 (tCons (tOp (rIx K) (tVar 4) (tVar 7)) (tCons (tVar 1) (tCons (tVar 5) tNil))))))) (tVar 5) [5, 6, 7, 8]) tNil)))
theorem ss_loose : SS T_loose X_loose := by
  unfold X_loose T_loose
  exact ss_seq (ss_asg (sg_tup (sg_cons (sg_name (by decide)) (sg_cons (sg_name (by decide)) (sg_cons (sg_name (by decide)) sg_nil)))) (sw_M se_var))
    (ss_ret (sw_M (se_cb sc_tup (sa_cons (SEF.se (sef_lc (si_enum (sa_cons se_var sa_nil)) (sgv_tup (sgv_cons sgv_name (sgv_cons (sgv_tup (sgv_cons sgv_name (sgv_cons sgv_name (sgv_cons sgv_name sgv_nil)))) sgv_nil))) (by decide) (st_and (st_test (se_op so_lt (se_op so_ix se_var se_var) se_var)) (st_and (st_B (se_call (sa_cons (se_op so_ix se_var se_var) (sa_cons se_var (sa_cons se_var sa_nil))))) (st_B (se_call (sa_cons (se_op so_ix se_var se_var) (sa_cons se_var (sa_cons se_var sa_nil))))))) se_var)) sa_nil))))
def T_turned_fair : TS :=
    tSeq (tAsg (tVar 0) (gTU K 3 (gCons (gName 1) (gCons (gName 2) (gCons (gName 3) gNil)))))
    (tRet (tTupF (tCons (tCB (rTupF K) (tCons (tLc (iSeq K (tVar 1)) (gTU K 3 (gCons (gName 4) (gCons (gName 5) (gCons (gName 6) gNil)))) tYes (tTupF (tCons (tVar 5) (tCons (tVar 4) (tCons (tVar 6) tNil)))) [4, 5, 6]) tNil)) (tCons (tVar 3) (tCons (tVar 2) tNil)))))
theorem ss_turned_fair : SS T_turned_fair X_turned_fair := by
  unfold X_turned_fair T_turned_fair
  exact ss_seq (ss_asg (sg_tup (sg_cons (sg_name (by decide)) (sg_cons (sg_name (by decide)) (sg_cons (sg_name (by decide)) sg_nil)))) (sw_M se_var))
    (ss_ret (sw_M (se_tup (sa_cons (se_cb sc_tup (sa_cons (SEF.se (sef_lc (si_seq se_var) (sgv_tup (sgv_cons sgv_name (sgv_cons sgv_name (sgv_cons sgv_name sgv_nil)))) (by decide) st_yes (se_tup (sa_cons se_var (sa_cons se_var (sa_cons se_var sa_nil)))))) sa_nil)) (sa_cons se_var (sa_cons se_var sa_nil))))))
theorem ss_X_law_z27_b1 : SS (tSeq (tAsg (tCall (spW F__law_sharing) [] E0 (tCons (tVar 1) (tCons (tVar 3) tNil))) (gName 8))
    (tSeq (tIfS (tOr (tTest (tOp oNotU (tCall (spF F_is_sharing) [] E0 (tCons (tVar 6) (tCons (tVar 8) tNil))) (tC (.bl true)))) (tTest (tOp (rNeD K) (tCall (spF F_in_all) [] E0 (tCons (tVar 6) (tCons (tVar 8) tNil))) (tBack K (tCall (spF F_in_all) [] E0 (tCons (tVar 3) (tCons (tVar 8) tNil))))))) (tRet (tC (.bl false))) tNext)
    (tIfS (tNot (tB (tCall (spF (F__law_same_c 9)) [] E0 (tCons (tCall (spF F_loose) [] E0 (tCons (tVar 6) (tCons (tVar 8) tNil))) (tCons (tCall (spF F_loose) [] E0 (tCons (tVar 3) (tCons (tVar 8) tNil))) tNil))))) (tRet (tC (.bl false))) tNext))) X_law_z27_b1 := by
  unfold X_law_z27_b1
  exact ss_seq (ss_asg (sg_name (by decide)) (sw_callK (swa_cons (sw_M se_var) swa_nil)))
    (ss_seq (ss_if (swt_M (st_or (st_test (se_op so_isntU (se_call (sa_cons se_var (sa_cons se_var sa_nil))) se_bl)) (st_test (se_op so_ne (se_call (sa_cons se_var (sa_cons se_var sa_nil))) (se_back (se_call (sa_cons se_var (sa_cons se_var sa_nil)))))))) (ss_fz (ss_ret (sw_M se_bl))) ss_next)
    (ss_if (swt_M (st_not (st_B (se_call (sa_cons (se_call (sa_cons se_var (sa_cons se_var sa_nil))) (sa_cons (se_call (sa_cons se_var (sa_cons se_var sa_nil))) sa_nil)))))) (ss_fz (ss_ret (sw_M se_bl))) ss_next))
theorem ss_X_law_z27_b2 : SS (tSeq (tAsg (tCall (spW F__law_fair) [] E0 (tCons (tVar 1) (tCons (tC (.int 6)) (tCons (tC (.int 12)) (tCons (tOp (rEqX K) (tCall (spW F__law_draw) [] E0 (tCons (tVar 1) (tCons (tC (.int 2)) tNil))) (tC (.int 0))) tNil))))) (gName 3))
    (tSeq (tAsg (tCB (rRepr K) (tCons (tVar 3) tNil)) (gName 4))
    (tSeq (tAsg (tTupF (tCons (tCB (rTupF K) (tCons (tLc (iSeq K (tOp (rIx K) (tVar 3) (tC (.int 0)))) (gTU K 3 (gCons (gName 9) (gCons (gName 10) (gCons (gName 11) gNil)))) tYes (tTupF (tCons (tVar 10) (tCons (tVar 9) (tCons (tVar 11) tNil)))) [9, 10, 11]) tNil)) (tCons (tOp (rIx K) (tVar 3) (tC (.int 2))) (tCons (tOp (rIx K) (tVar 3) (tC (.int 1))) tNil)))) (gName 5))
    (tSeq (tAsg (tCall (spF F_turned_fair) [] E0 (tCons (tVar 3) tNil)) (gName 6))
    (tSeq (tIfS (tOr (tNot (tB (tCall (spF (F__law_same_c 9)) [] E0 (tCons (tVar 6) (tCons (tVar 5) tNil))))) (tOr (tNot (tB (tCall (spF (F__law_same_c 9)) [] E0 (tCons (tCall (spF F_turned_fair) [] E0 (tCons (tVar 6) tNil)) (tCons (tVar 3) tNil))))) (tTest (tOp oNotU (tCall (spF F_is_fair) [] E0 (tCons (tVar 6) tNil)) (tC (.bl true)))))) (tRet (tC (.bl false))) tNext)
    (tSeq (tFor (iRng1 (tCons (tC (.int 4)) tNil)) (gName 7) (tSeq (tAsg (tCall (spW F__law_sharing) [] E0 (tCons (tVar 1) (tCons (tVar 3) tNil))) (gName 8))
    (tSeq (tIfS (tOr (tTest (tOp oNotU (tCall (spF F_is_sharing) [] E0 (tCons (tVar 6) (tCons (tVar 8) tNil))) (tC (.bl true)))) (tTest (tOp (rNeD K) (tCall (spF F_in_all) [] E0 (tCons (tVar 6) (tCons (tVar 8) tNil))) (tBack K (tCall (spF F_in_all) [] E0 (tCons (tVar 3) (tCons (tVar 8) tNil))))))) (tRet (tC (.bl false))) tNext)
    (tIfS (tNot (tB (tCall (spF (F__law_same_c 9)) [] E0 (tCons (tCall (spF F_loose) [] E0 (tCons (tVar 6) (tCons (tVar 8) tNil))) (tCons (tCall (spF F_loose) [] E0 (tCons (tVar 3) (tCons (tVar 8) tNil))) tNil))))) (tRet (tC (.bl false))) tNext))))
    (tIfS (tTest (tOp (rNeD K) (tCB (rRepr K) (tCons (tVar 3) tNil)) (tVar 4))) (tRet (tC (.bl false))) tNext))))))) X_law_z27_b2 := by
  unfold X_law_z27_b2
  exact ss_seq (ss_asg (sg_name (by decide)) (sw_callK (swa_cons (sw_M se_int) (swa_cons (sw_M se_int) (swa_cons (sw_op so_eq (sw_callK (swa_cons (sw_M se_int) swa_nil)) (sw_M se_int)) swa_nil)))))
    (ss_seq (ss_asg (sg_name (by decide)) (sw_M (se_cb sc_repr (sa_cons se_var sa_nil))))
    (ss_seq (ss_asg (sg_name (by decide)) (sw_M (se_tup (sa_cons (se_cb sc_tup (sa_cons (SEF.se (sef_lc (si_seq (se_op so_ix se_var se_int)) (sgv_tup (sgv_cons sgv_name (sgv_cons sgv_name (sgv_cons sgv_name sgv_nil)))) (by decide) st_yes (se_tup (sa_cons se_var (sa_cons se_var (sa_cons se_var sa_nil)))))) sa_nil)) (sa_cons (se_op so_ix se_var se_int) (sa_cons (se_op so_ix se_var se_int) sa_nil))))))
    (ss_seq (ss_asg (sg_name (by decide)) (sw_M (se_call (sa_cons se_var sa_nil))))
    (ss_seq (ss_if (swt_M (st_or (st_not (st_B (se_call (sa_cons se_var (sa_cons se_var sa_nil))))) (st_or (st_not (st_B (se_call (sa_cons (se_call (sa_cons se_var sa_nil)) (sa_cons se_var sa_nil))))) (st_test (se_op so_isntU (se_call (sa_cons se_var sa_nil)) se_bl))))) (ss_fz (ss_ret (sw_M se_bl))) ss_next)
    (ss_seq (ss_for (swi_rng (swa_cons (sw_M se_int) swa_nil)) (sg_name (by decide)) ss_X_law_z27_b1)
    (ss_if (swt_M (st_test (se_op so_ne (se_cb sc_repr (sa_cons se_var sa_nil)) se_var))) (ss_fz (ss_ret (sw_M se_bl))) ss_next))))))
def T_law_z27 : TS :=
    tSeq (tAsg (tCall (spD F__law_deck_d) [] E0 (tCons (tVar 0) tNil)) (gName 1))
    (tSeq (tFor (iRng1 (tCons (tC (.int 6)) tNil)) (gName 2) (tSeq (tAsg (tCall (spW F__law_fair) [] E0 (tCons (tVar 1) (tCons (tC (.int 6)) (tCons (tC (.int 12)) (tCons (tOp (rEqX K) (tCall (spW F__law_draw) [] E0 (tCons (tVar 1) (tCons (tC (.int 2)) tNil))) (tC (.int 0))) tNil))))) (gName 3))
    (tSeq (tAsg (tCB (rRepr K) (tCons (tVar 3) tNil)) (gName 4))
    (tSeq (tAsg (tTupF (tCons (tCB (rTupF K) (tCons (tLc (iSeq K (tOp (rIx K) (tVar 3) (tC (.int 0)))) (gTU K 3 (gCons (gName 9) (gCons (gName 10) (gCons (gName 11) gNil)))) tYes (tTupF (tCons (tVar 10) (tCons (tVar 9) (tCons (tVar 11) tNil)))) [9, 10, 11]) tNil)) (tCons (tOp (rIx K) (tVar 3) (tC (.int 2))) (tCons (tOp (rIx K) (tVar 3) (tC (.int 1))) tNil)))) (gName 5))
    (tSeq (tAsg (tCall (spF F_turned_fair) [] E0 (tCons (tVar 3) tNil)) (gName 6))
    (tSeq (tIfS (tOr (tNot (tB (tCall (spF (F__law_same_c 9)) [] E0 (tCons (tVar 6) (tCons (tVar 5) tNil))))) (tOr (tNot (tB (tCall (spF (F__law_same_c 9)) [] E0 (tCons (tCall (spF F_turned_fair) [] E0 (tCons (tVar 6) tNil)) (tCons (tVar 3) tNil))))) (tTest (tOp oNotU (tCall (spF F_is_fair) [] E0 (tCons (tVar 6) tNil)) (tC (.bl true)))))) (tRet (tC (.bl false))) tNext)
    (tSeq (tFor (iRng1 (tCons (tC (.int 4)) tNil)) (gName 7) (tSeq (tAsg (tCall (spW F__law_sharing) [] E0 (tCons (tVar 1) (tCons (tVar 3) tNil))) (gName 8))
    (tSeq (tIfS (tOr (tTest (tOp oNotU (tCall (spF F_is_sharing) [] E0 (tCons (tVar 6) (tCons (tVar 8) tNil))) (tC (.bl true)))) (tTest (tOp (rNeD K) (tCall (spF F_in_all) [] E0 (tCons (tVar 6) (tCons (tVar 8) tNil))) (tBack K (tCall (spF F_in_all) [] E0 (tCons (tVar 3) (tCons (tVar 8) tNil))))))) (tRet (tC (.bl false))) tNext)
    (tIfS (tNot (tB (tCall (spF (F__law_same_c 9)) [] E0 (tCons (tCall (spF F_loose) [] E0 (tCons (tVar 6) (tCons (tVar 8) tNil))) (tCons (tCall (spF F_loose) [] E0 (tCons (tVar 3) (tCons (tVar 8) tNil))) tNil))))) (tRet (tC (.bl false))) tNext))))
    (tIfS (tTest (tOp (rNeD K) (tCB (rRepr K) (tCons (tVar 3) tNil)) (tVar 4))) (tRet (tC (.bl false))) tNext))))))))
    (tRet (tC (.bl true))))
theorem ss_law_z27 : SS T_law_z27 X_law_z27 := by
  unfold X_law_z27 T_law_z27
  exact ss_seq (ss_own (by decide) (sw_callD (swa_cons (sw_M se_var) swa_nil)))
    (ss_seq (ss_for (swi_rng (swa_cons (sw_M se_int) swa_nil)) (sg_name (by decide)) ss_X_law_z27_b2)
    (ss_fz (ss_ret (sw_M se_bl))))
end
end Fn
namespace Fn
open PySem PySem.Spec PyProof.Rows L2 Uv
/-! the program: what several files ask -/
@[simp] theorem p_is_number {i : Int} : F_is_number [.int i] = some (.bool true) := by
  unfold F_is_number
  refine eq_of_wp (wp_runP rfl ?_)
  unfold X_is_number
  simp -implicitDefEqProofs
@[simp] theorem p_is_number_to {i m : Int} : F_is_number_to [.int i, .int m] = some (.bool (decide (0 ≤ i) && decide (i ≤ m))) := by
  unfold F_is_number_to
  refine eq_of_wp (wp_runP rfl ?_)
  unfold X_is_number_to
  simp -implicitDefEqProofs
@[simp] theorem p_is_tuple_of {ds : List PD} {a b : Int} : F_is_tuple_of [.tuple ds, .int a, .int b] = some (.bool (decide (a ≤ ds.length) && decide ((ds.length : Int) ≤ b))) := by
  unfold F_is_tuple_of
  refine eq_of_wp (wp_runP rfl ?_)
  unfold X_is_tuple_of
  simp -implicitDefEqProofs
theorem q_sortP {l m : List Nat} (p : l.Perm m) (hs : m.Pairwise (· < ·)) : sortP (natsD l) = some (.list (m.map natD)) := by
  rw [q_sort, sort_perm p hs, List.map_map]
  rfl
theorem eq_natsL {l m : List Nat} : eqP (.list (l.map natD)) (.list (m.map natD)) = some (.bool (l == m)) := by
  rw [eqP_lay Lay.natsL Lay.natsL, ← eqv_nats]
  rfl
theorem p_is_order {l m : List Nat} (p : l.Perm m) (hs : m.Pairwise (· < ·)) (hl : l.length ≤ 40000) : F_is_order [natsD l, .list (m.map natD)] = some (.bool true) := by
  unfold F_is_order
  refine eq_of_wp (wp_runP rfl ?_)
  unfold X_is_order
  simp -implicitDefEqProofs
  refine ⟨hl, wp_lcT (fun _ => .bool true) (fun x hx => by simp -implicitDefEqProofs) ?_⟩
  simp -implicitDefEqProofs [q_all, q_sortP p hs, eq_natsL]
/-! fairs -/
def tside (s : Nat) (x : Tie) : Nat := if s = 0 then x.g else x.t
/-- the ties of a seat -/
def atT (ts : List Tie) (s k : Nat) : List Nat := (ts.zipIdx.filter fun p => tside s p.1 == k).map (·.2)
structure OkTie (g t : Nat) (x : Tie) : Prop where
  g : x.g < g
  t : x.t < t
  r0 : 0 ≤ x.r
  r1 : x.r ≤ 1000000000000000
structure OkSeat (ts : List Tie) (s k : Nat) (x : Seat) : Prop where
  m0 : 0 ≤ x.much
  m1 : x.much ≤ 1000000000000000
  p : x.order.Perm (atT ts s k)
structure IsFair (F : Fair) : Prop where
  g : 1 ≤ F.givers.length ∧ F.givers.length ≤ 28
  t : 1 ≤ F.takers.length ∧ F.takers.length ≤ 28
  n : F.ties.length ≤ 36
  tie : ∀ x ∈ F.ties, OkTie F.givers.length F.takers.length x
  give : ∀ (k : Nat) (x : Seat), F.givers[k]? = some x → OkSeat F.ties 0 k x
  take : ∀ (k : Nat) (x : Seat), F.takers[k]? = some x → OkSeat F.ties 1 k x
theorem atT_sorted (ts : List Tie) (s k : Nat) : (atT ts s k).Pairwise (· < ·) := (zip_sorted ts 0 _).1
theorem atT_len {ts : List Tie} {s k : Nat} : (atT ts s k).length ≤ ts.length := by
  unfold atT
  rw [List.length_map]
  exact Nat.le_trans (List.length_filter_le _ _) (by simp)
theorem atT_lt {ts : List Tie} {s k j : Nat} (h : j ∈ atT ts s k) : j < ts.length := by
  unfold atT at h
  obtain ⟨⟨x, i⟩, h1, rfl⟩ := List.mem_map.mp h
  have h3 := List.mem_zipIdx (List.mem_filter.mp h1).1
  simp at h3
  omega
theorem p_is_tie {x : Tie} {g t : Nat} (h : OkTie g t x) : F_is_tie [tieD x, natD g, natD t] = some (.bool true) := by
  have h1 := h.g
  have h2 := h.t
  have h3 := h.r0
  have h4 := h.r1
  unfold F_is_tie
  refine eq_of_wp (wp_runP rfl ?_)
  unfold X_is_tie
  have e : F_is_tuple_of [tieD x, .int 3, .int 3] = some (.bool true) := p_is_tuple_of (ds := [natD x.g, natD x.t, .int x.r])
  simp -implicitDefEqProofs [e]
  omega
theorem p_is_seat {ts : List Tie} {s k : Nat} {x : Seat} (h : OkSeat ts s k x) (hl : ts.length ≤ 36) : F_is_seat [seatD x, .list ((atT ts s k).map natD)] = some (.bool true) := by
  have h3 := h.m0
  have h4 := h.m1
  unfold F_is_seat
  refine eq_of_wp (wp_runP rfl ?_)
  unfold X_is_seat
  have e : F_is_tuple_of [seatD x, .int 2, .int 2] = some (.bool true) := p_is_tuple_of (ds := [.int x.much, natsD x.order])
  have e2 := p_is_order h.p (atT_sorted ts s k) (by rw [h.p.length_eq]; have := atT_len (ts := ts) (s := s) (k := k); omega)
  simp -implicitDefEqProofs [e, e2]
  omega
theorem p_are_seats {ts : List Tie} {s : Nat} {xs : List Seat} (h : ∀ (k : Nat) (x : Seat), xs[k]? = some x → OkSeat ts s k x) (hl : ts.length ≤ 36) (hx : xs.length ≤ 28) : F_are_seats [.tuple (xs.map seatD), .list (ts.map fun x => natD (tside s x))] = some (.bool true) := by
  unfold F_are_seats
  refine eq_of_wp (wp_runP rfl ?_)
  unfold X_are_seats
  simp -implicitDefEqProofs
  refine ⟨by omega, wp_lcET (fun _ => .bool true) (fun k hk => ?_) ?_⟩
  · simp -implicitDefEqProofs
    refine ⟨by omega, ?_⟩
    rw [show (ts.map fun x => natD (tside s x)) = (ts.map (tside s)).map natD by rw [List.map_map]; rfl]
    refine wp_lcE (fun p => p.1 == k) (fun p => natD p.2) (fun i hi => ?_) ?_
    · simp -implicitDefEqProofs
      exact Bool.eq_iff_iff.mpr (by simp; omega)
    · have e : (((ts.map (tside s)).zipIdx.filter fun p => p.1 == k).map fun p => natD p.2) = (atT ts s k).map natD := by
        unfold atT
        rw [List.zipIdx_map, List.filter_map, List.map_map, List.map_map]
        rfl
      rw [e]
      simp -implicitDefEqProofs [p_is_seat (h k xs[k] (List.getElem?_eq_getElem hk)) hl]
  · simp -implicitDefEqProofs [q_all]
theorem p_is_fair {F : Fair} (h : IsFair F) : F_is_fair [fairD F] = some (.bool true) := by
  have hg := h.g
  have ht := h.t
  have hn := h.n
  unfold F_is_fair
  refine eq_of_wp (wp_runP rfl ?_)
  unfold X_is_fair
  have e : F_is_tuple_of [fairD F, .int 3, .int 3] = some (.bool true) := p_is_tuple_of (ds := [.tuple (F.ties.map tieD), .tuple (F.givers.map seatD), .tuple (F.takers.map seatD)])
  simp -implicitDefEqProofs [e]
  refine wp_alt (fun c => ?_) (fun c => ?_)
  · simp at c
    omega
  · simp -implicitDefEqProofs
    refine ⟨by omega, wp_lcT (fun _ => .bool true) (fun x hx => ?_) ?_⟩
    · simp -implicitDefEqProofs [p_is_tie (h.tie x hx)]
    · simp -implicitDefEqProofs [q_all]
      refine ⟨by omega, wp_lcT (fun x => natD (tside 0 x)) (fun x hx => by simp -implicitDefEqProofs [tside]) ?_⟩
      simp -implicitDefEqProofs [p_are_seats (s := 0) h.give hn hg.2]
      refine ⟨by omega, wp_lcT (fun x => natD (tside 1 x)) (fun x hx => by simp -implicitDefEqProofs [tside]) ?_⟩
      simp -implicitDefEqProofs [p_are_seats (s := 1) h.take hn ht.2]
end Fn

namespace Uv
open PySem PySem.Spec PyProof.Rows L2
@[simp] theorem q_toInt_b {b : Bool} : toIntP (.bool b) = some (.int (if b = true then 1 else 0)) := by cases b <;> rfl
@[simp] theorem q_toInt_i {i : Int} : toIntP (.int i) = some (.int i) := (rfl)
/-! a def in parts: what its rest does is shown apart -/
theorem wp_cut1 {A R : XS} {ρ : Env} {Q : Out → Prop} (P : XS → Prop) (hR : P R) (h : ∀ R, P R → wp (sSeq A R ρ) (tag Q)) : wp (sSeq A R ρ) (tag Q) := h R hR
theorem wp_cut2 {A B R : XS} {ρ : Env} {Q : Out → Prop} (P : XS → Prop) (hR : P R) (h : ∀ R, P R → wp (sSeq A (sSeq B R) ρ) (tag Q)) : wp (sSeq A (sSeq B R) ρ) (tag Q) := h R hR
theorem wp_cut3 {A B C R : XS} {ρ : Env} {Q : Out → Prop} (P : XS → Prop) (hR : P R) (h : ∀ R, P R → wp (sSeq A (sSeq B (sSeq C R)) ρ) (tag Q)) : wp (sSeq A (sSeq B (sSeq C R)) ρ) (tag Q) := h R hR
theorem wp_cut4 {A B C D R : XS} {ρ : Env} {Q : Out → Prop} (P : XS → Prop) (hR : P R) (h : ∀ R, P R → wp (sSeq A (sSeq B (sSeq C (sSeq D R))) ρ) (tag Q)) : wp (sSeq A (sSeq B (sSeq C (sSeq D R))) ρ) (tag Q) := h R hR
theorem mkWeb {rs : List Road} {gs ts : List (List Nat)} {m : Nat} (m1 : 1 ≤ m) (m8 : m ≤ 8) (r1 : 1 ≤ rs.length) (r20 : rs.length ≤ 20) (hr : ∀ x ∈ rs, OkRoad m x) (hg : gs.length = m) (ht : ts.length = m) (pg : ∀ (h : Nat) (l : List Nat), gs[h]? = some l → l.Perm (atR rs 0 h)) (pt : ∀ (h : Nat) (l : List Nat), ts[h]? = some l → l.Perm (atR rs 1 h)) : IsWeb ⟨rs, gs, ts⟩ :=
  ⟨⟨by show 1 ≤ gs.length; omega, by show gs.length ≤ 8; omega⟩, by show ts.length = gs.length; omega, ⟨r1, r20⟩, fun x hx => by show OkRoad gs.length x; rw [hg]; exact hr x hx, pg, pt⟩
theorem roadE {x y : Option Nat} {r : Int} : PyData.tuple [endD x, endD y, .int r] = roadD ⟨x, y, r⟩ := rfl
/-- whether a road's end of a side is a house, by its number -/
def isAt (rs : List Road) (s h k : Nat) : Bool := match rs[k]? with
  | some x => side s x == some h
  | none => false
theorem filter_atR {rs : List Road} {s h : Nat} : (List.range rs.length).filter (isAt rs s h) = atR rs s h := by
  have e : List.range rs.length = rs.zipIdx.map (·.2) := by
    rw [show (fun (p : Road × Nat) => p.2) = Prod.snd from rfl, List.zipIdx_map_snd, List.range_eq_range']
  unfold atR
  rw [e, List.filter_map]
  congr 1
  apply List.filter_congr
  rintro ⟨x, k⟩ hx
  have hx := List.mem_zipIdx' hx
  obtain ⟨h1, h2⟩ := hx
  have h2 : x = rs[k] := h2
  show isAt rs s h k = _
  unfold isAt
  rw [List.getElem?_eq_getElem h1, ← h2]
theorem mem_atR {rs : List Road} {s h k : Nat} : k ∈ atR rs s h ↔ ∃ x, rs[k]? = some x ∧ side s x = some h := by
  rw [← filter_atR, List.mem_filter]
  unfold isAt
  constructor
  · rintro ⟨h1, h2⟩
    have h1 : k < rs.length := List.mem_range.mp h1
    rw [List.getElem?_eq_getElem h1] at h2
    exact ⟨_, List.getElem?_eq_getElem h1, by simpa using h2⟩
  · rintro ⟨x, h1, h2⟩
    rw [h1]
    exact ⟨List.mem_range.mpr (List.getElem?_eq_some_iff.mp h1).1, by simpa using h2⟩
theorem atR_len {rs : List Road} {s h : Nat} : (atR rs s h).length ≤ rs.length := by
  unfold atR
  rw [List.length_map]
  exact Nat.le_trans (List.length_filter_le ..) (by simp)
/-- outside, and every house -/
def spots (n : Nat) : List (Option Nat) := none :: (List.range n).map some
theorem spots_eq {n : Nat} : PyData.none :: (List.range n).map natD = (spots n).map endD := by
  unfold spots
  rw [List.map_cons, List.map_map]
  rfl
theorem spots_len {n : Nat} : (spots n).length = n + 1 := by simp [spots]
theorem spots_nodup {n : Nat} : (spots n).Nodup := by
  unfold spots
  rw [List.nodup_cons]
  refine ⟨by simp, ?_⟩
  rw [List.nodup_iff_pairwise_ne, List.pairwise_map]
  exact (List.nodup_range).imp fun h e => h (Option.some.inj e)
theorem spots_mem {n : Nat} {x : Option Nat} (h : x ∈ spots n) : ∀ k, x = some k → k < n := by
  rintro k rfl
  simpa [spots] using h
theorem erase_mem {α : Type} {l : List α} {r : Nat} {x : α} (h : x ∈ l.eraseIdx r) : x ∈ l := List.mem_of_mem_eraseIdx h
theorem erase_ne {α : Type} {l : List α} (nd : l.Nodup) {r : Nat} (hr : r < l.length) {x : α} (h : x ∈ l.eraseIdx r) : l[r] ≠ x := by
  rintro rfl
  have p := (erase_perm hr).nodup_iff.mpr nd
  exact (List.nodup_cons.mp p).1 h
/-- a list of orders, one for each house, that is laid house by house -/
theorem ord_snoc {rs : List Road} {s : Nat} {gs : List (List Nat)} {l : List Nat} (hg : ∀ (h : Nat) (l : List Nat), gs[h]? = some l → l.Perm (atR rs s h)) (hl : l.Perm (atR rs s gs.length)) : ∀ (h : Nat) (l' : List Nat), (gs ++ [l])[h]? = some l' → l'.Perm (atR rs s h) := by
  intro h l' e
  by_cases c : h < gs.length
  · rw [List.getElem?_append_left c] at e
    exact hg h l' e
  · rw [List.getElem?_append_right (by omega)] at e
    have : h - gs.length = 0 := by
      apply Classical.byContradiction
      intro z
      rw [List.getElem?_eq_none (by simp; omega)] at e
      exact nomatch e
    rw [this] at e
    have hh : h = gs.length := by omega
    simp at e
    subst e
    rw [hh]
    exact hl
theorem ord_map {rs : List Road} {s n : Nat} (f : Nat → List Nat) (hf : ∀ h, (f h).Perm (atR rs s h)) : ∀ (h : Nat) (l : List Nat), ((List.range n).map f)[h]? = some l → l.Perm (atR rs s h) := by
  intro h l e
  rw [List.getElem?_map] at e
  obtain ⟨k, e1, e2⟩ := Option.map_eq_some_iff.mp e
  have := (List.getElem?_eq_some_iff.mp e1).2
  rw [List.getElem_range] at this
  rw [← e2, ← this]
  exact hf h
end Uv

namespace Uv
open PySem PySem.Spec PyProof.Rows L2
@[simp] theorem q_iAt {x : XE} {v : VE} : iAt x v = (x v).bind isI := (rfl)
@[simp] theorem q_eD {c : PD} {r r' : List PD} {n b t0 b0 : Int} {m : PD} {z6 z7 : Sl} : vA (eD c r n b m t0 b0 z6 z7) r' = [some (.list [c, .int n, .list r, .int b]), some m, some c, some (.int t0), some (.list r'), some (.int b0), z6.vw, z7.vw] := (rfl)
@[simp] theorem q_ownD {c : PD} {r : List PD} {n b t0 b0 : Int} {m : PD} {z6 z7 : Sl} : ownAt (eD c r n b m t0 b0 z6 z7) 0 = some [.dat c, .dat (.int n), .sub r, .dat (.int b)] := (rfl)
@[simp] theorem q_sDraw {xs xt xd xv xb xf : XE} {xc : XT} {c m : PD} {r : List PD} {n b : Int} : sDraw xs xt xc xd xv xb xf [.own [.dat c, .dat (.int n), .sub r, .dat (.int b)], .dat m, .un, .un, .un, .un, .un, .un] = 
    (iAt xs (vA (eD c r n b m n b .un .un) r)).bind fun s =>
    (iAt xt (vA (eD c r n b m n b (.dat (.int s)) .un) r)).bind fun t1 =>
    (xc (vA (eD c r t1 b m n b (.dat (.int s)) .un) r)).bind fun k =>
    alt k (tag ((iAt xd (vA (eD c r t1 b m n b (.dat (.int s)) .un) r)).bind fun d =>
      (iAt xv (vA (eD c r t1 b m n b (.dat (.int s)) (.dat (.int d))) r)).bind fun v =>
      (ixN r.length s).bind fun j => some (.ret (.int d) (eD c (r.set j (.int v)) t1 b m n b (.dat (.int s)) (.dat (.int d))))))
    (tag ((iAt xb (vA (eD c r t1 b m n b (.dat (.int s)) .un) r)).bind fun v =>
      (iAt xf (vA (eD c r t1 v m n b (.dat (.int s)) .un) r)).bind fun z => some (.ret (.int z) (eD c r t1 v m n b (.dat (.int s)) .un)))) := (rfl)
end Uv
namespace Fn
open PySem PySem.Spec PyProof.Rows L2 Uv
/-! family C: the deck and what is drawn of it -/
def DkC (b : Nat) (cs : List Cel) : Prop := ∃ (gs rs : List Int) (n w : Int), cs = [.dat (.list (gs.map PyData.int)), .dat (.int n), .sub (rs.map PyData.int), .dat (.int w)] ∧ 1 ≤ gs.length ∧ gs.length ≤ 64 ∧ rs.length = gs.length ∧ 0 ≤ n ∧ n ≤ b ∧ 0 ≤ w ∧ w < 2147483647
theorem DkC.mono {b c : Nat} {cs : List Cel} (h : DkC b cs) (hb : b ≤ c) : DkC c cs := by
  obtain ⟨gs, rs, n, w, e, h1, h2, h3, h4, h5, h6⟩ := h
  exact ⟨gs, rs, n, w, e, h1, h2, h3, h4, by omega, h6⟩
theorem c_draw {b : Nat} {cs : List Cel} {m : Int} {Q : PD × List Cel → Prop} (h : DkC b cs) (hb : b ≤ 2 ^ 40) (hm : 0 < m) (hm2 : m < 2 ^ 64) (hq : ∀ (r : Nat) cs', (r : Int) < m → DkC (b + 1) cs' → Q (natD r, cs')) : wp (F__law_draw cs [.int m]) (tag Q) := by
  obtain ⟨gs, rs, n, w, rfl, g1, g64, lr, n0, nb, w0, w1⟩ := h
  have dv : Dvr m := ⟨hm, hm2⟩
  have hl : 0 < (gs.length : Int) := by omega
  have dl : Dvr (gs.length : Int) := ⟨hl, by omega⟩
  obtain ⟨s, hs, es⟩ := emod_nat (a := n) hl
  have hs' : s < gs.length := by omega
  have ag : atI (gs.map PyData.int) (s : Int) = some (.int gs[s]) := atI_map hs'
  have ar : atI (rs.map PyData.int) (s : Int) = some (.int (rs[s]'(by omega))) := atI_map (by omega)
  obtain ⟨x, hx⟩ : ∃ x, x = rs[s]'(by omega) := ⟨_, rfl⟩
  rw [← hx] at ar
  obtain ⟨n1, hn1⟩ : ∃ k, k = n + 1 := ⟨_, rfl⟩
  unfold F__law_draw
  refine wp_runW rfl ?_
  unfold X__law_draw
  simp -implicitDefEqProofs [hl, dl, es, ar]
  refine ⟨by omega, ?_⟩
  have e1 : In64 48271 := ⟨by decide, by decide⟩
  have e2 : In64 30011 := ⟨by decide, by decide⟩
  have d1 : Dvr 2147483629 := ⟨by decide, by decide⟩
  have d2 : Dvr 2147483647 := ⟨by decide, by decide⟩
  refine wp_altd (fun q => ?_) (fun q => ?_)
  · obtain ⟨r, hr, er⟩ := emod_nat (a := x) hm
    have ix : ixN (rs.map PyData.int).length (s : Int) = some s := ixN_nat' (by simp; omega)
    simp -implicitDefEqProofs only [List.length_map] at ix
    simp -implicitDefEqProofs [ar, hm, dv, er, ix]
    exact hq r _ hr ⟨gs, rs.set s (x / m), n + 1, w, by rw [List.map_set], g1, g64, by simp [lr], by omega, by omega, w0, w1⟩
  · obtain ⟨v, hv⟩ : ∃ v, v = (w * 48271 + gs[s] % 2147483629 + 30011 * n) % 2147483647 := ⟨_, rfl⟩
    have v64 : In64 v := ⟨by omega, by omega⟩
    obtain ⟨r, hr, er⟩ := emod_nat (a := v * v % 2147483629 / 8) hm
    simp -implicitDefEqProofs [ag, e1, e2, d1, d2]
    rw [← hv]
    simp -implicitDefEqProofs [v64, d1, hm, dv, er]
    exact hq r _ hr ⟨gs, rs, n + 1, v, rfl, g1, g64, lr, by omega, by omega, by omega, by omega⟩
theorem c_deck {ns : List Int} {Q : List Cel → Prop} (h : ns.length ≤ 63) (hq : ∀ cs, DkC 0 cs → Q cs) : wp (F__law_deck_d [scrD (ns.map PyData.int)]) (tag Q) := by
  unfold F__law_deck_d
  refine wp_runD rfl ?_
  unfold X__law_deck_d
  simp -implicitDefEqProofs
  have cut : Uv.cutD (ns.map PyData.int) none (some 63) = ns.map PyData.int := by
    unfold Uv.cutD
    rw [HT.sIx_none, show (some (63 : Int)) = some ((63 : Nat) : Int) from rfl, HT.sIx_nat, List.length_map, Nat.min_eq_right h]
    exact List.take_of_length_le (by simp)
  rw [cut]
  obtain ⟨j, hj⟩ : ∃ j : Int, j = (if ns = [] then 1 else 0) := ⟨_, rfl⟩
  obtain ⟨gs, eg, g1, g2⟩ : ∃ gs : List Int, ns.map PyData.int ++ List.replicate j.toNat (PyData.int 7) = gs.map PyData.int ∧ 1 ≤ gs.length ∧ gs.length ≤ 64 := by
    by_cases q : ns = []
    · subst q
      exact ⟨[7], by rw [hj, if_pos rfl]; rfl, by simp, by simp⟩
    · have := List.length_pos_iff.mpr q
      exact ⟨ns, by rw [hj, if_neg q]; simp, by omega, by omega⟩
  have j01 : 0 ≤ j ∧ j ≤ 1 := by
    by_cases q : ns = []
    · rw [hj, if_pos q]; omega
    · rw [hj, if_neg q]; omega
  simp -implicitDefEqProofs
  rw [← hj]
  rw [eg]
  have lg : (ns.map PyData.int).length + j.toNat ≤ 100 := by simp; omega
  refine ⟨⟨by omega, by omega⟩, by omega, by omega, wp_lcT (fun g => .int (g * (if (1000000000000000000 : Int) ≤ g then 1 else 0))) (fun g hg => ?_) ?_⟩
  · have e1 : In64 1 := ⟨by decide, by decide⟩
    have e0 : In64 0 := ⟨by decide, by decide⟩
    by_cases q : (1000000000000000000 : Int) ≤ g
    · simp -implicitDefEqProofs [q, e1]
    · simp -implicitDefEqProofs [q, e0]
  have em : (gs.map fun g => PyData.int (g * (if (1000000000000000000 : Int) ≤ g then 1 else 0))) = (gs.map fun g => g * (if (1000000000000000000 : Int) ≤ g then 1 else 0)).map PyData.int := by rw [List.map_map]; rfl
  rw [em]
  obtain ⟨rs, hrs⟩ : ∃ rs, rs = gs.map fun g => g * (if (1000000000000000000 : Int) ≤ g then 1 else 0) := ⟨_, rfl⟩
  rw [← hrs]
  simp -implicitDefEqProofs
  exact hq _ ⟨gs, rs, 0, 43, rfl, g1, g2, by rw [hrs]; simp, by omega, by omega, by omega, by omega⟩
theorem c_amount {b : Nat} {cs : List Cel} {far : Bool} {Q : PD × List Cel → Prop} (h : DkC b cs) (hb : b + 4 ≤ 2 ^ 40) (hq : ∀ (r : Int) cs', 0 ≤ r → r ≤ 1000000000000000 → (far = false → r ≤ 3) → DkC (b + 4) cs' → Q (.int r, cs')) : wp (F__law_amount cs [.bool far]) (tag Q) := by
  unfold F__law_amount
  refine wp_runW rfl ?_
  unfold X__law_amount
  cases far with
  | false =>
    simp -implicitDefEqProofs
    refine c_draw h (by omega) (by omega) (by omega) fun r cs1 hr d1 => ?_
    simp -implicitDefEqProofs
    refine wp_pick (by simp; omega) fun x hx => ?_
    obtain ⟨q, rfl, q0, q1⟩ : ∃ q : Int, x = .int q ∧ 0 ≤ q ∧ q ≤ 3 := by
      simp at hx
      rcases hx with rfl | rfl | rfl | rfl <;> exact ⟨_, rfl, by omega, by omega⟩
    simp -implicitDefEqProofs
    exact hq q _ q0 (by omega) (fun _ => q1) (d1.mono (by omega))
  | true =>
    simp -implicitDefEqProofs
    refine c_draw h (by omega) (by omega) (by omega) fun r1 cs1 hr1 d1 => ?_
    simp -implicitDefEqProofs
    refine c_draw d1 (by omega) (by omega) (by omega) fun r2 cs2 hr2 d2 => ?_
    simp -implicitDefEqProofs
    refine c_draw d2 (by omega) (by omega) (by omega) fun r cs3 hr d3 => ?_
    simp -implicitDefEqProofs
    refine wp_pick (by simp; omega) fun x hx => ?_
    obtain ⟨q, rfl, q0, q1⟩ : ∃ q : Int, x = .int q ∧ 0 ≤ q ∧ q ≤ 1000000000000000 := by
      simp at hx
      rcases hx with rfl | rfl | rfl | rfl | rfl | rfl | rfl | rfl | rfl | rfl <;> exact ⟨_, rfl, by omega, by omega⟩
    simp -implicitDefEqProofs
    exact hq q _ q0 q1 (fun z => nomatch z) (d3.mono (by omega))
theorem c_order {b : Nat} {cs : List Cel} {ns : List Nat} {Q : PD × List Cel → Prop} (h : DkC b cs) (hb : b + ns.length ≤ 2 ^ 40) (hl : ns.length ≤ 1000) (hq : ∀ (es : List Nat) cs', es.Perm ns → DkC (b + ns.length) cs' → Q (natsD es, cs')) : wp (F__law_order_c cs [.list (ns.map natD)]) (tag Q) := by
  unfold F__law_order_c
  refine wp_runW rfl ?_
  unfold X__law_order_c
  simp -implicitDefEqProofs
  refine ⟨in62_nat (by omega), ?_⟩
  refine wp_forR (fun i ρ => ∃ (cs : List Cel) (left found : List Nat) (z : Sl), found.length = i ∧ (found ++ left).Perm ns ∧ ρ = [.own cs, .dat (.list (ns.map natD)), .own (dats (left.map natD)), .own (dats (found.map natD)), z] ∧ DkC (b + i) cs) ⟨cs, ns, [], _, rfl, .refl _, rfl, h⟩ ?_ ?_
  · rintro i hi ρ ⟨cs, left, found, z, fl, pm, rfl, d⟩
    have ll : found.length + left.length = ns.length := by have := pm.length_eq; simpa using this
    unfold X__law_order_c_b1
    simp -implicitDefEqProofs
    refine c_draw d (by omega) (by omega) (by omega) fun r cs1 hr d1 => ?_
    have hr : r < left.length := by omega
    simp -implicitDefEqProofs [ixN_nat' hr, datAt_map hr, erase_map]
    refine ⟨in63e_nat (by omega), by omega, cs1, left.eraseIdx r, found ++ [left[r]], _, by simp [fl], ?_, by rw [List.map_append]; rfl, d1⟩
    rw [List.append_assoc]
    exact (List.Perm.append_left found (erase_perm hr)).trans pm
  · rintro ρ ⟨cs, left, found, z, fl, pm, rfl, d⟩
    have ll := pm.length_eq
    rw [List.length_append] at ll
    have le : left = [] := List.length_eq_zero_iff.mp (by omega)
    subst le
    have fz : fzE [Sl.own cs, .dat (.list (ns.map natD)), .dat (.list []), .own (dats (found.map natD)), z] 3 = [Sl.own cs, .dat (.list (ns.map natD)), .dat (.list []), .dat (.list (found.map natD)), z] := by
      show [Sl.own cs, _, _, .dat (.list ((dats (found.map natD)).map Cel.pd)), _] = _
      rw [dats_pd]
    have fz2 : fzE [Sl.own cs, .dat (.list (ns.map natD)), .own [], .own (dats (found.map natD)), z] 2 = [Sl.own cs, .dat (.list (ns.map natD)), .dat (.list []), .own (dats (found.map natD)), z] := rfl
    have er : natsD found = .tuple (found.map natD) := rfl
    simp -implicitDefEqProofs [fz2, fz]
    exact hq found cs (by simpa using pm) d
end Fn

namespace Fn
open PySem PySem.Spec PyProof.Rows L2 Uv
/-! ### fairs drawn -/
def pickS (s : Nat) (g t : Nat) : Nat := if s = 0 then g else t
theorem ix_many {g t s : Nat} (hs : s < 2) : ixP (.tuple [natD g, natD t]) (natD s) = some (natD (pickS s g t)) := by
  have : s = 0 ∨ s = 1 := by omega
  rcases this with rfl | rfl <;> rfl
theorem ix_tside {x : Tie} {s : Nat} (hs : s < 2) : ixP (tieD x) (natD s) = some (natD (tside s x)) := by
  have : s = 0 ∨ s = 1 := by omega
  rcases this with rfl | rfl <;> rfl
theorem eq_natN {a b : Nat} : eqP (natD a) (natD b) = some (.bool (a == b)) := by
  rw [show eqP (natD a) (natD b) = eqP (endD (some a)) (natD b) from rfl, eq_end]
  congr 2
theorem up_eq {a b : List Nat} (ha : a.Pairwise (· < ·)) (hb : b.Pairwise (· < ·)) (h : ∀ x, x ∈ a ↔ x ∈ b) : a = b := by
  refine List.Perm.eq_of_pairwise (le := fun a b => a < b) (fun a b _ _ h1 h2 => by omega) ha hb ?_
  exact (List.perm_ext_iff_of_nodup (ha.imp fun h => by omega) (hb.imp fun h => by omega)).mpr h
theorem atT_range {ts : List Tie} {s k : Nat} : ((List.range ts.length).filter fun j => (tside s (ts.getD j ⟨0, 0, 0⟩)) == k) = atT ts s k := by
  refine up_eq (List.Pairwise.filter _ List.pairwise_lt_range) (atT_sorted ts s k) fun j => ?_
  rw [List.mem_filter, List.mem_range]
  unfold atT
  rw [List.mem_map]
  constructor
  · rintro ⟨h1, h2⟩
    exact ⟨(ts[j], j), List.mem_filter.mpr ⟨List.mem_zipIdx_iff_getElem?.mpr (by rw [List.getElem?_eq_getElem h1]), by simpa [h1] using h2⟩, rfl⟩
  · rintro ⟨⟨x, i⟩, h1, rfl⟩
    obtain ⟨h2, h3⟩ := List.mem_filter.mp h1
    have := List.mem_zipIdx_iff_getElem?.mp h2
    obtain ⟨h4, h5⟩ := List.getElem?_eq_some_iff.mp this
    exact ⟨h4, by simpa [h4, h5] using h3⟩

def OkSeats (ts : List Tie) (s : Nat) (far : Bool) (xs : List Seat) : Prop := ∀ (k : Nat) (x : Seat), xs[k]? = some x → OkSeat ts s k x ∧ (far = false → x.much ≤ 3)
theorem c_side {b s g t : Nat} {cs : List Cel} {ts : List Tie} {far : Bool} {y1 y2 y6 y9 y10 y11 : Sl} {ds : List PD} {Q : Out → Prop} (h : DkC b cs) (hb : b + 2000 ≤ 2 ^ 40) (hs : s < 2) (hm : pickS s g t ≤ 28) (hn : ts.length ≤ 36) (hd : ds.length ≤ 2)
    (hq : ∀ xs cs' z6 z9 z10 z11, xs.length = pickS s g t → OkSeats ts s far xs → DkC (b + 2000) cs' → Q (.nxt [.own cs', y1, y2, .dat (.bool far), .dat (.tuple [natD g, natD t]), .dat (.list (ts.map tieD)), z6, .own (dats (ds ++ [.tuple (xs.map seatD)])), .dat (natD s), z9, z10, z11])) :
    wp (X__law_fair_b3 [.own cs, y1, y2, .dat (.bool far), .dat (.tuple [natD g, natD t]), .dat (.list (ts.map tieD)), y6, .own (dats ds), .dat (natD s), y9, y10, y11]) (tag Q) := by
  unfold X__law_fair_b3
  simp -implicitDefEqProofs [ix_many hs]
  refine ⟨in62_nat (by omega), ?_⟩
  refine wp_forR (fun i ρ => ∃ (cs' : List Cel) (xs : List Seat) (z6 z10 z11 : Sl), ρ = [.own cs', y1, y2, .dat (.bool far), .dat (.tuple [natD g, natD t]), .dat (.list (ts.map tieD)), z6, .own (dats ds), .dat (natD s), .own (dats (xs.map seatD)), z10, z11] ∧ xs.length = i ∧ OkSeats ts s far xs ∧ DkC (b + 60 * i) cs') ⟨cs, [], _, _, _, rfl, rfl, fun k x z => by simp at z, h⟩ ?_ ?_
  · rintro i hi ρ ⟨cs', xs, z6, z10, z11, rfl, xl, ok, d⟩
    unfold X__law_fair_b2
    simp -implicitDefEqProofs
    refine ⟨in62_nat (by omega), by omega, wp_lc (fun j => tside s (ts.getD j ⟨0, 0, 0⟩) == i) natD (fun j hj => ?_) ?_⟩
    · have hj := List.mem_range.mp hj
      have e : ts.getD j ⟨0, 0, 0⟩ = ts[j] := by simp [hj]
      simp -implicitDefEqProofs [atI_map hj, ix_tside hs, eq_natN]
      rw [List.getElem?_eq_getElem hj]
      show (((tside s ts[j] : Nat) : Int) == (i : Int)) = (tside s ts[j] == i)
      exact Bool.eq_iff_iff.mpr (by simp; omega)
    rw [atT_range]
    simp -implicitDefEqProofs
    refine c_amount d (by omega) fun r cs1 r0 r1 r3 d1 => ?_
    simp -implicitDefEqProofs
    have al := atT_len (ts := ts) (s := s) (k := i)
    refine c_order d1 (by omega) (by omega) fun es cs2 pe d2 => ?_
    simp -implicitDefEqProofs
    refine ⟨by omega, cs2, xs ++ [⟨r, es⟩], _, _, _, by rw [List.map_append]; rfl, by simp [xl], fun k x hx => ?_, d2.mono (by omega)⟩
    by_cases q : k < xs.length
    · rw [List.getElem?_append_left q] at hx; exact ok k x hx
    · rw [List.getElem?_append_right (by omega)] at hx
      have : k - xs.length = 0 := by
        apply Classical.byContradiction
        intro z
        rw [List.getElem?_eq_none (by simp; omega)] at hx
        exact nomatch hx
      rw [this] at hx
      simp at hx
      subst hx
      have : k = i := by omega
      subst this
      exact ⟨⟨r0, r1, pe⟩, r3⟩
  · rintro ρ ⟨cs', xs, z6, z10, z11, rfl, xl, ok, d⟩
    have fz : fzE [Sl.own cs', y1, y2, .dat (.bool far), .dat (.tuple [natD g, natD t]), .dat (.list (ts.map tieD)), z6, .own (dats ds), .dat (natD s), .own (dats (xs.map seatD)), z10, z11] 9 = [Sl.own cs', y1, y2, .dat (.bool far), .dat (.tuple [natD g, natD t]), .dat (.list (ts.map tieD)), z6, .own (dats ds), .dat (natD s), .dat (.list (xs.map seatD)), z10, z11] := by
      show [Sl.own cs', _, _, _, _, _, _, _, _, .dat (.list ((dats (xs.map seatD)).map Cel.pd)), _, _] = _
      rw [dats_pd]
    simp -implicitDefEqProofs [fz]
    exact ⟨by omega, hq xs cs' _ _ _ _ xl ok (d.mono (by omega))⟩
theorem c_fair {b seats most : Nat} {cs : List Cel} {far : Bool} {Q : PD × List Cel → Prop} (h : DkC b cs) (hb : b + 5000 ≤ 2 ^ 40) (s1 : 1 ≤ seats) (s28 : seats ≤ 28) (m36 : most ≤ 36)
    (hq : ∀ F cs', IsFair F → F.givers.length ≤ seats → F.takers.length ≤ seats → F.ties.length ≤ most → (far = false → (∀ x ∈ F.ties, x.r ≤ 3) ∧ (∀ x ∈ F.givers, x.much ≤ 3) ∧ ∀ x ∈ F.takers, x.much ≤ 3) → DkC (b + 5000) cs' → Q (fairD F, cs')) : wp (F__law_fair cs [natD seats, natD most, .bool far]) (tag Q) := by
  unfold F__law_fair
  refine wp_runW rfl ?_
  unfold X__law_fair
  simp -implicitDefEqProofs
  refine c_draw h (by omega) (by omega) (by omega) fun r1 cs1 a1 d1 => ?_
  obtain ⟨g, hg⟩ : ∃ g : Nat, g = 1 + r1 := ⟨_, rfl⟩
  have eg : (1 : Int) + (r1 : Int) = (g : Int) := by omega
  simp -implicitDefEqProofs [eg]
  refine c_draw d1 (by omega) (by omega) (by omega) fun r2 cs2 a2 d2 => ?_
  obtain ⟨t, ht⟩ : ∃ t : Nat, t = 1 + r2 := ⟨_, rfl⟩
  have et : (1 : Int) + (r2 : Int) = (t : Int) := by omega
  simp -implicitDefEqProofs [et]
  refine c_draw d2 (by omega) (by omega) (by omega) fun n cs3 a3 d3 => ?_
  simp -implicitDefEqProofs
  refine ⟨in62_nat (by omega), ?_⟩
  refine wp_forR (fun i ρ => ∃ (cs' : List Cel) (ts : List Tie) (z6 : Sl), ρ = [.own cs', .dat (natD seats), .dat (natD most), .dat (.bool far), .dat (.tuple [natD g, natD t]), .own (dats (ts.map tieD)), z6, .un, .un, .un, .un, .un] ∧ ts.length = i ∧ (∀ x ∈ ts, OkTie g t x ∧ (far = false → x.r ≤ 3)) ∧ DkC (b + 3 + 6 * i) cs') ⟨cs3, [], _, rfl, rfl, by simp, d3⟩ ?_ ?_
  · rintro i hi ρ ⟨cs', ts, z6, rfl, tl, ok, d⟩
    unfold X__law_fair_b1
    simp -implicitDefEqProofs
    refine c_draw d (by omega) (by omega) (by omega) fun q1 cs4 b1 d4 => ?_
    simp -implicitDefEqProofs
    refine c_draw d4 (by omega) (by omega) (by omega) fun q2 cs5 b2 d5 => ?_
    simp -implicitDefEqProofs
    refine c_amount d5 (by omega) fun r cs6 r0 r1' r3 d6 => ?_
    simp -implicitDefEqProofs
    refine ⟨by omega, cs6, ts ++ [⟨q1, q2, r⟩], _, by rw [List.map_append]; rfl, by simp [tl], fun x hx => ?_, d6.mono (by omega)⟩
    rcases List.mem_append.mp hx with z | z
    · exact ok x z
    · rw [List.mem_singleton.mp z]
      exact ⟨⟨by show q1 < g; omega, by show q2 < t; omega, r0, r1'⟩, r3⟩
  · rintro ρ ⟨cs', ts, z6, rfl, tl, ok, d⟩
    have fz : fzE [Sl.own cs', .dat (natD seats), .dat (natD most), .dat (.bool far), .dat (.tuple [natD g, natD t]), .own (dats (ts.map tieD)), z6, .un, .un, .un, .un, .un] 5 = [Sl.own cs', .dat (natD seats), .dat (natD most), .dat (.bool far), .dat (.tuple [natD g, natD t]), .dat (.list (ts.map tieD)), z6, .un, .un, .un, .un, .un] := by
      show [Sl.own cs', _, _, _, _, .dat (.list ((dats (ts.map tieD)).map Cel.pd)), _, _, _, _, _, _] = _
      rw [dats_pd]
    have tn : ts.length ≤ 36 := by omega
    simp -implicitDefEqProofs [fz]
    rw [wp_for_cons]
    refine wp_of (show gName' 8 (.int 0) [Sl.own cs', .dat (natD seats), .dat (natD most), .dat (.bool far), .dat (.tuple [natD g, natD t]), .dat (.list (ts.map tieD)), z6, .own [], .un, .un, .un, .un] = some [Sl.own cs', .dat (natD seats), .dat (natD most), .dat (.bool far), .dat (.tuple [natD g, natD t]), .dat (.list (ts.map tieD)), z6, .own (dats []), .dat (natD 0), .un, .un, .un] from rfl) ?_
    refine c_side (s := 0) (ds := []) d (by omega) (by omega) (by show g ≤ 28; omega) tn (by simp) fun xs cs4 z6 z9 z10 z11 xl okx d4 => ?_
    refine ⟨?_⟩
    rw [wp_for_cons]
    refine wp_of (show gName' 8 (.int 1) [Sl.own cs4, .dat (natD seats), .dat (natD most), .dat (.bool far), .dat (.tuple [natD g, natD t]), .dat (.list (ts.map tieD)), z6, .own (dats ([] ++ [.tuple (xs.map seatD)])), .dat (natD 0), z9, z10, z11] = some [Sl.own cs4, .dat (natD seats), .dat (natD most), .dat (.bool far), .dat (.tuple [natD g, natD t]), .dat (.list (ts.map tieD)), z6, .own (dats ([] ++ [.tuple (xs.map seatD)])), .dat (natD 1), z9, z10, z11] from rfl) ?_
    refine c_side (s := 1) (ds := [] ++ [.tuple (xs.map seatD)]) d4 (by omega) (by omega) (by show t ≤ 28; omega) tn (by simp) fun ys cs5 z6 z9 z10 z11 yl oky d5 => ?_
    refine ⟨?_⟩
    rw [wp_for_nil]
    have fz2 : fzE [Sl.own cs5, .dat (natD seats), .dat (natD most), .dat (.bool far), .dat (.tuple [natD g, natD t]), .dat (.list (ts.map tieD)), z6, .own (dats ([] ++ [.tuple (xs.map seatD)] ++ [.tuple (ys.map seatD)])), .dat (natD 1), z9, z10, z11] 7 = [Sl.own cs5, .dat (natD seats), .dat (natD most), .dat (.bool far), .dat (.tuple [natD g, natD t]), .dat (.list (ts.map tieD)), z6, .dat (.list [.tuple (xs.map seatD), .tuple (ys.map seatD)]), .dat (natD 1), z9, z10, z11] := rfl
    have last : sFz 7 (sRet (wM (xTup (xCons (xCB (on1 tupP) (xCons (xVar 5) xNil)) (xCons (xOp ixP (xVar 7) (xC (.int 0))) (xCons (xOp ixP (xVar 7) (xC (.int 1))) xNil)))))) [Sl.own cs5, .dat (natD seats), .dat (natD most), .dat (.bool far), .dat (.tuple [natD g, natD t]), .dat (.list (ts.map tieD)), z6, .own (dats ([] ++ [.tuple (xs.map seatD)] ++ [.tuple (ys.map seatD)])), .dat (natD 1), z9, z10, z11] = some (.ret (fairD ⟨ts, xs, ys⟩) [Sl.own cs5, .dat (natD seats), .dat (natD most), .dat (.bool far), .dat (.tuple [natD g, natD t]), .dat (.list (ts.map tieD)), z6, .dat (.list [.tuple (xs.map seatD), .tuple (ys.map seatD)]), .dat (natD 1), z9, z10, z11]) := rfl
    refine wp_of last ?_
    refine ⟨cs5, rfl, ?_⟩
    have xg : xs.length = g := xl
    have yt : ys.length = t := yl
    have mem : ∀ {xs : List Seat} {s : Nat}, OkSeats ts s far xs → far = false → ∀ x ∈ xs, x.much ≤ 3 := fun {xs s} ok hf x hx => by
      obtain ⟨k, hk, rfl⟩ := List.getElem_of_mem hx
      exact (ok k _ (List.getElem?_eq_getElem hk)).2 hf
    exact hq ⟨ts, xs, ys⟩ cs5 ⟨⟨by show 1 ≤ xs.length; omega, by show xs.length ≤ 28; omega⟩, ⟨by show 1 ≤ ys.length; omega, by show ys.length ≤ 28; omega⟩, tn, fun x hx => by show OkTie xs.length ys.length x; rw [xg, yt]; exact (ok x hx).1, fun k x hx => (okx k x hx).1, fun k x hx => (oky k x hx).1⟩ (by show xs.length ≤ _; omega) (by show ys.length ≤ _; omega) (by show ts.length ≤ _; omega) (fun hf => ⟨fun x hx => (ok x hx).2 hf, mem okx hf, mem oky hf⟩) (d5.mono (by omega))
end Fn

/-! every web has a stream that some lot calms: offers and refusals, one at a time -/
namespace Calm
def sm (l : List Nat) (g : Nat → Int) : Int := (l.map g).sum
theorem sm_cons {x : Nat} {l : List Nat} {g : Nat → Int} : sm (x :: l) g = g x + sm l g := by simp [sm]
theorem sm_same {l : List Nat} {g g' : Nat → Int} (h : ∀ j ∈ l, g' j = g j) : sm l g' = sm l g := by
  unfold sm
  rw [List.map_congr_left h]
theorem sm_up {l : List Nat} {g g' : Nat → Int} {k : Nat} {c : Int} (nd : l.Nodup) (hk : k ∈ l) (h1 : g' k = g k + c) (h2 : ∀ j, j ≠ k → g' j = g j) : sm l g' = sm l g + c := by
  induction l with
  | nil => exact nomatch hk
  | cons x xs ih =>
    obtain ⟨n1, n2⟩ := List.nodup_cons.mp nd
    rw [sm_cons, sm_cons]
    by_cases e : x = k
    · subst e
      rw [h1, sm_same fun j hj => h2 j fun z => n1 (z ▸ hj)]
      omega
    · have hk : k ∈ xs := (List.mem_cons.mp hk).resolve_left fun z => e z.symm
      rw [h2 x e, ih n2 hk]
      omega
theorem sm_le {l : List Nat} {g g' : Nat → Int} (h : ∀ j ∈ l, g j ≤ g' j) : sm l g ≤ sm l g' := by
  induction l with
  | nil => exact Int.le_refl _
  | cons x xs ih =>
    have h1 := h x (List.mem_cons_self ..)
    have h2 := ih fun j hj => h j (List.mem_cons_of_mem _ hj)
    rw [sm_cons, sm_cons]
    omega
theorem sm_nn {l : List Nat} {g : Nat → Int} (h : ∀ j ∈ l, 0 ≤ g j) : 0 ≤ sm l g := by
  have := sm_le (g := fun _ => 0) h
  have e : ∀ l : List Nat, sm l (fun _ => 0) = 0 := fun l => by
    induction l with
    | nil => rfl
    | cons x xs ih => rw [sm_cons, ih]; rfl
  rw [e] at this
  exact this
/-- where a sum of what is nowhere less than nought is at most nought, each part is nought -/
theorem sm_zero {l : List Nat} {g : Nat → Int} (h : ∀ j ∈ l, 0 ≤ g j) (hs : sm l g ≤ 0) : ∀ j ∈ l, g j = 0 := by
  induction l with
  | nil => intro j hj; exact nomatch hj
  | cons x xs ih =>
    rw [sm_cons] at hs
    have h1 := h x (List.mem_cons_self ..)
    have h2 := sm_nn fun j hj => h j (List.mem_cons_of_mem _ hj)
    intro j hj
    rcases List.mem_cons.mp hj with rfl | hj
    · omega
    · exact ih (fun j hj => h j (List.mem_cons_of_mem _ hj)) (by omega) j hj
theorem sm_pos {l : List Nat} {g : Nat → Int} (h : ∀ j ∈ l, 0 ≤ g j) (hs : 0 < sm l g) : ∃ j ∈ l, 0 < g j := by
  apply Classical.byContradiction
  intro z
  have := sm_le (l := l) (g := g) (g' := fun _ => 0) fun j hj => by
    have := h j hj
    apply Classical.byContradiction
    intro z'
    exact z ⟨j, hj, by omega⟩
  have e : ∀ l : List Nat, sm l (fun _ => 0) = 0 := fun l => by
    induction l with
    | nil => rfl
    | cons x xs ih => rw [sm_cons, ih]; rfl
  rw [e] at this
  omega
/-- the first and the last that a word holds of -/
theorem least_of (l : List Nat) (P : Nat → Prop) (h : ∃ k ∈ l, P k) : ∃ k ∈ l, P k ∧ ∀ j ∈ l, l.idxOf j < l.idxOf k → ¬ P j := by
  obtain ⟨k, hk, hp⟩ := h
  have main : ∀ n : Nat, ∀ k ∈ l, P k → l.idxOf k ≤ n → ∃ k ∈ l, P k ∧ ∀ j ∈ l, l.idxOf j < l.idxOf k → ¬ P j := by
    intro n
    induction n with
    | zero => exact fun k hk hp hn => ⟨k, hk, hp, fun j _ hj => by omega⟩
    | succ n ih =>
      intro k hk hp hn
      by_cases c : ∃ j ∈ l, l.idxOf j < l.idxOf k ∧ P j
      · obtain ⟨j, hj, h1, h2⟩ := c
        exact ih j hj h2 (by omega)
      · exact ⟨k, hk, hp, fun j hj h1 h2 => c ⟨j, hj, h1, h2⟩⟩
  exact main _ k hk hp (Nat.le_refl _)
theorem last_of (l : List Nat) (P : Nat → Prop) (h : ∃ k ∈ l, P k) : ∃ k ∈ l, P k ∧ ∀ j ∈ l, l.idxOf k < l.idxOf j → ¬ P j := by
  obtain ⟨k, hk, hp⟩ := h
  have main : ∀ n : Nat, ∀ k ∈ l, P k → l.length - l.idxOf k ≤ n → ∃ k ∈ l, P k ∧ ∀ j ∈ l, l.idxOf k < l.idxOf j → ¬ P j := by
    intro n
    induction n with
    | zero => exact fun k hk hp hn => ⟨k, hk, hp, fun j hj h1 => by have := List.idxOf_lt_length_iff.mpr hk; omega⟩
    | succ n ih =>
      intro k hk hp hn
      by_cases c : ∃ j ∈ l, l.idxOf k < l.idxOf j ∧ P j
      · obtain ⟨j, hj, h1, h2⟩ := c
        exact ih j hj h2 (by omega)
      · exact ⟨k, hk, hp, fun j hj h1 h2 => c ⟨j, hj, h1, h2⟩⟩
  exact main _ k hk hp (Nat.le_refl _)
/-- a web, by functions -/
structure Net where
  n : Nat
  hs : Nat
  b : Nat → Option Nat
  e : Nat → Option Nat
  r : Nat → Int
  g : Nat → List Nat
  t : Nat → List Nat
structure Net.Ok (N : Net) : Prop where
  ne : ∀ k, k < N.n → N.b k ≠ N.e k
  r0 : ∀ k, 0 ≤ N.r k
  gm : ∀ h k, k ∈ N.g h ↔ k < N.n ∧ N.b k = some h
  tm : ∀ h k, k ∈ N.t h ↔ k < N.n ∧ N.e k = some h
  gn : ∀ h, (N.g h).Nodup
  tn : ∀ h, (N.t h).Nodup
  bh : ∀ k h, k < N.n → N.b k = some h → h < N.hs
  eh : ∀ k h, k < N.n → N.e k = some h → h < N.hs
variable {N : Net}
def outs (N : Net) (D R : Nat → Int) (h : Nat) : Int := sm (N.g h) fun k => D k - R k
def ins (N : Net) (D R : Nat → Int) (h : Nat) : Int := sm (N.t h) fun k => D k - R k
/-- what is borne by the roads that a house takes less gladly than this one -/
def worse (N : Net) (D R : Nat → Int) (h k : Nat) : Int := sm (N.t h) fun j => if (N.t h).idxOf k < (N.t h).idxOf j then D j - R j else 0
structure St (N : Net) (D R : Nat → Int) : Prop where
  i1 : ∀ k, 0 ≤ R k ∧ R k ≤ D k ∧ D k ≤ N.r k
  i2 : ∀ k, N.b k = none → D k = N.r k
  i3 : ∀ h k j, k ∈ N.g h → j ∈ N.g h → (N.g h).idxOf k < (N.g h).idxOf j → 0 < D j → D k = N.r k
  i4 : ∀ k, N.e k = none → R k = 0
  i5 : ∀ h, outs N D R h ≤ ins N D R h
  i6 : ∀ h k, k ∈ N.t h → 0 < R k → (∀ j ∈ N.g h, D j = N.r j) ∧ worse N D R h k ≤ ins N D R h - outs N D R h
def up (D : Nat → Int) (k : Nat) : Nat → Int := fun j => if j = k then D j + 1 else D j
theorem up_at {D : Nat → Int} {k : Nat} : up D k k = D k + 1 := if_pos rfl
theorem up_ne {D : Nat → Int} {k j : Nat} (h : j ≠ k) : up D k j = D j := if_neg h
/-- one more is offered on a road -/
theorem offer (ok : N.Ok) {D R : Nat → Int} (s : St N D R) {h k : Nat} (hk : k ∈ N.g h) (ex : outs N D R h < ins N D R h) (lt : D k < N.r k) (first : ∀ j ∈ N.g h, (N.g h).idxOf j < (N.g h).idxOf k → ¬ D j < N.r j) : St N (up D k) R := by
  obtain ⟨kn, kb⟩ := (ok.gm h k).mp hk
  have f1 : up D k k - R k = D k - R k + 1 := by rw [up_at]; omega
  have f2 : ∀ j, j ≠ k → up D k j - R j = D j - R j := fun j hj => by rw [up_ne hj]
  -- the outs and the ins of each house
  have o1 : outs N (up D k) R h = outs N D R h + 1 := sm_up (ok.gn h) hk f1 f2
  have o2 : ∀ h', h' ≠ h → outs N (up D k) R h' = outs N D R h' := fun h' z => sm_same fun j hj => f2 j fun y => by
    subst y
    have := ((ok.gm h' j).mp hj).2
    rw [kb] at this
    exact z (Option.some.inj this).symm
  have n1 : ∀ h', N.e k = some h' → ins N (up D k) R h' = ins N D R h' + 1 := fun h' z => sm_up (ok.tn h') ((ok.tm h' k).mpr ⟨kn, z⟩) f1 f2
  have n2 : ∀ h', N.e k ≠ some h' → ins N (up D k) R h' = ins N D R h' := fun h' z => sm_same fun j hj => f2 j fun y => by
    subst y
    exact z ((ok.tm h' j).mp hj).2
  have eh : N.e k ≠ some h := fun z => ok.ne k kn (by rw [kb, z])
  refine ⟨fun j => ?_, fun j hj => ?_, fun h' i j hi hj hij hD => ?_, s.i4, fun h' => ?_, fun h' j hj hR => ?_⟩
  · have := s.i1 j
    by_cases c : j = k
    · subst c; rw [up_at]; omega
    · rw [up_ne c]; omega
  · have : j ≠ k := fun z => by subst z; rw [kb] at hj; exact nomatch hj
    rw [up_ne this]
    exact s.i2 j hj
  · have nik : i ≠ k ∨ D i = N.r i := by
      by_cases c : i = k
      · refine .inr ?_
        subst c
        have : j ≠ i := fun z => by subst z; exact Nat.lt_irrefl _ hij
        rw [up_ne this] at hD
        exact s.i3 h' i j hi hj hij hD
      · exact .inl c
    by_cases c : i = k
    · subst c
      rcases nik with z | z
      · exact absurd rfl z
      · omega
    · rw [up_ne c]
      by_cases c2 : j = k
      · subst c2
        have hh : h' = h := by
          have := ((ok.gm h' j).mp hj).2
          rw [kb] at this
          exact (Option.some.inj this).symm
        subst hh
        have := first i hi hij
        have := (s.i1 i).2.2
        omega
      · rw [up_ne c2] at hD
        exact s.i3 h' i j hi hj hij hD
  · by_cases c : h' = h
    · subst c
      rw [o1, n2 h' eh]
      omega
    · rw [o2 h' c]
      have := s.i5 h'
      by_cases c2 : N.e k = some h'
      · rw [n1 h' c2]; omega
      · rw [n2 h' c2]; exact this
  · obtain ⟨a1, a2⟩ := s.i6 h' j hj hR
    have hh : h' ≠ h := fun z => by subst z; have := a1 k hk; omega
    refine ⟨fun i hi => ?_, ?_⟩
    · have : i ≠ k := fun z => by
        subst z
        have := ((ok.gm h' i).mp hi).2
        rw [kb] at this
        exact hh (Option.some.inj this).symm
      rw [up_ne this]
      exact a1 i hi
    · rw [o2 h' hh]
      by_cases c2 : N.e k = some h'
      · rw [n1 h' c2]
        have hkt : k ∈ N.t h' := (ok.tm h' k).mpr ⟨kn, c2⟩
        have : worse N (up D k) R h' j ≤ worse N D R h' j + 1 := by
          by_cases c3 : (N.t h').idxOf j < (N.t h').idxOf k
          · refine Int.le_of_eq (sm_up (ok.tn h') hkt ?_ fun i hi => ?_)
            · rw [if_pos c3, if_pos c3, f1]
            · rw [f2 i hi]
          · have : worse N (up D k) R h' j = worse N D R h' j := sm_same fun i hi => by
              by_cases c4 : i = k
              · subst c4; rw [if_neg c3, if_neg c3]
              · rw [f2 i c4]
            omega
        omega
      · rw [n2 h' c2]
        have : worse N (up D k) R h' j = worse N D R h' j := sm_same fun i hi => by
          have : i ≠ k := fun z => by subst z; exact c2 ((ok.tm h' i).mp hi).2
          rw [f2 i this]
        omega
/-- one is refused -/
theorem refuse (ok : N.Ok) {D R : Nat → Int} (s : St N D R) {h k : Nat} (hk : k ∈ N.t h) (ex : outs N D R h < ins N D R h) (full : ∀ j ∈ N.g h, D j = N.r j) (lt : 0 < D k - R k) (last : ∀ j ∈ N.t h, (N.t h).idxOf k < (N.t h).idxOf j → ¬ 0 < D j - R j) : St N D (up R k) := by
  obtain ⟨kn, ke⟩ := (ok.tm h k).mp hk
  have f1 : D k - up R k k = D k - R k + (-1) := by rw [up_at]; omega
  have f2 : ∀ j, j ≠ k → D j - up R k j = D j - R j := fun j hj => by rw [up_ne hj]
  have n1 : ins N D (up R k) h = ins N D R h + (-1) := sm_up (ok.tn h) hk f1 f2
  have n2 : ∀ h', h' ≠ h → ins N D (up R k) h' = ins N D R h' := fun h' z => sm_same fun j hj => f2 j fun y => by
    subst y
    have := ((ok.tm h' j).mp hj).2
    rw [ke] at this
    exact z (Option.some.inj this).symm
  have o1 : ∀ h', N.b k = some h' → outs N D (up R k) h' = outs N D R h' + (-1) := fun h' z => sm_up (ok.gn h') ((ok.gm h' k).mpr ⟨kn, z⟩) f1 f2
  have o2 : ∀ h', N.b k ≠ some h' → outs N D (up R k) h' = outs N D R h' := fun h' z => sm_same fun j hj => f2 j fun y => by
    subst y
    exact z ((ok.gm h' j).mp hj).2
  have bh : N.b k ≠ some h := fun z => ok.ne k kn (by rw [ke, z])
  refine ⟨fun j => ?_, s.i2, s.i3, fun j hj => ?_, fun h' => ?_, fun h' j hj hR => ?_⟩
  · have := s.i1 j
    by_cases c : j = k
    · subst c; rw [up_at]; omega
    · rw [up_ne c]; omega
  · have : j ≠ k := fun z => by subst z; rw [ke] at hj; exact nomatch hj
    rw [up_ne this]
    exact s.i4 j hj
  · by_cases c : h' = h
    · subst c
      rw [n1, o2 h' bh]
      omega
    · rw [n2 h' c]
      have := s.i5 h'
      by_cases c2 : N.b k = some h'
      · rw [o1 h' c2]; omega
      · rw [o2 h' c2]; exact this
  · by_cases c : h' = h
    · subst c
      refine ⟨full, ?_⟩
      rw [n1, o2 h' bh]
      by_cases c2 : (N.t h').idxOf j < (N.t h').idxOf k
      · -- better than the refused one
        have hj2 : j ≠ k := fun z => by subst z; exact Nat.lt_irrefl _ c2
        rw [up_ne hj2] at hR
        obtain ⟨a1, a2⟩ := s.i6 h' j hj hR
        have : worse N D (up R k) h' j = worse N D R h' j + (-1) := sm_up (ok.tn h') hk (by rw [if_pos c2, if_pos c2, f1]) fun i hi => by rw [f2 i hi]
        omega
      · -- the refused one, or a worse: nothing worse is borne
        have : worse N D (up R k) h' j ≤ 0 := by
          have z : worse N D (up R k) h' j ≤ sm (N.t h') (fun _ => 0) := sm_le fun i hi => by
            by_cases c3 : (N.t h').idxOf j < (N.t h').idxOf i
            · rw [if_pos c3]
              have c4 : (N.t h').idxOf k < (N.t h').idxOf i := by omega
              have hik : i ≠ k := fun z => by subst z; exact Nat.lt_irrefl _ c4
              rw [f2 i hik]
              have := last i hi c4
              omega
            · rw [if_neg c3]
              exact Int.le_refl _
          have e : ∀ l : List Nat, sm l (fun _ => 0) = 0 := fun l => by
            induction l with
            | nil => rfl
            | cons x xs ih => rw [sm_cons, ih]; rfl
          rw [e] at z
          exact z
        omega
    · have hj2 : j ≠ k := fun z => by
        subst z
        have := ((ok.tm h' j).mp hj).2
        rw [ke] at this
        exact c (Option.some.inj this).symm
      rw [up_ne hj2] at hR
      obtain ⟨a1, a2⟩ := s.i6 h' j hj hR
      refine ⟨a1, ?_⟩
      rw [n2 h' c]
      have : worse N D (up R k) h' j = worse N D R h' j := sm_same fun i hi => by
        have : i ≠ k := fun z => by
          subst z
          have := ((ok.tm h' i).mp hi).2
          rw [ke] at this
          exact c (Option.some.inj this).symm
        rw [f2 i this]
      by_cases c2 : N.b k = some h'
      · rw [o1 h' c2]; omega
      · rw [o2 h' c2]; omega
/-- what is left to be offered and refused -/
def left (N : Net) (D R : Nat → Int) : Int := sm (List.range N.n) fun k => 2 * N.r k - D k - R k
theorem left_nn {D R : Nat → Int} (s : St N D R) : 0 ≤ left N D R := sm_nn fun k _ => by have := s.i1 k; omega
theorem left_offer {D R : Nat → Int} {k : Nat} (hk : k < N.n) : left N (up D k) R = left N D R + (-1) := sm_up List.nodup_range (List.mem_range.mpr hk) (by rw [up_at]; omega) fun j hj => by rw [up_ne hj]
theorem left_refuse {D R : Nat → Int} {k : Nat} (hk : k < N.n) : left N D (up R k) = left N D R + (-1) := sm_up List.nodup_range (List.mem_range.mpr hk) (by rw [up_at]; omega) fun j hj => by rw [up_ne hj]
theorem rest_of (ok : N.Ok) : ∀ (n : Nat) (D R : Nat → Int), St N D R → left N D R ≤ n → ∃ D R, St N D R ∧ ∀ h, outs N D R h = ins N D R h := by
  intro n
  induction n with
  | zero =>
    intro D R s hl
    by_cases c : ∃ h, outs N D R h < ins N D R h
    · obtain ⟨h, hx⟩ := c
      exfalso
      by_cases c2 : ∃ k ∈ N.g h, D k < N.r k
      · obtain ⟨k, hk, lt, first⟩ := least_of _ _ c2
        have s' := offer ok s hk hx lt first
        have := left_nn s'
        rw [left_offer ((ok.gm h k).mp hk).1] at this
        omega
      · have full : ∀ j ∈ N.g h, D j = N.r j := fun j hj => by
          have := (s.i1 j).2.2
          apply Classical.byContradiction
          intro z
          exact c2 ⟨j, hj, by omega⟩
        have on : 0 ≤ outs N D R h := sm_nn fun j _ => by have := s.i1 j; omega
        obtain ⟨k, hk, lt, last⟩ := last_of (N.t h) (fun j => 0 < D j - R j) (sm_pos (fun j _ => by have := s.i1 j; omega) (show 0 < ins N D R h by omega))
        have s' := refuse ok s hk hx full lt last
        have := left_nn s'
        rw [left_refuse ((ok.tm h k).mp hk).1] at this
        omega
    · exact ⟨D, R, s, fun h => by
        have := s.i5 h
        apply Classical.byContradiction
        intro z
        exact c ⟨h, by omega⟩⟩
  | succ n ih =>
    intro D R s hl
    by_cases c : ∃ h, outs N D R h < ins N D R h
    · obtain ⟨h, hx⟩ := c
      by_cases c2 : ∃ k ∈ N.g h, D k < N.r k
      · obtain ⟨k, hk, lt, first⟩ := least_of _ _ c2
        exact ih _ _ (offer ok s hk hx lt first) (by rw [left_offer ((ok.gm h k).mp hk).1]; omega)
      · have full : ∀ j ∈ N.g h, D j = N.r j := fun j hj => by
          have := (s.i1 j).2.2
          apply Classical.byContradiction
          intro z
          exact c2 ⟨j, hj, by omega⟩
        have on : 0 ≤ outs N D R h := sm_nn fun j _ => by have := s.i1 j; omega
        obtain ⟨k, hk, lt, last⟩ := last_of (N.t h) (fun j => 0 < D j - R j) (sm_pos (fun j _ => by have := s.i1 j; omega) (show 0 < ins N D R h by omega))
        exact ih _ _ (refuse ok s hk hx full lt last) (by rw [left_refuse ((ok.tm h k).mp hk).1]; omega)
    · exact ⟨D, R, s, fun h => by
        have := s.i5 h
        apply Classical.byContradiction
        intro z
        exact c ⟨h, by omega⟩⟩
/-- the beginning: outside offers all -/
theorem start (ok : N.Ok) : St N (fun k => if N.b k = none then N.r k else 0) fun _ => 0 := by
  refine ⟨fun k => ?_, fun k hk => if_pos hk, fun h k j hk hj hij hD => ?_, fun _ _ => rfl, fun h => ?_, fun h k hk hR => by omega⟩
  · have := ok.r0 k
    split <;> omega
  · have : N.b j ≠ none := fun z => by rw [((ok.gm h j).mp hj).2] at z; exact nomatch z
    rw [if_neg this] at hD
    omega
  · have e : outs N (fun k => if N.b k = none then N.r k else 0) (fun _ => 0) h = sm (N.g h) fun _ => 0 := sm_same fun j hj => by
      have : N.b j ≠ none := fun z => by rw [((ok.gm h j).mp hj).2] at z; exact nomatch z
      show (if N.b j = none then N.r j else 0) - 0 = 0
      rw [if_neg this]; rfl
    have z : sm (N.g h) (fun _ => 0) ≤ sm (N.g h) (fun _ => 0) := Int.le_refl _
    have e0 : ∀ l : List Nat, sm l (fun _ => 0) = 0 := fun l => by
      induction l with
      | nil => rfl
      | cons x xs ih => rw [sm_cons, ih]; rfl
    rw [e, e0]
    exact sm_nn fun j _ => by
      have := ok.r0 j
      show 0 ≤ (if N.b j = none then N.r j else 0) - 0
      split <;> omega
/-- a calm stream -/
structure Rests (N : Net) (f : Nat → Int) (L : Nat → Prop) : Prop where
  lo : ∀ k, 0 ≤ f k
  hi : ∀ k, f k ≤ N.r k
  even : ∀ h, sm (N.g h) f = sm (N.t h) f
  calm : ∀ k, k < N.n → f k < N.r k → (∀ h, N.b k = some h → L h ∨ ∃ j ∈ N.g h, (N.g h).idxOf k < (N.g h).idxOf j ∧ 0 < f j) → ∃ h, N.e k = some h ∧ L h ∧ ∀ j ∈ N.t h, (N.t h).idxOf k < (N.t h).idxOf j → f j = 0
theorem exists_calm (ok : N.Ok) : ∃ f L, Rests N f L := by
  obtain ⟨m, hm⟩ : ∃ m : Nat, left N (fun k => if N.b k = none then N.r k else 0) (fun _ => 0) ≤ m := ⟨Int.toNat _, Int.self_le_toNat _⟩
  obtain ⟨D, R, s, ev⟩ := rest_of ok m _ _ (start ok) hm
  refine ⟨fun k => D k - R k, fun h => ∀ j ∈ N.g h, D j = N.r j, fun k => ?_, fun k => ?_, ev, fun k kn hk hb => ?_⟩
  · have := s.i1 k; omega
  · have := s.i1 k; omega
  · have dk : D k = N.r k := by
      cases hb' : N.b k with
      | none => exact s.i2 k hb'
      | some h =>
        have kg : k ∈ N.g h := (ok.gm h k).mpr ⟨kn, hb'⟩
        rcases hb h hb' with z | ⟨j, hj, hij, hf⟩
        · exact z k kg
        · exact s.i3 h k j kg hj hij (by have := s.i1 j; omega)
    have rk : 0 < R k := by omega
    cases he : N.e k with
    | none => have := s.i4 k he; omega
    | some h =>
      have kt : k ∈ N.t h := (ok.tm h k).mpr ⟨kn, he⟩
      obtain ⟨a1, a2⟩ := s.i6 h k kt rk
      refine ⟨h, rfl, a1, fun j hj hij => ?_⟩
      have z := sm_zero (l := N.t h) (g := fun j => if (N.t h).idxOf k < (N.t h).idxOf j then D j - R j else 0) (fun j _ => by
        have := s.i1 j
        split <;> omega) (by have := ev h; show worse N D R h k ≤ 0; omega) j hj
      rw [if_pos hij] at z
      exact z
end Calm

/-! two calm streams with their lots: at each house one of both is better, and what is better for the one is worse for the other one -/
namespace Calm
theorem sm_add {l : List Nat} {g g' : Nat → Int} : sm l (fun k => g k + g' k) = sm l g + sm l g' := by
  induction l with
  | nil => rfl
  | cons x xs ih => rw [sm_cons, sm_cons, sm_cons, ih]; omega
theorem sm_sub {l : List Nat} {g g' : Nat → Int} : sm l (fun k => g k - g' k) = sm l g - sm l g' := by
  induction l with
  | nil => rfl
  | cons x xs ih => rw [sm_cons, sm_cons, sm_cons, ih]; omega
theorem sm_nul {l : List Nat} {g : Nat → Int} (h : ∀ k ∈ l, g k = 0) : sm l g = 0 := by
  induction l with
  | nil => rfl
  | cons x xs ih =>
    rw [sm_cons, h x (List.mem_cons_self ..), ih fun k hk => h k (List.mem_cons_of_mem _ hk)]; rfl
theorem sm_perm {l m : List Nat} {g : Nat → Int} (p : l.Perm m) : sm l g = sm m g := by
  induction p with
  | nil => rfl
  | cons x _ ih => rw [sm_cons, sm_cons, ih]
  | swap x y l => rw [sm_cons, sm_cons, sm_cons, sm_cons]; omega
  | trans _ _ h1 h2 => rw [h1, h2]
theorem sm_swap {l m : List Nat} {G : Nat → Nat → Int} : sm l (fun h => sm m fun k => G h k) = sm m fun k => sm l fun h => G h k := by
  induction l with
  | nil => exact (sm_nul fun _ _ => rfl).symm
  | cons x xs ih => rw [sm_cons, ih, ← sm_add]; rfl
theorem sm_single {l : List Nat} {g : Nat → Int} {a : Nat} (nd : l.Nodup) (ha : a ∈ l) (h : ∀ k ∈ l, k ≠ a → g k = 0) : sm l g = g a := by
  induction l with
  | nil => exact nomatch ha
  | cons x xs ih =>
    obtain ⟨n1, n2⟩ := List.nodup_cons.mp nd
    rw [sm_cons]
    by_cases e : x = a
    · subst e
      rw [sm_nul fun k hk => h k (List.mem_cons_of_mem _ hk) fun z => n1 (z ▸ hk)]
      omega
    · rw [h x (List.mem_cons_self ..) e, ih n2 ((List.mem_cons.mp ha).resolve_left fun z => e z.symm) fun k hk => h k (List.mem_cons_of_mem _ hk)]
      omega
theorem sm_filter {l : List Nat} {p : Nat → Bool} {g : Nat → Int} : sm (l.filter p) g = sm l fun k => if p k = true then g k else 0 := by
  induction l with
  | nil => rfl
  | cons x xs ih =>
    rw [List.filter_cons, sm_cons]
    by_cases c : p x = true
    · rw [if_pos c, if_pos c, sm_cons, ih]
    · rw [if_neg c, if_neg c, ih]; omega
variable {N : Net}
open Classical in
/-- a sum over the roads of one side, house by house -/
theorem sides {n hs : Nat} {b : Nat → Option Nat} {l : Nat → List Nat} (lm : ∀ h k, k ∈ l h ↔ k < n ∧ b k = some h) (ln : ∀ h, (l h).Nodup) (bh : ∀ k h, k < n → b k = some h → h < hs) (P : Nat → Prop) (Q : Nat → Prop) (hQ : ∀ k, Q k ↔ ∃ h, b k = some h ∧ P h) (F : Nat → Int) :
    sm (List.range n) (fun k => if Q k then F k else 0) = sm (List.range hs) (fun h => if P h then sm (l h) F else 0) := by
  have e1 : ∀ h, sm (l h) F = sm (List.range n) (fun k => if b k = some h then F k else 0) := fun h => by
    have p : (l h).Perm ((List.range n).filter fun k => decide (b k = some h)) := (List.perm_ext_iff_of_nodup (ln h) (List.nodup_range.filter _)).mpr fun k => by
      rw [lm, List.mem_filter, List.mem_range, decide_eq_true_iff]
    rw [sm_perm p, sm_filter]
    exact sm_same fun k _ => by simp
  have e2 : sm (List.range hs) (fun h => if P h then sm (l h) F else 0) = sm (List.range hs) (fun h => sm (List.range n) fun k => if P h ∧ b k = some h then F k else 0) := sm_same fun h _ => by
    by_cases c : P h
    · rw [if_pos c, e1]
      exact sm_same fun k _ => by simp [c]
    · rw [if_neg c]
      exact (sm_nul fun k _ => by simp [c]).symm
  rw [e2, sm_swap]
  apply sm_same
  intro k hk
  have hk := List.mem_range.mp hk
  cases hb : b k with
  | none =>
    rw [if_neg (by rw [hQ]; rintro ⟨h, e, _⟩; rw [hb] at e; exact nomatch e)]
    exact (sm_nul fun h _ => by simp).symm
  | some h0 =>
    rw [sm_single List.nodup_range (List.mem_range.mpr (bh k h0 hk hb)) (fun h _ hne => if_neg fun z => hne (Option.some.inj z.2).symm)]
    by_cases c : P h0
    · rw [if_pos ((hQ k).mpr ⟨h0, hb, c⟩), if_pos ⟨c, rfl⟩]
    · rw [if_neg (by rw [hQ]; rintro ⟨h, e, ph⟩; rw [hb] at e; exact c (Option.some.inj e ▸ ph)), if_neg fun z => c z.1]
def thr (N : Net) (f : Nat → Int) (h : Nat) : Int := sm (N.g h) f
/-- the second one is better at the house's giving side -/
def Up (N : Net) (f : Nat → Int) (S : Nat → Prop) (g : Nat → Int) (T : Nat → Prop) (h : Nat) : Prop :=
  (∃ k ∈ N.g h, g k < f k ∧ ¬ T h ∧ ∀ j ∈ N.g h, (N.g h).idxOf k < (N.g h).idxOf j → g j = 0) ∨ (S h ∧ (¬ T h ∨ thr N f h < thr N g h))
/-- the second one is better at the house's taking side -/
def Vp (N : Net) (f : Nat → Int) (S : Nat → Prop) (g : Nat → Int) (T : Nat → Prop) (h : Nat) : Prop :=
  (∃ k ∈ N.t h, g k < f k ∧ T h ∧ ∀ j ∈ N.t h, (N.t h).idxOf k < (N.t h).idxOf j → g j = 0) ∨ (¬ S h ∧ (T h ∨ thr N f h < thr N g h))
def UU (N : Net) (f : Nat → Int) (S : Nat → Prop) (g : Nat → Int) (T : Nat → Prop) (k : Nat) : Prop := ∃ h, N.b k = some h ∧ Up N f S g T h
def VV (N : Net) (f : Nat → Int) (S : Nat → Prop) (g : Nat → Int) (T : Nat → Prop) (k : Nat) : Prop := ∃ h, N.e k = some h ∧ Vp N f S g T h
section
variable {f g : Nat → Int} {S T : Nat → Prop}
theorem idx_inj {l : List Nat} {a b : Nat} (ha : a ∈ l) (h : l.idxOf a = l.idxOf b) : a = b := by
  have h1 := List.idxOf_lt_length_iff.mpr ha
  have e1 := List.getElem_idxOf h1
  have h2 : l.idxOf b < l.length := h ▸ h1
  have e2 := List.getElem_idxOf h2
  rw [← e1, ← e2]
  simp only [h]
theorem both_ex {l : List Nat} {k j : Nat} (hk : k ∈ l) (hj : j ∈ l) (f0 : ∀ k, 0 ≤ f k) (g0 : ∀ k, 0 ≤ g k) (h1 : g k < f k) (h2 : f j < g j) (z1 : ∀ j ∈ l, l.idxOf k < l.idxOf j → g j = 0) (z2 : ∀ k ∈ l, l.idxOf j < l.idxOf k → f k = 0) : False := by
  rcases Nat.lt_trichotomy (l.idxOf k) (l.idxOf j) with c | c | c
  · have := z1 j hj c; have := f0 j; omega
  · have := idx_inj hk c; subst this; omega
  · have := z2 k hk c; have := g0 k; omega
theorem ex_U (rf : Rests N f S) (rg : Rests N g T) {h : Nat} (a : Up N f S g T h) (b : Up N g T f S h) : False := by
  rcases a with ⟨k, hk, h1, nT, z1⟩ | ⟨s, h1⟩ <;> rcases b with ⟨j, hj, h2, nS, z2⟩ | ⟨t, h2⟩
  · exact both_ex hk hj rf.lo rg.lo h1 h2 z1 z2
  · exact nT t
  · exact nS s
  · rcases h1 with h1 | h1
    · exact h1 t
    · rcases h2 with h2 | h2
      · exact h2 s
      · omega
theorem ex_V (rf : Rests N f S) (rg : Rests N g T) {h : Nat} (a : Vp N f S g T h) (b : Vp N g T f S h) : False := by
  rcases a with ⟨k, hk, h1, tT, z1⟩ | ⟨s, h1⟩ <;> rcases b with ⟨j, hj, h2, sS, z2⟩ | ⟨t, h2⟩
  · exact both_ex hk hj rf.lo rg.lo h1 h2 z1 z2
  · exact t tT
  · exact s sS
  · rcases h1 with h1 | h1
    · exact t h1
    · rcases h2 with h2 | h2
      · exact s h2
      · omega
theorem ex_UU (rf : Rests N f S) (rg : Rests N g T) {k : Nat} (a : UU N f S g T k) (b : UU N g T f S k) : False := by
  obtain ⟨h, e, a⟩ := a
  obtain ⟨h', e', b⟩ := b
  rw [e] at e'
  have := Option.some.inj e'
  subst this
  exact ex_U rf rg a b
theorem ex_VV (rf : Rests N f S) (rg : Rests N g T) {k : Nat} (a : VV N f S g T k) (b : VV N g T f S k) : False := by
  obtain ⟨h, e, a⟩ := a
  obtain ⟨h', e', b⟩ := b
  rw [e] at e'
  have := Option.some.inj e'
  subst this
  exact ex_V rf rg a b
/-- where the first bears more on a road, one of its houses tells why the second one bears no more -/
theorem why (ok : N.Ok) (rf : Rests N f S) (rg : Rests N g T) {k : Nat} (kn : k < N.n) (h : g k < f k) :
    (∃ h, N.b k = some h ∧ ¬ T h ∧ ∀ j ∈ N.g h, (N.g h).idxOf k < (N.g h).idxOf j → g j = 0) ∨ (∃ h, N.e k = some h ∧ T h ∧ ∀ j ∈ N.t h, (N.t h).idxOf k < (N.t h).idxOf j → g j = 0) := by
  by_cases c : ∀ h, N.b k = some h → T h ∨ ∃ j ∈ N.g h, (N.g h).idxOf k < (N.g h).idxOf j ∧ 0 < g j
  · exact .inr (rg.calm k kn (by have := rf.hi k; omega) c)
  · left
    apply Classical.byContradiction
    intro z
    apply c
    intro h hb
    apply Classical.byContradiction
    intro z'
    refine z ⟨h, hb, fun t => z' (.inl t), fun j hj hij => ?_⟩
    have := rg.lo j
    apply Classical.byContradiction
    intro z''
    exact z' (.inr ⟨j, hj, hij, by omega⟩)
theorem expl (ok : N.Ok) (rf : Rests N f S) (rg : Rests N g T) {k : Nat} (kn : k < N.n) (h : g k < f k) : UU N f S g T k ∨ VV N f S g T k := by
  rcases why ok rf rg kn h with ⟨h', e, t, z⟩ | ⟨h', e, t, z⟩
  · exact .inl ⟨h', e, .inl ⟨k, (ok.gm h' k).mpr ⟨kn, e⟩, h, t, z⟩⟩
  · exact .inr ⟨h', e, .inl ⟨k, (ok.tm h' k).mpr ⟨kn, e⟩, h, t, z⟩⟩
open Classical in
theorem half (ok : N.Ok) (rf : Rests N f S) (rg : Rests N g T) :
    (∀ k, k < N.n → f k ≠ g k → (UU N f S g T k ↔ VV N g T f S k)) ∧ (∀ h, h < N.hs → thr N f h ≠ thr N g h → (Up N f S g T h ↔ Vp N g T f S h)) := by
  have s1 := sides ok.gm ok.gn ok.bh (Up N f S g T) (UU N f S g T) (fun _ => Iff.rfl) (fun k => f k - g k)
  have s2 := sides ok.tm ok.tn ok.eh (Vp N g T f S) (VV N g T f S) (fun _ => Iff.rfl) (fun k => f k - g k)
  have a1 : ∀ h, sm (N.g h) (fun k => f k - g k) = thr N f h - thr N g h := fun h => sm_sub
  have a2 : ∀ h, sm (N.t h) (fun k => f k - g k) = thr N f h - thr N g h := fun h => by
    rw [sm_sub, ← rf.even, ← rg.even]; rfl
  simp only [a1] at s1
  simp only [a2] at s2
  -- the parts
  have p1 : ∀ k ∈ List.range N.n, 0 ≤ (if UU N f S g T k then f k - g k else 0) - (if VV N g T f S k then f k - g k else 0) := fun k hk => by
    have hk := List.mem_range.mp hk
    by_cases cu : UU N f S g T k <;> by_cases cv : VV N g T f S k
    · rw [if_pos cu, if_pos cv]; omega
    · rw [if_pos cu, if_neg cv]
      apply Classical.byContradiction
      intro z
      rcases expl ok rg rf hk (by omega) with y | y
      · exact ex_UU rf rg cu y
      · exact cv y
    · rw [if_neg cu, if_pos cv]
      apply Classical.byContradiction
      intro z
      rcases expl ok rf rg hk (by omega) with y | y
      · exact cu y
      · exact ex_VV rf rg y cv
    · rw [if_neg cu, if_neg cv]; omega
  have p2 : ∀ h ∈ List.range N.hs, 0 ≤ (if Vp N g T f S h then thr N f h - thr N g h else 0) - (if Up N f S g T h then thr N f h - thr N g h else 0) := fun h _ => by
    by_cases cu : Up N f S g T h <;> by_cases cv : Vp N g T f S h
    · rw [if_pos cu, if_pos cv]; omega
    · rw [if_neg cv, if_pos cu]
      apply Classical.byContradiction
      intro z
      by_cases s : S h <;> by_cases t : T h
      · exact ex_U rf rg cu (.inr ⟨t, .inr (by omega)⟩)
      · exact cv (.inr ⟨t, .inl s⟩)
      · exact ex_U rf rg cu (.inr ⟨t, .inl s⟩)
      · exact cv (.inr ⟨t, .inr (by omega)⟩)
    · rw [if_pos cv, if_neg cu]
      apply Classical.byContradiction
      intro z
      by_cases s : S h <;> by_cases t : T h
      · exact cu (.inr ⟨s, .inr (by omega)⟩)
      · exact cu (.inr ⟨s, .inl t⟩)
      · exact ex_V rf rg (.inr ⟨s, .inl t⟩) cv
      · exact ex_V rf rg (.inr ⟨s, .inr (by omega)⟩) cv
    · rw [if_neg cv, if_neg cu]; omega
  have t1 := sm_sub (l := List.range N.n) (g := fun k => if UU N f S g T k then f k - g k else 0) (g' := fun k => if VV N g T f S k then f k - g k else 0)
  have t2 := sm_sub (l := List.range N.hs) (g := fun h => if Vp N g T f S h then thr N f h - thr N g h else 0) (g' := fun h => if Up N f S g T h then thr N f h - thr N g h else 0)
  have n1 := sm_nn p1
  have n2 := sm_nn p2
  have z1 := sm_zero p1 (by omega)
  have z2 := sm_zero p2 (by omega)
  constructor
  · intro k hk hne
    have := z1 k (List.mem_range.mpr hk)
    constructor
    · intro cu
      apply Classical.byContradiction
      intro cv
      rw [if_pos cu, if_neg cv] at this
      omega
    · intro cv
      apply Classical.byContradiction
      intro cu
      rw [if_neg cu, if_pos cv] at this
      omega
  · intro h hh hne
    have := z2 h (List.mem_range.mpr hh)
    constructor
    · intro cu
      apply Classical.byContradiction
      intro cv
      rw [if_pos cu, if_neg cv] at this
      omega
    · intro cv
      apply Classical.byContradiction
      intro cu
      rw [if_neg cu, if_pos cv] at this
      omega
/-- where both bear otherwise, the houses of the road tell which is better, the one for the other one's worse -/
theorem differ (ok : N.Ok) (rf : Rests N f S) (rg : Rests N g T) {k : Nat} (kn : k < N.n) (h : f k ≠ g k) :
    (UU N f S g T k ∧ VV N g T f S k) ∨ (UU N g T f S k ∧ VV N f S g T k) := by
  have h1 := (half ok rf rg).1 k kn h
  have h2 := (half ok rg rf).1 k kn (Ne.symm h)
  have : UU N f S g T k ∨ VV N f S g T k ∨ UU N g T f S k ∨ VV N g T f S k := by
    rcases Int.lt_or_lt_of_ne h with c | c
    · rcases expl ok rg rf kn c with y | y
      · exact .inr (.inr (.inl y))
      · exact .inr (.inr (.inr y))
    · rcases expl ok rf rg kn c with y | y
      · exact .inl y
      · exact .inr (.inl y)
  rcases this with y | y | y | y
  · exact .inl ⟨y, h1.mp y⟩
  · exact .inr ⟨h2.mpr y, y⟩
  · exact .inr ⟨y, h2.mp y⟩
  · exact .inl ⟨h1.mpr y, y⟩
/-- doors bear alike -/
theorem doors_alike (ok : N.Ok) (rf : Rests N f S) (rg : Rests N g T) {k : Nat} (kn : k < N.n) (h : N.b k = none ∨ N.e k = none) : f k = g k := by
  apply Classical.byContradiction
  intro z
  have : (∃ h, N.b k = some h) ∧ ∃ h, N.e k = some h := by
    rcases differ ok rf rg kn z with ⟨⟨a, b, _⟩, ⟨c, d, _⟩⟩ | ⟨⟨a, b, _⟩, ⟨c, d, _⟩⟩
    · exact ⟨⟨a, b⟩, ⟨c, d⟩⟩
    · exact ⟨⟨a, b⟩, ⟨c, d⟩⟩
  obtain ⟨⟨a, b⟩, ⟨c, d⟩⟩ := this
  rcases h with h | h
  · rw [h] at b; exact nomatch b
  · rw [h] at d; exact nomatch d
/-- at a house of both lots the one or the other bears no less on each road that begins there -/
theorem no_less_g (ok : N.Ok) (rf : Rests N f S) (rg : Rests N g T) {h k j : Nat} (s : S h) (t : T h) (hk : k ∈ N.g h) (hj : j ∈ N.g h) (h1 : g k < f k) (h2 : f j < g j) : False := by
  obtain ⟨kn, kb⟩ := (ok.gm h k).mp hk
  obtain ⟨jn, jb⟩ := (ok.gm h j).mp hj
  have a : Up N g T f S h := by
    rcases why ok rf rg kn h1 with ⟨h', e, t', _⟩ | ⟨h', e, t', z⟩
    · rw [kb] at e; exact absurd t (Option.some.inj e ▸ t')
    · have : VV N f S g T k := ⟨h', e, .inl ⟨k, (ok.tm h' k).mpr ⟨kn, e⟩, h1, t', z⟩⟩
      obtain ⟨h'', e', u⟩ := ((half ok rg rf).1 k kn (by omega)).mpr this
      rw [kb] at e'
      exact Option.some.inj e' ▸ u
  have b : Up N f S g T h := by
    rcases why ok rg rf jn h2 with ⟨h', e, t', _⟩ | ⟨h', e, t', z⟩
    · rw [jb] at e; exact absurd s (Option.some.inj e ▸ t')
    · have : VV N g T f S j := ⟨h', e, .inl ⟨j, (ok.tm h' j).mpr ⟨jn, e⟩, h2, t', z⟩⟩
      obtain ⟨h'', e', u⟩ := ((half ok rf rg).1 j jn (by omega)).mpr this
      rw [jb] at e'
      exact Option.some.inj e' ▸ u
  exact ex_U rf rg b a
end
end Calm

namespace Calm
/-! which of two lists comes first -/
def lx : List Int → List Int → Bool
  | [], [] => false
  | [], _ :: _ => true
  | _ :: _, [] => false
  | a :: l, b :: m => if a = b then lx l m else decide (a < b)
theorem lx_irr : ∀ l, lx l l = false
  | [] => rfl
  | a :: l => by rw [lx, if_pos rfl]; exact lx_irr l
theorem lx_asym : ∀ {l m}, lx l m = true → lx m l = false
  | [], [], _ => rfl
  | [], _ :: _, _ => rfl
  | _ :: _, [], h => nomatch h
  | a :: l, b :: m, h => by
    rw [lx] at h ⊢
    by_cases c : a = b
    · subst c
      rw [if_pos rfl] at h ⊢
      exact lx_asym h
    · rw [if_neg c, decide_eq_true_iff] at h
      rw [if_neg fun z => c z.symm, decide_eq_false_iff_not]
      omega
theorem lx_tri : ∀ l m, lx l m = false → lx m l = false → l = m
  | [], [], _, _ => rfl
  | [], _ :: _, h, _ => nomatch h
  | _ :: _, [], _, h => nomatch h
  | a :: l, b :: m, h, h' => by
    rw [lx] at h h'
    by_cases c : a = b
    · subst c
      rw [if_pos rfl] at h h'
      rw [lx_tri l m h h']
    · rw [if_neg c, decide_eq_false_iff_not] at h
      rw [if_neg fun z => c z.symm, decide_eq_false_iff_not] at h'
      omega
theorem lx_trans : ∀ {l m n}, lx l m = true → lx m n = true → lx l n = true
  | [], [], _, h, _ => nomatch h
  | [], _ :: _, [], _, h => nomatch h
  | [], _ :: _, _ :: _, _, _ => rfl
  | _ :: _, [], _, h, _ => nomatch h
  | _ :: _, _ :: _, [], _, h => nomatch h
  | a :: l, b :: m, c :: n, h, h' => by
    rw [lx] at h h' ⊢
    by_cases e : a = b
    · subst e
      rw [if_pos rfl] at h
      by_cases e' : a = c
      · subst e'
        rw [if_pos rfl] at h' ⊢
        exact lx_trans h h'
      · rw [if_neg e'] at h' ⊢
        exact h'
    · rw [if_neg e, decide_eq_true_iff] at h
      by_cases e' : b = c
      · subst e'
        rw [if_neg e, decide_eq_true_iff]
        exact h
      · rw [if_neg e', decide_eq_true_iff] at h'
        rw [if_neg (by omega), decide_eq_true_iff]
        omega
theorem lx_at {f g : Nat → Int} : ∀ {l : List Nat} {k : Nat}, k ∈ l → f k < g k → (∀ j ∈ l, l.idxOf j < l.idxOf k → f j = g j) → lx (l.map f) (l.map g) = true
  | x :: xs, k, hk, h1, h2 => by
    rw [List.map_cons, List.map_cons, lx]
    by_cases e : x = k
    · subst e
      rw [if_neg (by omega), decide_eq_true_iff]
      exact h1
    · have i1 : ∀ j, j ≠ x → (x :: xs).idxOf j = xs.idxOf j + 1 := fun j hj => by
        rw [List.idxOf_cons]
        have : (x == j) = false := by simpa using fun z : x = j => hj z.symm
        simp [this]
      have i0 : (x :: xs).idxOf x = 0 := by simp
      have ek := i1 k fun z => e z.symm
      have ex := h2 x (List.mem_cons_self ..) (by omega)
      rw [if_pos ex]
      refine lx_at ((List.mem_cons.mp hk).resolve_left fun z => e z.symm) h1 fun j hj hl => ?_
      by_cases c : j = x
      · rw [c]; exact ex
      · exact h2 j (List.mem_cons_of_mem _ hj) (by rw [i1 j c, ek]; omega)
variable {N : Net} {f g : Nat → Int} {S T : Nat → Prop}
theorem sm_lt {l : List Nat} (h : ∀ k ∈ l, g k ≤ f k) {j : Nat} (hj : j ∈ l) (hl : g j < f j) : sm l g < sm l f := by
  apply Classical.byContradiction
  intro z
  have := sm_zero (l := l) (g := fun k => f k - g k) (fun k hk => by have := h k hk; omega) (by rw [sm_sub]; omega) j hj
  omega
open Classical in
/-- what a house goes by when it likes one of two pairs -/
noncomputable def key (N : Net) (f : Nat → Int) (S : Nat → Prop) (h : Nat) : List Int := if S h then 0 :: 0 :: (N.g h).map f else 1 :: -(sm (N.t h) f) :: (N.g h).map f
theorem Up.to (h : Nat) {k : Nat} (ok : N.Ok) (hk : k ∈ N.g h) : UU N f S g T k ↔ Up N f S g T h := by
  obtain ⟨_, kb⟩ := (ok.gm h k).mp hk
  constructor
  · rintro ⟨h', e, u⟩
    rw [kb] at e
    exact Option.some.inj e ▸ u
  · exact fun u => ⟨h, kb, u⟩
theorem Vp.to (h : Nat) {k : Nat} (ok : N.Ok) (hk : k ∈ N.t h) : VV N f S g T k ↔ Vp N f S g T h := by
  obtain ⟨_, kb⟩ := (ok.tm h k).mp hk
  constructor
  · rintro ⟨h', e, u⟩
    rw [kb] at e
    exact Option.some.inj e ▸ u
  · exact fun u => ⟨h, kb, u⟩
theorem up_lex (ok : N.Ok) (rf : Rests N f S) (rg : Rests N g T) {h : Nat} (hh : h < N.hs) (u : Up N f S g T h) : lx (key N f S h) (key N g T h) = true := by
  have lst : S h → ¬ T h → lx (key N f S h) (key N g T h) = true := fun s t => by
    unfold key
    rw [if_pos s, if_neg t]
    rfl
  have u0 := u
  have first : ∀ k ∈ N.g h, f k ≠ g k → ∃ j ∈ N.g h, f j ≠ g j ∧ ∀ i ∈ N.g h, (N.g h).idxOf i < (N.g h).idxOf j → f i = g i := fun k hk hne => by
    obtain ⟨j, hj, hp, hl⟩ := least_of (N.g h) (fun j => f j ≠ g j) ⟨k, hk, hne⟩
    exact ⟨j, hj, hp, fun i hi hij => Classical.byContradiction fun z => hl i hi hij z⟩
  rcases u with ⟨k, hk, h1, nT, z1⟩ | ⟨s, h1⟩
  · by_cases s : S h
    · exact lst s nT
    unfold key
    rw [if_neg s, if_neg nT, ← rf.even, ← rg.even, lx, if_pos rfl, lx]
    by_cases c : thr N f h = thr N g h
    · have c' : -sm (N.g h) f = -sm (N.g h) g := by have : sm (N.g h) f = sm (N.g h) g := c; omega
      rw [if_pos c']
      obtain ⟨j, hj, hne, hl⟩ := first k hk (by omega)
      refine lx_at hj ?_ hl
      apply Classical.byContradiction
      intro z
      have gj : g j < f j := by omega
      obtain ⟨jn, jb⟩ := (ok.gm h j).mp hj
      have vv := ((half ok rf rg).1 j jn hne).mp ((Up.to h ok hj).mpr u0)
      have van : ∀ i ∈ N.g h, (N.g h).idxOf j < (N.g h).idxOf i → g i = 0 := by
        rcases why ok rf rg jn gj with ⟨h', e, t, z⟩ | ⟨h', e, t, z⟩
        · rw [jb] at e
          have := Option.some.inj e
          subst this
          exact z
        · exact absurd vv fun vv => ex_VV rf rg ⟨h', e, .inl ⟨j, (ok.tm h' j).mpr ⟨jn, e⟩, gj, t, z⟩⟩ vv
      have := sm_lt (l := N.g h) (f := f) (g := g) (fun i hi => by
        rcases Nat.lt_trichotomy ((N.g h).idxOf i) ((N.g h).idxOf j) with q | q | q
        · have := hl i hi q; omega
        · have := idx_inj hi q; subst this; omega
        · have := van i hi q; have := rf.lo i; omega) hj gj
      have c : sm (N.g h) f = sm (N.g h) g := c
      omega
    · have cc : ¬ sm (N.g h) f = sm (N.g h) g := c
      rw [if_neg (by omega), decide_eq_true_iff]
      apply Classical.byContradiction
      intro z
      have vp := ((half ok rf rg).2 h hh c).mp u0
      exact ex_V rf rg (.inr ⟨s, .inr (by show sm (N.g h) f < sm (N.g h) g; omega)⟩) vp
  · by_cases t : T h
    · have lt : sm (N.g h) f < sm (N.g h) g := h1.resolve_left fun z => z t
      unfold key
      rw [if_pos s, if_pos t, lx, if_pos rfl, lx, if_pos rfl]
      have ex : ∃ k ∈ N.g h, f k ≠ g k := by
        apply Classical.byContradiction
        intro z
        have := sm_same (l := N.g h) (g := f) (g' := g) fun k hk => Classical.byContradiction fun y => z ⟨k, hk, fun e => y e.symm⟩
        omega
      obtain ⟨k, hk, hne⟩ := ex
      obtain ⟨j, hj, hne, hl⟩ := first k hk hne
      refine lx_at hj ?_ hl
      apply Classical.byContradiction
      intro z
      have := sm_le (l := N.g h) (g := g) (g' := f) fun i hi => Classical.byContradiction fun y => no_less_g ok rf rg s t hj hi (by omega) (by omega)
      omega
    · exact lst s t
theorem same_key (ok : N.Ok) (rf : Rests N f S) (rg : Rests N g T) {h : Nat} (n1 : ¬ Up N f S g T h) (n2 : ¬ Up N g T f S h) : (S h ↔ T h) ∧ (∀ k ∈ N.g h, f k = g k) ∧ key N f S h = key N g T h := by
  have e1 : S h ↔ T h := ⟨fun s => Classical.byContradiction fun t => n1 (.inr ⟨s, .inl t⟩), fun t => Classical.byContradiction fun s => n2 (.inr ⟨t, .inl s⟩)⟩
  have e2 : ∀ k ∈ N.g h, f k = g k := fun k hk => Classical.byContradiction fun z => by
    rcases differ ok rf rg ((ok.gm h k).mp hk).1 z with ⟨u, _⟩ | ⟨u, _⟩
    · exact n1 ((Up.to h ok hk).mp u)
    · exact n2 ((Up.to h ok hk).mp u)
  refine ⟨e1, e2, ?_⟩
  have e3 : (N.g h).map f = (N.g h).map g := List.map_congr_left e2
  have e4 : sm (N.t h) f = sm (N.t h) g := by rw [← rf.even, ← rg.even]; exact sm_same fun k hk => e2 k hk
  unfold key
  by_cases s : S h
  · rw [if_pos s, if_pos (e1.mp s), e3]
  · rw [if_neg s, if_neg fun t => s (e1.mpr t), e3, e4]
theorem up_iff (ok : N.Ok) (rf : Rests N f S) (rg : Rests N g T) {h : Nat} (hh : h < N.hs) : lx (key N f S h) (key N g T h) = true ↔ Up N f S g T h := by
  refine ⟨fun l => Classical.byContradiction fun n1 => ?_, up_lex ok rf rg hh⟩
  by_cases n2 : Up N g T f S h
  · have := lx_asym (up_lex ok rg rf hh n2)
    rw [this] at l
    exact nomatch l
  · rw [(same_key ok rf rg n1 n2).2.2, lx_irr] at l
    exact nomatch l
/-! joined and met -/
open Classical in
noncomputable def jn (N : Net) (f : Nat → Int) (S : Nat → Prop) (g : Nat → Int) (T : Nat → Prop) (k : Nat) : Int := if UU N f S g T k then g k else f k
open Classical in
noncomputable def mt (N : Net) (f : Nat → Int) (S : Nat → Prop) (g : Nat → Int) (T : Nat → Prop) (k : Nat) : Int := if UU N f S g T k then f k else g k
theorem jn_mt {k : Nat} : mt N f S g T k = f k + g k - jn N f S g T k := by
  unfold jn mt
  split <;> omega
open Classical in
theorem jn_in (ok : N.Ok) (rf : Rests N f S) (rg : Rests N g T) {h : Nat} (hh : h < N.hs) : sm (N.t h) (jn N f S g T) = if Up N f S g T h then sm (N.t h) g else sm (N.t h) f := by
  have e : sm (N.t h) (jn N f S g T) = if Vp N g T f S h then sm (N.t h) g else sm (N.t h) f := by
    by_cases c : Vp N g T f S h
    · rw [if_pos c]
      refine sm_same fun k hk => ?_
      unfold jn
      by_cases d : f k = g k
      · rw [d, ite_self]
      · rw [if_pos (((half ok rf rg).1 k ((ok.tm h k).mp hk).1 d).mpr ((Vp.to h ok hk).mpr c))]
    · rw [if_neg c]
      refine sm_same fun k hk => ?_
      unfold jn
      by_cases d : f k = g k
      · rw [d, ite_self]
      · rw [if_neg fun u => c ((Vp.to h ok hk).mp (((half ok rf rg).1 k ((ok.tm h k).mp hk).1 d).mp u))]
  rw [e]
  by_cases c : thr N f h = thr N g h
  · have : sm (N.t h) f = sm (N.t h) g := by rw [← rf.even, ← rg.even]; exact c
    rw [this, ite_self, ite_self]
  · have := (half ok rf rg).2 h hh c
    by_cases u : Up N f S g T h
    · rw [if_pos u, if_pos (this.mp u)]
    · rw [if_neg u, if_neg fun v => u (this.mpr v)]
open Classical in
theorem mt_in (ok : N.Ok) (rf : Rests N f S) (rg : Rests N g T) {h : Nat} (hh : h < N.hs) : sm (N.t h) (mt N f S g T) = if Up N f S g T h then sm (N.t h) f else sm (N.t h) g := by
  have e : sm (N.t h) (mt N f S g T) = sm (N.t h) f + sm (N.t h) g - sm (N.t h) (jn N f S g T) := by
    rw [← sm_add, ← sm_sub]
    exact sm_same fun k _ => jn_mt
  rw [e, jn_in ok rf rg hh]
  split <;> omega
theorem up_lots (rf : Rests N f S) (rg : Rests N g T) {h : Nat} : (Up N f S g T h → T h → S h) ∧ (¬ Up N f S g T h → S h → T h) :=
  ⟨fun u t => Classical.byContradiction fun s => ex_U rf rg u (.inr ⟨t, .inl s⟩), fun n s => Classical.byContradiction fun t => n (.inr ⟨s, .inl t⟩)⟩
open Classical in
theorem key_jn (ok : N.Ok) (rf : Rests N f S) (rg : Rests N g T) {h : Nat} (hh : h < N.hs) : key N (jn N f S g T) (fun h => S h ∧ T h) h = if Up N f S g T h then key N g T h else key N f S h := by
  have hin := jn_in ok rf rg hh
  obtain ⟨l1, l2⟩ := up_lots (h := h) rf rg
  by_cases u : Up N f S g T h
  · rw [if_pos u] at hin ⊢
    have e : (N.g h).map (jn N f S g T) = (N.g h).map g := List.map_congr_left fun k hk => if_pos ((Up.to h ok hk).mpr u)
    unfold key
    rw [e, hin]
    by_cases t : T h
    · rw [if_pos ⟨l1 u t, t⟩, if_pos t]
    · rw [if_neg fun z => t z.2, if_neg t]
  · rw [if_neg u] at hin ⊢
    have e : (N.g h).map (jn N f S g T) = (N.g h).map f := List.map_congr_left fun k hk => if_neg fun z => u ((Up.to h ok hk).mp z)
    unfold key
    rw [e, hin]
    by_cases s : S h
    · rw [if_pos ⟨s, l2 u s⟩, if_pos s]
    · rw [if_neg fun z => s z.1, if_neg s]
open Classical in
theorem key_mt (ok : N.Ok) (rf : Rests N f S) (rg : Rests N g T) {h : Nat} (hh : h < N.hs) : key N (mt N f S g T) (fun h => S h ∨ T h) h = if Up N f S g T h then key N f S h else key N g T h := by
  have hin := mt_in ok rf rg hh
  obtain ⟨l1, l2⟩ := up_lots (h := h) rf rg
  by_cases u : Up N f S g T h
  · rw [if_pos u] at hin ⊢
    have e : (N.g h).map (mt N f S g T) = (N.g h).map f := List.map_congr_left fun k hk => if_pos ((Up.to h ok hk).mpr u)
    unfold key
    rw [e, hin]
    by_cases s : S h
    · rw [if_pos (.inl s), if_pos s]
    · rw [if_neg fun z => s (z.elim id (l1 u)), if_neg s]
  · rw [if_neg u] at hin ⊢
    have e : (N.g h).map (mt N f S g T) = (N.g h).map g := List.map_congr_left fun k hk => if_neg fun z => u ((Up.to h ok hk).mp z)
    unfold key
    rw [e, hin]
    by_cases t : T h
    · rw [if_pos (.inr t), if_pos t]
    · rw [if_neg fun z => t (z.elim (l2 u) id), if_neg t]
end Calm

/-! fairs by functions: what a row does to a sharing -/
namespace Fr
open Calm (sm sm_cons sm_le sm_sub sm_add sm_single sm_nn sm_zero sm_pos sm_same sm_lt idx_inj)
theorem sm_one {l : List Nat} {g g' : Nat → Int} {k : Nat} (nd : l.Nodup) (hk : k ∈ l) (h : ∀ j ∈ l, j ≠ k → g' j = g j) : sm l g' = sm l g + (g' k - g k) := by
  have e := sm_single (g := fun j => g' j - g j) nd hk fun j hj hn => by show g' j - g j = 0; rw [h j hj hn]; omega
  rw [sm_sub] at e
  omega
def put (g : Nat → Int) (a : Nat) (c : Int) : Nat → Int := fun j => if j = a then c else g j
theorem put_at {g : Nat → Int} {a : Nat} {c : Int} : put g a c a = c := if_pos rfl
theorem put_ne {g : Nat → Int} {a j : Nat} {c : Int} (h : j ≠ a) : put g a c j = g j := if_neg h
theorem sm_put {l : List Nat} {g : Nat → Int} {a : Nat} {c : Int} (nd : l.Nodup) (ha : a ∈ l) : sm l (put g a c) = sm l g + (c - g a) := by
  rw [sm_one nd ha fun j _ hn => put_ne hn, put_at]
theorem sm_gap {l : List Nat} {g g' : Nat → Int} {a : Nat} (nd : l.Nodup) (ha : a ∈ l) (h : ∀ j ∈ l, g j ≤ g' j) : sm l g + (g' a - g a) ≤ sm l g' := by
  rw [← sm_put nd ha]
  refine sm_le fun j hj => ?_
  by_cases c : j = a
  · rw [c, put_at]; exact Int.le_refl _
  · rw [put_ne c]; exact h j hj
theorem sm_gap2 {l : List Nat} {g g' : Nat → Int} {a b : Nat} (nd : l.Nodup) (ha : a ∈ l) (hb : b ∈ l) (ne : a ≠ b) (h : ∀ j ∈ l, g j ≤ g' j) : sm l g + (g' a - g a) + (g' b - g b) ≤ sm l g' := by
  have := sm_gap (g := put g a (g' a)) (g' := g') nd hb fun j hj => by
    by_cases c : j = a
    · rw [c, put_at]; exact Int.le_refl _
    · rw [put_ne c]; exact h j hj
  rw [sm_put nd ha, put_ne (fun z => ne z.symm)] at this
  exact this
theorem sm_ex {l : List Nat} {g g' : Nat → Int} (h : sm l g < sm l g') : ∃ j ∈ l, g j < g' j := by
  apply Classical.byContradiction
  intro q
  have : sm l g' ≤ sm l g := sm_le fun j hj => by
    apply Classical.byContradiction
    intro q2
    exact q ⟨j, hj, by omega⟩
  omega
structure Side where
  m : Nat → Int
  o : Nat → List Nat
  of : Nat → Nat
structure Mk where
  n : Nat
  r : Nat → Int
  G : Side
  P : Side
structure Side.Ok (n : Nat) (S : Side) : Prop where
  mem : ∀ t, t < n → t ∈ S.o (S.of t)
  back : ∀ h t, t ∈ S.o h → t < n ∧ S.of t = h
  nd : ∀ h, (S.o h).Nodup
structure Mk.Ok (M : Mk) : Prop where
  g : M.G.Ok M.n
  p : M.P.Ok M.n
/-- behind it in the order of its seat -/
def aft (S : Side) (t s : Nat) : Prop := s ∈ S.o (S.of t) ∧ (S.o (S.of t)).idxOf t < (S.o (S.of t)).idxOf s
def less (S : Side) (x : Nat → Int) (t : Nat) : Prop := ∃ s, aft S t s ∧ 0 < x s
def tot (S : Side) (x : Nat → Int) (h : Nat) : Int := sm (S.o h) x
def will (S : Side) (x : Nat → Int) (t : Nat) : Prop := tot S x (S.of t) < S.m (S.of t) ∨ less S x t
structure Sh (M : Mk) (x : Nat → Int) : Prop where
  lo : ∀ t, 0 ≤ x t
  hi : ∀ t, t < M.n → x t ≤ M.r t
  g : ∀ h, tot M.G x h ≤ M.G.m h
  p : ∀ h, tot M.P x h ≤ M.P.m h
def closed (M : Mk) (x : Nat → Int) (t : Nat) : Prop := x t < M.r t → ¬ will M.P x t
def I1 (M : Mk) (x : Nat → Int) : Prop := ∀ t, t < M.n → x t < M.r t → less M.G x t → ¬ will M.P x t
structure Stl (M : Mk) (x : Nat → Int) : Prop where
  sh : Sh M x
  no : ∀ t, t < M.n → x t < M.r t → will M.G x t → will M.P x t → False
def I2 (M : Mk) (x : Nat → Int) : Prop := ∀ z, Stl M z → ∀ t, t < M.n → ¬ will M.P x t → z t ≤ x t
section
variable {M : Mk} {S : Side} {n : Nat} {x y z : Nat → Int} {t s u : Nat}
theorem aft.lt (ok : S.Ok n) (h : aft S t s) : s < n ∧ S.of s = S.of t := ok.back _ _ h.1
theorem aft.trans (ok : S.Ok n) (h : aft S t s) (h2 : aft S s u) : aft S t u := by
  have e := (h.lt ok).2
  unfold aft at h2
  rw [e] at h2
  exact ⟨h2.1, Nat.lt_trans h.2 h2.2⟩
theorem aft.asym (ok : S.Ok n) (h : aft S t s) (h2 : aft S s t) : False := by
  have e := (h.lt ok).2
  unfold aft at h2
  rw [e] at h2
  have := h.2
  omega
theorem aft.ne (h : aft S t s) : t ≠ s := fun e => by
  rw [e] at h
  exact Nat.lt_irrefl _ h.2
theorem aft.tri (ok : S.Ok n) (ht : t < n) (hs : s < n) (e : S.of t = S.of s) : aft S t s ∨ t = s ∨ aft S s t := by
  have h1 := ok.mem t ht
  have h2 := ok.mem s hs
  rcases Nat.lt_trichotomy ((S.o (S.of t)).idxOf t) ((S.o (S.of t)).idxOf s) with q | q | q
  · exact .inl ⟨by rw [e]; exact h2, q⟩
  · exact .inr (.inl (idx_inj h1 q))
  · exact .inr (.inr ⟨by rw [← e]; exact h1, by rw [← e]; exact q⟩)
theorem not_will (ok : S.Ok n) (tle : tot S x (S.of t) ≤ S.m (S.of t)) (lo : ∀ s, 0 ≤ x s) (h : ¬ will S x t) : tot S x (S.of t) = S.m (S.of t) ∧ ∀ s, aft S t s → x s = 0 := by
  refine ⟨?_, fun s hs => ?_⟩
  · apply Classical.byContradiction
    intro q
    exact h (.inl (by omega))
  · have := lo s
    apply Classical.byContradiction
    intro q
    exact h (.inr ⟨s, hs, by omega⟩)
theorem no_will (hf : tot S x (S.of t) = S.m (S.of t)) (h : ∀ s, aft S t s → x s = 0) : ¬ will S x t := by
  rintro (q | ⟨s, hs, q⟩)
  · omega
  · rw [h s hs] at q; omega
/-- where one bears less than the other one at a tie that it wouldn't have more of, it bears more at a better one -/
theorem better_ex (ok : S.Ok n) (hs : s < n) (zm : tot S z (S.of s) = S.m (S.of s)) (z0 : ∀ j, aft S s j → z j = 0) (xl : ∀ j, 0 ≤ x j) (xm : tot S x (S.of s) ≤ S.m (S.of s)) (lt : z s < x s) : ∃ r, r < n ∧ aft S r s ∧ x r < z r := by
  apply Classical.byContradiction
  intro q
  have h : ∀ j ∈ S.o (S.of s), z j ≤ x j := fun j hj => by
    obtain ⟨jn, je⟩ := ok.back _ _ hj
    rcases aft.tri ok jn hs je with a | a | a
    · apply Classical.byContradiction
      intro q2
      exact q ⟨j, jn, a, by omega⟩
    · rw [a]; omega
    · rw [z0 j a]; exact xl j
  have := sm_gap (ok.nd _) (ok.mem s hs) h
  unfold tot at zm xm
  omega
end
/-- what a row does: so many more on some ties, so many less on others -/
structure Row (M : Mk) (x y : Nat → Int) (c : Int) (U D : Nat → Prop) : Prop where
  c1 : 1 ≤ c
  up : ∀ t, U t → y t = x t + c
  dn : ∀ t, D t → y t = x t - c
  st : ∀ t, ¬ U t → ¬ D t → y t = x t
  un : ∀ t, U t → t < M.n
  dl : ∀ t, D t → t < M.n
  ur : ∀ t, U t → x t + c ≤ M.r t
  dr : ∀ t, D t → c ≤ x t
  dis : ∀ t, U t → D t → False
  gu : ∀ t s, U t → U s → M.G.of t = M.G.of s → t = s
  gd : ∀ t s, D t → D s → M.G.of t = M.G.of s → t = s
  pu : ∀ t s, U t → U s → M.P.of t = M.P.of s → t = s
  pd : ∀ t s, D t → D s → M.P.of t = M.P.of s → t = s
  want : ∀ t, U t → will M.P x t ∧ ∀ s, aft M.G s t → s < M.n → closed M x s
  full : ∀ t, D t → tot M.P x (M.P.of t) = M.P.m (M.P.of t) ∧ ∀ s, aft M.P t s → x s = 0
  link : ∀ t, D t → ∃ u, U u ∧ M.P.of u = M.P.of t ∧ aft M.P u t
  ptop : ∀ u, U u → (∃ t, D t ∧ M.P.of t = M.P.of u) ∨ ((∀ t, D t → M.P.of t ≠ M.P.of u) ∧ tot M.P x (M.P.of u) + c ≤ M.P.m (M.P.of u))
  next : ∀ t, D t → (∃ u, U u ∧ M.G.of u = M.G.of t) ∨ ∀ s, s < M.n → M.G.of s = M.G.of t → closed M x s
  gtop : ∀ u, U u → (∃ t, D t ∧ M.G.of t = M.G.of u) ∨ ((∀ t, D t → M.G.of t ≠ M.G.of u) ∧ tot M.G x (M.G.of u) + c ≤ M.G.m (M.G.of u))
section
variable {M : Mk} {S : Side} {n : Nat} {x y z : Nat → Int} {t s u : Nat} {c : Int} {U D : Nat → Prop}
abbrev TotC (S : Side) (x y : Nat → Int) (c : Int) (U D : Nat → Prop) (h : Nat) : Prop := ((∃ u, U u ∧ S.of u = h) → (∃ t, D t ∧ S.of t = h) → tot S y h = tot S x h) ∧ ((∃ u, U u ∧ S.of u = h) → (∀ t, D t → S.of t ≠ h) → tot S y h = tot S x h + c) ∧ ((∀ t, U t → S.of t ≠ h) → (∃ u, D u ∧ S.of u = h) → tot S y h = tot S x h - c) ∧ ((∀ t, U t → S.of t ≠ h) → (∀ t, D t → S.of t ≠ h) → tot S y h = tot S x h)
/-- what a seat has in all behind a row -/
theorem tot_cases (ok : S.Ok n) (c1 : 1 ≤ c) (up : ∀ t, U t → y t = x t + c) (dn : ∀ t, D t → y t = x t - c) (st : ∀ t, ¬ U t → ¬ D t → y t = x t) (un : ∀ t, U t → t < n) (dl : ∀ t, D t → t < n) (dis : ∀ t, U t → D t → False) (gu : ∀ t s, U t → U s → S.of t = S.of s → t = s) (gd : ∀ t s, D t → D s → S.of t = S.of s → t = s) (h : Nat) : TotC S x y c U D h := by
  have nd := ok.nd h
  unfold TotC tot
  refine ⟨?_, ?_, ?_, ?_⟩
  · rintro ⟨u, hu, eu⟩ ⟨d, hd, ed⟩
    have mu : u ∈ S.o h := by rw [← eu]; exact ok.mem u (un u hu)
    have md : d ∈ S.o h := by rw [← ed]; exact ok.mem d (dl d hd)
    have ne : u ≠ d := fun e => dis u hu (by rw [e]; exact hd)
    have e1 := sm_put (g := x) (c := x u + c) nd mu
    have e2 := sm_one (g := put x u (x u + c)) (g' := y) nd md fun j hj hn => by
      by_cases q : j = u
      · rw [q, put_at]; exact up u hu
      · rw [put_ne q]
        refine st j (fun z => q (gu j u z hu ?_)) fun z => hn (gd j d z hd ?_)
        · rw [(ok.back _ _ hj).2, eu]
        · rw [(ok.back _ _ hj).2, ed]
    rw [e2, e1, dn d hd, put_ne (fun e => ne e.symm)]
    omega
  · rintro ⟨u, hu, eu⟩ nod
    have mu : u ∈ S.o h := by rw [← eu]; exact ok.mem u (un u hu)
    rw [sm_one (g := x) (g' := y) nd mu fun j hj hn => st j (fun z => hn (gu j u z hu (by rw [(ok.back _ _ hj).2, eu]))) fun z => nod j z (ok.back _ _ hj).2, up u hu]
    omega
  · rintro nou ⟨d, hd, ed⟩
    have md : d ∈ S.o h := by rw [← ed]; exact ok.mem d (dl d hd)
    rw [sm_one (g := x) (g' := y) nd md fun j hj hn => st j (fun z => nou j z (ok.back _ _ hj).2) fun z => hn (gd j d z hd (by rw [(ok.back _ _ hj).2, ed])), dn d hd]
    omega
  · intro nou nod
    exact sm_same fun j hj => st j (fun z => nou j z (ok.back _ _ hj).2) fun z => nod j z (ok.back _ _ hj).2
theorem Row.totG (ok : M.Ok) (w : Row M x y c U D) (h : Nat) : TotC M.G x y c U D h := tot_cases ok.g w.c1 w.up w.dn w.st w.un w.dl w.dis w.gu w.gd h
theorem Row.totP (ok : M.Ok) (w : Row M x y c U D) (h : Nat) : TotC M.P x y c U D h := tot_cases ok.p w.c1 w.up w.dn w.st w.un w.dl w.dis w.pu w.pd h
/-- a taker never has less -/
theorem Row.p_up (ok : M.Ok) (w : Row M x y c U D) (h : Nat) : tot M.P x h ≤ tot M.P y h := by
  have c1 := w.c1
  obtain ⟨h1, h2, h3, h4⟩ := w.totP ok h
  by_cases a : ∃ d, D d ∧ M.P.of d = h
  · obtain ⟨d, hd, ed⟩ := a
    obtain ⟨u, hu, eu, _⟩ := w.link d hd
    rw [h1 ⟨u, hu, by rw [eu, ed]⟩ ⟨d, hd, ed⟩]
    exact Int.le_refl _
  · have a : ∀ t, D t → M.P.of t ≠ h := fun t ht e => a ⟨t, ht, e⟩
    by_cases b : ∃ u, U u ∧ M.P.of u = h
    · rw [h2 b a]; omega
    · rw [h4 (fun t ht e => b ⟨t, ht, e⟩) a]; exact Int.le_refl _
theorem Row.le (w : Row M x y c U D) {t : Nat} (h : ¬ U t) : y t ≤ x t := by
  have := w.c1
  by_cases a : D t
  · rw [w.dn t a]; omega
  · rw [w.st t h a]; exact Int.le_refl _
theorem Row.ge (w : Row M x y c U D) {t : Nat} (h : ¬ D t) : x t ≤ y t := by
  have := w.c1
  by_cases a : U t
  · rw [w.up t a]; omega
  · rw [w.st t a h]; exact Int.le_refl _
theorem Row.sh (ok : M.Ok) (sx : Sh M x) (w : Row M x y c U D) : Sh M y := by
  have c1 := w.c1
  refine ⟨fun t => ?_, fun t ht => ?_, fun h => ?_, fun h => ?_⟩
  · by_cases a : D t
    · rw [w.dn t a]; have := w.dr t a; omega
    · have := w.ge a; have := sx.lo t; omega
  · by_cases a : U t
    · rw [w.up t a]; exact w.ur t a
    · have := w.le a; have := sx.hi t ht; omega
  · obtain ⟨h1, h2, h3, h4⟩ := w.totG ok h
    have b := sx.g h
    by_cases a : ∃ u, U u ∧ M.G.of u = h
    · obtain ⟨u, hu, eu⟩ := a
      rcases w.gtop u hu with ⟨d, hd, ed⟩ | ⟨q1, q2⟩
      · rw [h1 ⟨u, hu, eu⟩ ⟨d, hd, by rw [ed, eu]⟩]; exact b
      · rw [eu] at q1 q2
        rw [h2 ⟨u, hu, eu⟩ q1]; exact q2
    · have a : ∀ t, U t → M.G.of t ≠ h := fun t ht e => a ⟨t, ht, e⟩
      by_cases d : ∃ u, D u ∧ M.G.of u = h
      · rw [h3 a d]; omega
      · rw [h4 a (fun t ht e => d ⟨t, ht, e⟩)]; exact b
  · obtain ⟨h1, h2, h3, h4⟩ := w.totP ok h
    have b := sx.p h
    by_cases a : ∃ u, U u ∧ M.P.of u = h
    · obtain ⟨u, hu, eu⟩ := a
      rcases w.ptop u hu with ⟨d, hd, ed⟩ | ⟨q1, q2⟩
      · rw [h1 ⟨u, hu, eu⟩ ⟨d, hd, by rw [ed, eu]⟩]; exact b
      · rw [eu] at q1 q2
        rw [h2 ⟨u, hu, eu⟩ q1]; exact q2
    · have a : ∀ t, U t → M.P.of t ≠ h := fun t ht e => a ⟨t, ht, e⟩
      by_cases d : ∃ u, D u ∧ M.P.of u = h
      · rw [h3 a d]; omega
      · rw [h4 a (fun t ht e => d ⟨t, ht, e⟩)]; exact b
/-- what a taker wouldn't have, it never will -/
theorem Row.keep (ok : M.Ok) (sx : Sh M x) (w : Row M x y c U D) {t : Nat} (ht : t < M.n) (h : ¬ will M.P x t) : ¬ will M.P y t := by
  obtain ⟨f, z0⟩ := not_will ok.p (sx.p _) sx.lo h
  have sy := w.sh ok sx
  refine no_will (by have := w.p_up ok (M.P.of t); have := sy.p (M.P.of t); omega) fun s hs => ?_
  have x0 := z0 s hs
  have y0 := sy.lo s
  by_cases us : U s
  · have ws := (w.want s us).1
    exfalso
    rcases ws with q | ⟨v, hv, q⟩
    · rw [(hs.lt ok.p).2] at q; omega
    · have := z0 v (hs.trans ok.p hv); omega
  · have := w.le us; omega
/-- what is given up, nobody there would have -/
theorem Row.gone (ok : M.Ok) (sx : Sh M x) (w : Row M x y c U D) {t : Nat} (h : D t) : ¬ will M.P y t := by
  have ht := w.dl t h
  refine w.keep ok sx ht ?_
  obtain ⟨a, b⟩ := w.full t h
  exact no_will a b
theorem Row.shut (ok : M.Ok) (sx : Sh M x) (w : Row M x y c U D) {t : Nat} (ht : t < M.n) (h : closed M x t) : closed M y t := fun lt => by
  by_cases d : D t
  · exact w.gone ok sx d
  · have := w.ge d
    exact w.keep ok sx ht (h (by omega))
theorem Row.i1 (ok : M.Ok) (sx : Sh M x) (ix : I1 M x) (w : Row M x y c U D) : I1 M y := fun t ht lt ⟨s, hs, ps⟩ => by
  by_cases d : D t
  · exact w.gone ok sx d
  · have lx : x t < M.r t := by have := w.ge d; omega
    refine w.keep ok sx ht ?_
    by_cases q : 0 < x s
    · exact ix t ht lx ⟨s, hs, q⟩
    · have us : U s := by
        apply Classical.byContradiction
        intro q2
        have := w.le q2
        omega
      exact (w.want s us).2 t hs ht lx
end
end Fr

/-! what a row keeps: no settled sharing bears more where a taker wouldn't have more -/
namespace Fr
open Calm (sm sm_cons sm_le sm_sub sm_add sm_single sm_nn sm_zero sm_pos sm_same sm_lt idx_inj)
section
variable {M : Mk} {x y z : Nat → Int} {t s u : Nat} {c : Int} {U D : Nat → Prop}
theorem claimA (ok : M.Ok) (sx : Sh M x) (ix : I1 M x) (i2 : ∀ t, t < M.n → ¬ will M.P x t → z t ≤ x t) (sz : Stl M z) (hs : s < M.n) (lt : z s < x s) : ¬ will M.P z s := fun wp => by
  have wg : ¬ will M.G z s := fun q => sz.no s hs (by have := sx.hi s hs; omega) q wp
  obtain ⟨f, z0⟩ := not_will ok.g (sz.sh.g _) sz.sh.lo wg
  obtain ⟨r, rn, a, b⟩ := better_ex ok.g hs f z0 sx.lo (sx.g _) lt
  have zl := sz.sh.lo s
  have := i2 r rn (ix r rn (by have := sz.sh.hi r rn; omega) ⟨s, a, by omega⟩)
  omega
theorem vstep (ok : M.Ok) (sx : Sh M x) (ix : I1 M x) (i2 : ∀ t, t < M.n → ¬ will M.P x t → z t ≤ x t) (w : Row M x y c U D) (sz : Stl M z) (ht : t < M.n) (nw : ¬ will M.P y t) (lt : y t < z t) : ∃ u, U u ∧ M.P.of u = M.P.of t ∧ z u < y u ∧ ∃ d, D d ∧ M.G.of d = M.G.of u ∧ y d < z d := by
  have sy := w.sh ok sx
  obtain ⟨f, y0⟩ := not_will ok.p (sy.p _) sy.lo nw
  obtain ⟨s, ms, ls⟩ : ∃ s ∈ M.P.o (M.P.of t), z s < y s := by
    apply Classical.byContradiction
    intro q
    have := sm_gap (g := y) (g' := z) (ok.p.nd _) (ok.p.mem t ht) fun j hj => by
      apply Classical.byContradiction
      intro q2
      exact q ⟨j, hj, by omega⟩
    have zp := sz.sh.p (M.P.of t)
    unfold tot at f zp
    omega
  obtain ⟨sn, se⟩ := ok.p.back _ _ ms
  have zl := sz.sh.lo s
  have a : aft M.P s t := by
    rcases aft.tri ok.p sn ht se with a | a | a
    · exact a
    · rw [a] at ls; omega
    · have := y0 s a; omega
  have wp : will M.P z s := .inr ⟨t, a, by have := sy.lo t; omega⟩
  have wg : ¬ will M.G z s := fun q => sz.no s sn (by have := sy.hi s sn; omega) q wp
  have us : U s := by
    apply Classical.byContradiction
    intro q
    have := w.le q
    exact claimA ok sx ix i2 sz sn (by omega) wp
  obtain ⟨f2, z0⟩ := not_will ok.g (sz.sh.g _) sz.sh.lo wg
  obtain ⟨r, rn, a2, b2⟩ := better_ex ok.g sn f2 z0 sy.lo (sy.g _) ls
  refine ⟨s, us, se, ls, r, ?_, (a2.lt ok.g).2.symm, b2⟩
  apply Classical.byContradiction
  intro q
  have h1 := w.ge q
  have h2 : z r ≤ x r := by
    by_cases c : x r < M.r r
    · exact i2 r rn ((w.want s us).2 r a2 rn c)
    · have := sz.sh.hi r rn; omega
  omega
/-- how a unit goes: ties taken up and given up by turns -/
structure Chn (M : Mk) (x : Nat → Int) (kt k q : Nat) (T S g : Nat → Nat) : Prop where
  k1 : k ≤ kt
  k2 : kt ≤ k + 1
  tn : ∀ j, j < kt → T j < M.n
  sn : ∀ j, j < k → S j < M.n
  gt : ∀ j, j < kt → M.G.of (T j) = g j
  gs : ∀ j, j < k → M.G.of (S j) = g (j + 1)
  room : ∀ j, j < kt → x (T j) < M.r (T j)
  want : ∀ j, j < kt → will M.P x (T j)
  best : ∀ j, j < kt → ∀ s, aft M.G s (T j) → s < M.n → closed M x s
  same : ∀ j, j < k → M.P.of (S j) = M.P.of (T j)
  full : ∀ j, j < k → tot M.P x (M.P.of (T j)) = M.P.m (M.P.of (T j))
  pos : ∀ j, j < k → 0 < x (S j)
  last : ∀ j, j < k → ∀ s, aft M.P (S j) s → x s = 0
  start : tot M.G x (g 0) < M.G.m (g 0)
  dis : ∀ i j, i < q → j < q → g i = g j → i = j
section
variable {kt k q : Nat} {T S g : Nat → Nat}
theorem Chn.less (ok : M.Ok) (h : Chn M x kt k q T S g) {j : Nat} (hj : j < k) : aft M.P (T j) (S j) := by
  have k1 := h.k1
  rcases h.want j (by omega) with a | ⟨v, hv, pv⟩
  · rw [h.full j hj] at a; omega
  · obtain ⟨vn, ve⟩ := hv.lt ok.p
    rcases aft.tri ok.p vn (h.sn j hj) (by rw [ve, h.same j hj]) with a | a | a
    · exact hv.trans ok.p a
    · rw [← a]; exact hv
    · have := h.last j hj v a; omega
theorem Chn.one (ok : M.Ok) (h : Chn M x kt k q T S g) {i j : Nat} (hi : i < k) (hj : j < k) (e : M.P.of (T i) = M.P.of (T j)) : S i = S j := by
  have e : M.P.of (S i) = M.P.of (S j) := by rw [h.same i hi, h.same j hj, e]
  rcases aft.tri ok.p (h.sn i hi) (h.sn j hj) e with a | a | a
  · have := h.last i hi _ a; have := h.pos j hj; omega
  · exact a
  · have := h.last j hj _ a; have := h.pos i hi; omega
/-- a path: the last tie's taker has less than its much, or its giver has nothing to turn to -/
theorem path_row (ok : M.Ok) (sx : Sh M x) (h : Chn M x kt k (k + 1) T S g) (k0 : 0 < kt) (c1 : 1 ≤ c) (ct : ∀ j, j < kt → x (T j) + c ≤ M.r (T j)) (cs : ∀ j, j < k → c ≤ x (S j)) (cg : tot M.G x (g 0) + c ≤ M.G.m (g 0))
    (e1 : kt = k → ∀ s, s < M.n → M.G.of s = g k → closed M x s) (e2 : k < kt → tot M.P x (M.P.of (T k)) + c ≤ M.P.m (M.P.of (T k)))
    (hu : ∀ t, U t ↔ ∃ j, j < kt ∧ t = T j) (hd : ∀ t, D t ↔ ∃ j, j < k ∧ t = S j) (up : ∀ t, U t → y t = x t + c) (dn : ∀ t, D t → y t = x t - c) (st : ∀ t, ¬ U t → ¬ D t → y t = x t) : Row M x y c U D := by
  have k1 := h.k1
  have k2 := h.k2
  have pp : ∀ i j, i < kt → j < kt → M.P.of (T i) = M.P.of (T j) → i = j := fun i j hi hj e => by
    by_cases ci : i < k
    · by_cases cj : j < k
      · have := h.one ok ci cj e
        have := h.dis (i + 1) (j + 1) (by omega) (by omega) (by rw [← h.gs i ci, ← h.gs j cj, this])
        omega
      · have ej : j = k := by omega
        subst ej
        have := e2 (by omega)
        rw [← e, h.full i ci] at this
        omega
    · by_cases cj : j < k
      · have ei : i = k := by omega
        subst ei
        have := e2 (by omega)
        rw [e, h.full j cj] at this
        omega
      · omega
  have gg : ∀ i j, i < kt → j < kt → M.G.of (T i) = M.G.of (T j) → i = j := fun i j hi hj e => h.dis i j (by omega) (by omega) (by rw [← h.gt i hi, ← h.gt j hj, e])
  refine ⟨c1, up, dn, st, fun t ht => ?_, fun t ht => ?_, fun t ht => ?_, fun t ht => ?_, fun t a b => ?_, fun t s a b e => ?_, fun t s a b e => ?_, fun t s a b e => ?_, fun t s a b e => ?_, fun t ht => ?_, fun t ht => ?_, fun t ht => ?_, fun u hu' => ?_, fun t ht => ?_, fun u hu' => ?_⟩
  · obtain ⟨j, hj, rfl⟩ := (hu t).mp ht; exact h.tn j hj
  · obtain ⟨j, hj, rfl⟩ := (hd t).mp ht; exact h.sn j hj
  · obtain ⟨j, hj, rfl⟩ := (hu t).mp ht; exact ct j hj
  · obtain ⟨j, hj, rfl⟩ := (hd t).mp ht; exact cs j hj
  · obtain ⟨i, hi, rfl⟩ := (hu t).mp a
    obtain ⟨j, hj, e⟩ := (hd _).mp b
    have e1 := pp i j hi (by omega) (by rw [e, h.same j hj])
    subst e1
    exact (h.less ok hj).ne e
  · obtain ⟨i, hi, rfl⟩ := (hu t).mp a
    obtain ⟨j, hj, rfl⟩ := (hu s).mp b
    rw [gg i j hi hj e]
  · obtain ⟨i, hi, rfl⟩ := (hd t).mp a
    obtain ⟨j, hj, rfl⟩ := (hd s).mp b
    have := h.dis (i + 1) (j + 1) (by omega) (by omega) (by rw [← h.gs i hi, ← h.gs j hj, e])
    rw [show i = j by omega]
  · obtain ⟨i, hi, rfl⟩ := (hu t).mp a
    obtain ⟨j, hj, rfl⟩ := (hu s).mp b
    rw [pp i j hi hj e]
  · obtain ⟨i, hi, rfl⟩ := (hd t).mp a
    obtain ⟨j, hj, rfl⟩ := (hd s).mp b
    rw [h.same i hi, h.same j hj] at e
    rw [pp i j (by omega) (by omega) e]
  · obtain ⟨j, hj, rfl⟩ := (hu t).mp ht
    exact ⟨h.want j hj, h.best j hj⟩
  · obtain ⟨j, hj, rfl⟩ := (hd t).mp ht
    exact ⟨by rw [h.same j hj]; exact h.full j hj, h.last j hj⟩
  · obtain ⟨j, hj, rfl⟩ := (hd t).mp ht
    exact ⟨T j, (hu _).mpr ⟨j, by omega, rfl⟩, (h.same j hj).symm, h.less ok hj⟩
  · obtain ⟨j, hj, rfl⟩ := (hu u).mp hu'
    by_cases c : j < k
    · exact .inl ⟨S j, (hd _).mpr ⟨j, c, rfl⟩, h.same j c⟩
    · have : j = k := by omega
      subst this
      refine .inr ⟨fun t ht e => ?_, e2 hj⟩
      obtain ⟨i, hi, rfl⟩ := (hd t).mp ht
      rw [h.same i hi] at e
      have := pp i j (by omega) hj e
      omega
  · obtain ⟨j, hj, rfl⟩ := (hd t).mp ht
    by_cases c : j + 1 < kt
    · exact .inl ⟨T (j + 1), (hu _).mpr ⟨j + 1, c, rfl⟩, by rw [h.gt _ c, h.gs j hj]⟩
    · have : j + 1 = k := by omega
      refine .inr fun s hs e => e1 (by omega) s hs ?_
      rw [e, h.gs j hj, this]
  · obtain ⟨j, hj, rfl⟩ := (hu u).mp hu'
    by_cases c : j = 0
    · subst c
      refine .inr ⟨fun t ht e => ?_, by rw [h.gt 0 hj]; exact cg⟩
      obtain ⟨i, hi, rfl⟩ := (hd t).mp ht
      rw [h.gs i hi, h.gt 0 hj] at e
      have := h.dis _ _ (by omega) (by omega) e
      omega
    · refine .inl ⟨S (j - 1), (hd _).mpr ⟨j - 1, by omega, rfl⟩, ?_⟩
      rw [h.gs (j - 1) (by omega), h.gt j hj, show j - 1 + 1 = j by omega]
theorem path_i2 (ok : M.Ok) (sx : Sh M x) (ix : I1 M x) (i2 : I2 M x) (h : Chn M x kt k (k + 1) T S g) (w : Row M x y c U D) (e2 : k < kt → tot M.P x (M.P.of (T k)) + c ≤ M.P.m (M.P.of (T k))) (hu : ∀ t, U t ↔ ∃ j, j < kt ∧ t = T j) (hd : ∀ t, D t ↔ ∃ j, j < k ∧ t = S j) : I2 M y := fun z sz t ht nw => by
  have k1 := h.k1
  have k2 := h.k2
  have c1 := w.c1
  have no : ∀ i, i < k → ¬ y (S i) < z (S i) := by
    intro i
    induction i with
    | zero =>
      intro hi lt
      obtain ⟨u, hu', e, l1, d, hd', e', l2⟩ := vstep ok sx ix (i2 z sz) w sz (h.sn 0 hi) (w.gone ok sx ((hd _).mpr ⟨0, hi, rfl⟩)) lt
      obtain ⟨j, hj, rfl⟩ := (hu u).mp hu'
      obtain ⟨i', hi', rfl⟩ := (hd d).mp hd'
      rw [h.same 0 hi] at e
      rw [h.gs i' hi', h.gt j hj] at e'
      by_cases c : j < k
      · have := h.one ok c hi e
        have := h.dis (j + 1) 1 (by omega) (by omega) (by rw [← h.gs j c, this, h.gs 0 hi])
        have := h.dis (i' + 1) j (by omega) (by omega) e'
        omega
      · have ej : j = k := by omega
        subst ej
        have := e2 hj
        rw [e, h.full 0 hi] at this
        omega
    | succ i ih =>
      intro hi lt
      obtain ⟨u, hu', e, l1, d, hd', e', l2⟩ := vstep ok sx ix (i2 z sz) w sz (h.sn (i + 1) hi) (w.gone ok sx ((hd _).mpr ⟨i + 1, hi, rfl⟩)) lt
      obtain ⟨j, hj, rfl⟩ := (hu u).mp hu'
      obtain ⟨i', hi', rfl⟩ := (hd d).mp hd'
      rw [h.same _ hi] at e
      rw [h.gs i' hi', h.gt j hj] at e'
      by_cases c : j < k
      · have := h.one ok c hi e
        have := h.dis (j + 1) (i + 1 + 1) (by omega) (by omega) (by rw [← h.gs j c, this, h.gs _ hi])
        have := h.dis (i' + 1) j (by omega) (by omega) e'
        have ei : i' = i := by omega
        subst ei
        exact ih hi' l2
      · have ej : j = k := by omega
        subst ej
        have := e2 hj
        rw [e, h.full _ hi] at this
        omega
  apply Classical.byContradiction
  intro q
  obtain ⟨u, hu', e, l1, d, hd', e', l2⟩ := vstep ok sx ix (i2 z sz) w sz ht nw (by omega)
  obtain ⟨i', hi', rfl⟩ := (hd d).mp hd'
  exact no i' hi' l2
end
end
end Fr

/-! a ring of ties taken up and given up -/
namespace Fr
open Calm (sm sm_cons sm_le sm_sub sm_add sm_single sm_nn sm_zero sm_pos sm_same sm_lt idx_inj)
section
variable {M : Mk} {x y z : Nat → Int} {t s u : Nat} {c : Int} {U D : Nat → Prop} {k m : Nat} {T S g : Nat → Nat}
theorem ring_same (h : Chn M x k k k T S g) (close : g k = g m) {i j : Nat} (mi : m ≤ i) (hi : i < k) (mj : m ≤ j) (hj : j < k) (e : g (i + 1) = g (j + 1)) : i = j := by
  by_cases a : i + 1 < k
  · by_cases b : j + 1 < k
    · have := h.dis _ _ a b e; omega
    · have : j + 1 = k := by omega
      rw [this, close] at e
      have := h.dis _ _ a (by omega) e
      omega
  · have ei : i + 1 = k := by omega
    by_cases b : j + 1 < k
    · rw [ei, close] at e
      have := h.dis _ _ (by omega) b e
      omega
    · omega
theorem ring_pp (ok : M.Ok) (h : Chn M x k k k T S g) (close : g k = g m) {i j : Nat} (mi : m ≤ i) (hi : i < k) (mj : m ≤ j) (hj : j < k) (e : M.P.of (T i) = M.P.of (T j)) : i = j := by
  have := h.one ok hi hj e
  exact ring_same h close mi hi mj hj (by rw [← h.gs i hi, ← h.gs j hj, this])
theorem ring_row (ok : M.Ok) (sx : Sh M x) (h : Chn M x k k k T S g) (mk : m < k) (close : g k = g m) (c1 : 1 ≤ c) (ct : ∀ j, m ≤ j → j < k → x (T j) + c ≤ M.r (T j)) (cs : ∀ j, m ≤ j → j < k → c ≤ x (S j))
    (hu : ∀ t, U t ↔ ∃ j, m ≤ j ∧ j < k ∧ t = T j) (hd : ∀ t, D t ↔ ∃ j, m ≤ j ∧ j < k ∧ t = S j) (up : ∀ t, U t → y t = x t + c) (dn : ∀ t, D t → y t = x t - c) (st : ∀ t, ¬ U t → ¬ D t → y t = x t) : Row M x y c U D := by
  have gg : ∀ i j, i < k → j < k → M.G.of (T i) = M.G.of (T j) → i = j := fun i j hi hj e => h.dis i j (by omega) (by omega) (by rw [← h.gt i hi, ← h.gt j hj, e])
  refine ⟨c1, up, dn, st, fun t ht => ?_, fun t ht => ?_, fun t ht => ?_, fun t ht => ?_, fun t a b => ?_, fun t s a b e => ?_, fun t s a b e => ?_, fun t s a b e => ?_, fun t s a b e => ?_, fun t ht => ?_, fun t ht => ?_, fun t ht => ?_, fun u hu' => ?_, fun t ht => ?_, fun u hu' => ?_⟩
  · obtain ⟨j, mj, hj, rfl⟩ := (hu t).mp ht; exact h.tn j hj
  · obtain ⟨j, mj, hj, rfl⟩ := (hd t).mp ht; exact h.sn j hj
  · obtain ⟨j, mj, hj, rfl⟩ := (hu t).mp ht; exact ct j mj hj
  · obtain ⟨j, mj, hj, rfl⟩ := (hd t).mp ht; exact cs j mj hj
  · obtain ⟨i, mi, hi, rfl⟩ := (hu t).mp a
    obtain ⟨j, mj, hj, e⟩ := (hd _).mp b
    have e1 := ring_pp ok h close mi hi mj hj (by rw [e, h.same j hj])
    subst e1
    exact (h.less ok hj).ne e
  · obtain ⟨i, mi, hi, rfl⟩ := (hu t).mp a
    obtain ⟨j, mj, hj, rfl⟩ := (hu s).mp b
    rw [gg i j hi hj e]
  · obtain ⟨i, mi, hi, rfl⟩ := (hd t).mp a
    obtain ⟨j, mj, hj, rfl⟩ := (hd s).mp b
    rw [ring_same h close mi hi mj hj (by rw [← h.gs i hi, ← h.gs j hj, e])]
  · obtain ⟨i, mi, hi, rfl⟩ := (hu t).mp a
    obtain ⟨j, mj, hj, rfl⟩ := (hu s).mp b
    rw [ring_pp ok h close mi hi mj hj e]
  · obtain ⟨i, mi, hi, rfl⟩ := (hd t).mp a
    obtain ⟨j, mj, hj, rfl⟩ := (hd s).mp b
    rw [h.same i hi, h.same j hj] at e
    rw [ring_pp ok h close mi hi mj hj e]
  · obtain ⟨j, mj, hj, rfl⟩ := (hu t).mp ht
    exact ⟨h.want j hj, h.best j hj⟩
  · obtain ⟨j, mj, hj, rfl⟩ := (hd t).mp ht
    exact ⟨by rw [h.same j hj]; exact h.full j hj, h.last j hj⟩
  · obtain ⟨j, mj, hj, rfl⟩ := (hd t).mp ht
    exact ⟨T j, (hu _).mpr ⟨j, mj, hj, rfl⟩, (h.same j hj).symm, h.less ok hj⟩
  · obtain ⟨j, mj, hj, rfl⟩ := (hu u).mp hu'
    exact .inl ⟨S j, (hd _).mpr ⟨j, mj, hj, rfl⟩, h.same j hj⟩
  · obtain ⟨j, mj, hj, rfl⟩ := (hd t).mp ht
    by_cases c : j + 1 < k
    · exact .inl ⟨T (j + 1), (hu _).mpr ⟨j + 1, by omega, c, rfl⟩, by rw [h.gt _ c, h.gs j hj]⟩
    · have : j + 1 = k := by omega
      exact .inl ⟨T m, (hu _).mpr ⟨m, Nat.le_refl _, mk, rfl⟩, by rw [h.gt _ mk, h.gs j hj, this, close]⟩
  · obtain ⟨j, mj, hj, rfl⟩ := (hu u).mp hu'
    by_cases c : j = m
    · subst c
      refine .inl ⟨S (k - 1), (hd _).mpr ⟨k - 1, by omega, by omega, rfl⟩, ?_⟩
      rw [h.gs (k - 1) (by omega), h.gt j hj, show k - 1 + 1 = k by omega, close]
    · refine .inl ⟨S (j - 1), (hd _).mpr ⟨j - 1, by omega, by omega, rfl⟩, ?_⟩
      rw [h.gs (j - 1) (by omega), h.gt j hj, show j - 1 + 1 = j by omega]
/-- at a taker of the chain no less comes in by better ties -/
theorem taker_step (ok : M.Ok) (sx : Sh M x) (ix : I1 M x) (i2 : I2 M x) (sz : Stl M z) {kt q : Nat} (h : Chn M x kt k q T S g) {j : Nat} (hj : j < k) (pz : 0 < z (S j)) : (z (T j) - x (T j) ≤ x (S j) - z (S j)) ∧ ∀ v, v < M.n → M.P.of v = M.P.of (T j) → aft M.P v (S j) → v ≠ T j → (z (T j) - x (T j)) + (z v - x v) ≤ x (S j) - z (S j) ∧ x v ≤ z v := by
  have k1 := h.k1
  have lessT := h.less ok hj
  have f := h.full j hj
  have mS := ok.p.mem _ (h.sn j hj)
  have mT := ok.p.mem _ (h.tn j (by omega))
  rw [h.same j hj] at mS
  have nd := ok.p.nd (M.P.of (T j))
  have zp := sz.sh.p (M.P.of (T j))
  have low : ∀ v, v < M.n → M.P.of v = M.P.of (T j) → aft M.P v (S j) → x v ≤ z v := fun v hv ev a => by
    apply Classical.byContradiction
    intro q2
    exact claimA ok sx ix (i2 z sz) sz hv (by omega) (.inr ⟨S j, a, pz⟩)
  have pw : ∀ v ∈ M.P.o (M.P.of (T j)), put x (S j) (z (S j)) v ≤ z v := fun v hv => by
    obtain ⟨vn, ve⟩ := ok.p.back _ _ hv
    by_cases c : v = S j
    · rw [c, put_at]; exact Int.le_refl _
    · rw [put_ne c]
      rcases aft.tri ok.p vn (h.sn j hj) (by rw [ve, h.same j hj]) with a | a | a
      · exact low v vn ve a
      · exact absurd a c
      · rw [h.last j hj v a]; exact sz.sh.lo v
  have e1 := sm_put (g := x) (c := z (S j)) nd mS
  have neT : T j ≠ S j := lessT.ne
  unfold tot at f zp
  refine ⟨?_, fun v vn ve a ne => ⟨?_, low v vn ve a⟩⟩
  · have := sm_gap nd mT pw
    rw [put_ne neT, e1] at this
    omega
  · have mv := ok.p.mem _ vn
    rw [ve] at mv
    have := sm_gap2 nd mT mv (fun e => ne e.symm) pw
    rw [put_ne neT, put_ne a.ne, e1] at this
    omega
/-- what a giver of the chain has less by other ties, it has more by its next one -/
theorem giver_step (ok : M.Ok) (sx : Sh M x) (i2 : I2 M x) (sz : Stl M z) {kt q : Nat} (h : Chn M x kt k q T S g) {j : Nat} (hj : j < kt) (nw : ¬ will M.G z (T j)) :
    (tot M.G x (g j) < M.G.m (g j) → ∀ v, v < M.n → M.G.of v = g j → v ≠ T j → x v - z v < z (T j) - x (T j)) ∧ (∀ v, v < M.n → M.G.of v = g j → v ≠ T j → x v - z v ≤ z (T j) - x (T j)) ∧ (∀ v v', v < M.n → M.G.of v = g j → v ≠ T j → v' < M.n → M.G.of v' = g j → v' ≠ T j → v ≠ v' → (x v - z v) + (x v' - z v') ≤ z (T j) - x (T j)) := by
  have e := h.gt j hj
  obtain ⟨f, z0⟩ := not_will ok.g (sz.sh.g _) sz.sh.lo nw
  have mT := ok.g.mem _ (h.tn j hj)
  rw [e] at f mT
  have nd := ok.g.nd (g j)
  have xg := sx.g (g j)
  have pw : ∀ v ∈ M.G.o (g j), put z (T j) (x (T j)) v ≤ x v := fun v hv => by
    obtain ⟨vn, ve⟩ := ok.g.back _ _ hv
    by_cases c : v = T j
    · rw [c, put_at]; exact Int.le_refl _
    · rw [put_ne c]
      rcases aft.tri ok.g vn (h.tn j hj) (by rw [ve, e]) with a | a | a
      · have cl := h.best j hj v a vn
        by_cases q : x v < M.r v
        · exact i2 z sz v vn (cl q)
        · have := sz.sh.hi v vn; omega
      · exact absurd a c
      · rw [z0 v a]; exact sx.lo v
  have e1 := sm_put (g := z) (c := x (T j)) nd mT
  unfold tot at f xg
  refine ⟨fun lt v vn ve ne => ?_, fun v vn ve ne => ?_, fun v v' vn ve ne vn' ve' ne' nv => ?_⟩
  · have := sm_gap nd (by rw [← ve]; exact ok.g.mem v vn) pw
    rw [put_ne ne, e1] at this
    unfold tot at lt
    omega
  · have := sm_gap nd (by rw [← ve]; exact ok.g.mem v vn) pw
    rw [put_ne ne, e1] at this
    omega
  · have := sm_gap2 nd (by rw [← ve]; exact ok.g.mem v vn) (by rw [← ve']; exact ok.g.mem v' vn') nv pw
    rw [put_ne ne, put_ne ne', e1] at this
    omega
theorem neST (ok : M.Ok) {kt q : Nat} (h : Chn M x kt k q T S g) (ix : I1 M x) {i j : Nat} (hi : i < k) (hj : j < kt) : S i ≠ T j := fun e => by
  have hw := h.want j hj
  have l := h.last i hi
  have hs := h.sn i hi
  have f := h.full i hi
  rcases hw with a | ⟨v, hv, pv⟩
  · rw [← e, h.same i hi, f] at a; omega
  · rw [← e] at hv
    have := l v hv
    omega
/-- the way to the ring: something is lacked at each of its takers -/
theorem tail_step (ok : M.Ok) (sx : Sh M x) (ix : I1 M x) (i2 : I2 M x) (sz : Stl M z) (h : Chn M x k k k T S g) : ∀ j, j < k → 1 ≤ x (S j) - z (S j) ∧ (0 < z (S j) → 1 ≤ z (T j) - x (T j)) := by
  intro j
  induction j with
  | zero =>
    intro hj
    have key : z (T 0) - x (T 0) ≤ 0 → z (S 0) = 0 := fun le => by
      have wg : will M.G z (T 0) := by
        apply Classical.byContradiction
        intro nw
        have := (giver_step ok sx i2 sz h hj nw).1
        obtain ⟨f, z0⟩ := not_will ok.g (sz.sh.g _) sz.sh.lo nw
        have st := h.start
        have pw : ∀ v ∈ M.G.o (M.G.of (T 0)), z v ≤ x v := fun v hv => by
          obtain ⟨vn, ve⟩ := ok.g.back _ _ hv
          rcases aft.tri ok.g vn (h.tn 0 hj) ve with a | a | a
          · have cl := h.best 0 hj v a vn
            by_cases q : x v < M.r v
            · exact i2 z sz v vn (cl q)
            · have := sz.sh.hi v vn; omega
          · rw [a]; omega
          · rw [z0 v a]; exact sx.lo v
        have := sm_le pw
        unfold tot at f st
        rw [← h.gt 0 hj] at st
        omega
      have wp : ¬ will M.P z (T 0) := fun q => sz.no _ (h.tn 0 hj) (by have := h.room 0 hj; omega) wg q
      exact (not_will ok.p (sz.sh.p _) sz.sh.lo wp).2 _ (h.less ok hj)
    have ps := h.pos 0 hj
    have zl := sz.sh.lo (S 0)
    by_cases pz : 0 < z (S 0)
    · have a1 : 1 ≤ z (T 0) - x (T 0) := by
        apply Classical.byContradiction
        intro q
        have := key (by omega)
        omega
      have := (taker_step ok sx ix i2 sz h hj pz).1
      exact ⟨by omega, fun _ => a1⟩
    · exact ⟨by omega, fun q => absurd q pz⟩
  | succ j ih =>
    intro hj
    have ih := (ih (by omega)).1
    have key : z (T (j + 1)) - x (T (j + 1)) ≤ 0 → z (S (j + 1)) = 0 := fun le => by
      have wg : will M.G z (T (j + 1)) := by
        apply Classical.byContradiction
        intro nw
        have := (giver_step ok sx i2 sz h hj nw).2.1 (S j) (h.sn j (by omega)) (h.gs j (by omega)) (neST ok h ix (by omega) hj)
        omega
      have wp : ¬ will M.P z (T (j + 1)) := fun q => sz.no _ (h.tn _ hj) (by have := h.room _ hj; omega) wg q
      exact (not_will ok.p (sz.sh.p _) sz.sh.lo wp).2 _ (h.less ok hj)
    have ps := h.pos (j + 1) hj
    have zl := sz.sh.lo (S (j + 1))
    by_cases pz : 0 < z (S (j + 1))
    · have a1 : 1 ≤ z (T (j + 1)) - x (T (j + 1)) := by
        apply Classical.byContradiction
        intro q
        have := key (by omega)
        omega
      have := (taker_step ok sx ix i2 sz h hj pz).1
      exact ⟨by omega, fun _ => a1⟩
    · exact ⟨by omega, fun q => absurd q pz⟩
theorem ring_i2 (ok : M.Ok) (sx : Sh M x) (ix : I1 M x) (i2 : I2 M x) (h : Chn M x k k k T S g) (mk : m < k) (close : g k = g m) (w : Row M x y c U D) (hu : ∀ t, U t ↔ ∃ j, m ≤ j ∧ j < k ∧ t = T j) (hd : ∀ t, D t ↔ ∃ j, m ≤ j ∧ j < k ∧ t = S j) : I2 M y := fun z sz t ht nw => by
  have c1 := w.c1
  have sy := w.sh ok sx
  -- from one to the one ahead
  have back : ∀ i, m ≤ i → i < k → y (S i) < z (S i) → z (T i) < y (T i) ∧ ∃ i', m ≤ i' ∧ i' < k ∧ g (i' + 1) = g i ∧ y (S i') < z (S i') := fun i mi hi lt => by
    obtain ⟨u, hu', e, l1, d, hd', e', l2⟩ := vstep ok sx ix (i2 z sz) w sz (h.sn i hi) (w.gone ok sx ((hd _).mpr ⟨i, mi, hi, rfl⟩)) lt
    obtain ⟨j, mj, hj, rfl⟩ := (hu u).mp hu'
    obtain ⟨i', mi', hi', rfl⟩ := (hd d).mp hd'
    rw [h.same i hi] at e
    have ej := ring_pp ok h close mj hj mi hi e
    subst ej
    rw [h.gs i' hi', h.gt j hj] at e'
    exact ⟨l1, i', mi', hi', e', l2⟩
  have pre : ∀ i, m < i → i < k → y (S i) < z (S i) → y (S (i - 1)) < z (S (i - 1)) := fun i mi hi lt => by
    obtain ⟨_, i', mi', hi', e, l⟩ := back i (by omega) hi lt
    have := ring_same h close (i := i') (j := i - 1) mi' hi' (by omega) (by omega) (by rw [e, show i - 1 + 1 = i by omega])
    rw [← this]; exact l
  have pre0 : y (S m) < z (S m) → y (S (k - 1)) < z (S (k - 1)) := fun lt => by
    obtain ⟨_, i', mi', hi', e, l⟩ := back m (Nat.le_refl _) mk lt
    have := ring_same h close (i := i') (j := k - 1) mi' hi' (by omega) (by omega) (by rw [e, show k - 1 + 1 = k by omega, close])
    rw [← this]; exact l
  have down : ∀ n i, m ≤ i → i + n < k → y (S (i + n)) < z (S (i + n)) → y (S i) < z (S i) := by
    intro n
    induction n with
    | zero => intro i _ _ q; exact q
    | succ n ih => exact fun i mi hi q => ih i mi (by omega) (by
        have := pre (i + (n + 1)) (by omega) hi q
        rwa [show i + (n + 1) - 1 = i + n by omega] at this)
  have all : ∀ i, m ≤ i → i < k → y (S i) < z (S i) → ∀ j, m ≤ j → j < k → y (S j) < z (S j) := fun i mi hi q j mj hj => by
    have qm := down (i - m) m (Nat.le_refl _) (by omega) (by rw [show m + (i - m) = i by omega]; exact q)
    have qk := pre0 qm
    exact down (k - 1 - j) j mj (by omega) (by rw [show j + (k - 1 - j) = k - 1 by omega]; exact qk)
  apply Classical.byContradiction
  intro q
  obtain ⟨u, hu', e, l1, d, hd', e', l2⟩ := vstep ok sx ix (i2 z sz) w sz ht nw (by omega)
  obtain ⟨i0, mi0, hi0, rfl⟩ := (hd d).mp hd'
  have V := all i0 mi0 hi0 l2
  have pz : ∀ j, m ≤ j → j < k → 0 < z (S j) := fun j mj hj => by have := V j mj hj; have := sy.lo (S j); omega
  have nwG : ∀ j, m ≤ j → j < k → ¬ will M.G z (T j) := fun j mj hj wg => by
    have lt := (back j mj hj (V j mj hj)).1
    have := sy.hi _ (h.tn j hj)
    exact sz.no _ (h.tn j hj) (by omega) wg (.inr ⟨S j, h.less ok hj, pz j mj hj⟩)
  have ab : ∀ j, m ≤ j → j < k → z (T j) - x (T j) ≤ x (S j) - z (S j) := fun j mj hj => (taker_step ok sx ix i2 sz h hj (pz j mj hj)).1
  have ba : ∀ j, m ≤ j → j + 1 < k → x (S j) - z (S j) ≤ z (T (j + 1)) - x (T (j + 1)) := fun j mj hj => (giver_step ok sx i2 sz h hj (nwG (j + 1) (by omega) hj)).2.1 (S j) (h.sn j (by omega)) (h.gs j (by omega)) (neST ok h ix (by omega) hj)
  have run : ∀ n, m + n < k → z (T m) - x (T m) ≤ z (T (m + n)) - x (T (m + n)) := by
    intro n
    induction n with
    | zero => intro _; exact Int.le_refl _
    | succ n ih =>
      intro hn
      have h1 := ih (by omega)
      have h2 := ab (m + n) (by omega) (by omega)
      have h3 := ba (m + n) (by omega) (by omega)
      rw [show m + n + 1 = m + (n + 1) by omega] at h3
      omega
  have rk := run (k - 1 - m) (by omega)
  rw [show m + (k - 1 - m) = k - 1 by omega] at rk
  have gk : M.G.of (S (k - 1)) = g m := by rw [h.gs (k - 1) (by omega), show k - 1 + 1 = k by omega, close]
  have abk := ab (k - 1) (by omega) (by omega)
  have stp := giver_step ok sx i2 sz h mk (nwG m (Nat.le_refl _) mk)
  have nk := neST ok h ix (i := k - 1) (j := m) (by omega) mk
  by_cases m0 : m = 0
  · subst m0
    have := stp.1 h.start (S (k - 1)) (h.sn _ (by omega)) gk nk
    omega
  · have tl := tail_step ok sx ix i2 sz h (m - 1) (by omega)
    have gm : M.G.of (S (m - 1)) = g m := by rw [h.gs (m - 1) (by omega), show m - 1 + 1 = m by omega]
    have nm := neST ok h ix (i := m - 1) (j := m) (by omega) mk
    by_cases es : S (m - 1) = S (k - 1)
    · have a1 := tl.2 (by rw [es]; exact pz (k - 1) (by omega) (by omega))
      have tm := h.less ok (j := m - 1) (by omega)
      have pe : M.P.of (T (m - 1)) = M.P.of (T (k - 1)) := by rw [← h.same (m - 1) (by omega), ← h.same (k - 1) (by omega), es]
      have ne : T (m - 1) ≠ T (k - 1) := fun e => by
        have := h.dis (m - 1) (k - 1) (by omega) (by omega) (by rw [← h.gt (m - 1) (by omega), ← h.gt (k - 1) (by omega), e])
        omega
      rw [es] at tm
      have t2 := ((taker_step ok sx ix i2 sz h (j := k - 1) (by omega) (pz (k - 1) (by omega) (by omega))).2 (T (m - 1)) (h.tn _ (by omega)) pe tm ne).1
      have := stp.2.1 (S (k - 1)) (h.sn _ (by omega)) gk nk
      omega
    · have := stp.2.2 (S (k - 1)) (S (m - 1)) (h.sn _ (by omega)) gk nk (h.sn _ (by omega)) gm nm (fun e => es e.symm)
      have := tl.1
      omega
end
end Fr

/-! how many rows there may be; what is best for givers -/
namespace Fr
open Calm (sm sm_cons sm_le sm_sub sm_add sm_single sm_nn sm_zero sm_pos sm_same sm_lt idx_inj sm_swap)
open Classical in
noncomputable def cnt (l : List Nat) (p : Nat → Prop) : Nat := (l.filter fun j => decide (p j)).length
theorem cnt_cons {a : Nat} {l : List Nat} {p : Nat → Prop} : cnt (a :: l) p = cnt l p + (open Classical in if p a then 1 else 0) := by
  unfold cnt
  rw [List.filter_cons]
  by_cases h : p a <;> simp [h]
theorem cnt_le {l : List Nat} {p p' : Nat → Prop} (h : ∀ j ∈ l, p' j → p j) : cnt l p' ≤ cnt l p := by
  induction l with
  | nil => exact Nat.le_refl _
  | cons a l ih =>
    rw [cnt_cons, cnt_cons]
    have := ih fun j hj => h j (List.mem_cons_of_mem _ hj)
    have ha := h a (List.mem_cons_self ..)
    by_cases c : p' a
    · rw [if_pos c, if_pos (ha c)]; omega
    · rw [if_neg c]; omega
theorem cnt_lt {l : List Nat} {p p' : Nat → Prop} (h : ∀ j ∈ l, p' j → p j) {a : Nat} (ha : a ∈ l) (h1 : p a) (h2 : ¬ p' a) : cnt l p' < cnt l p := by
  induction l with
  | nil => exact nomatch ha
  | cons b l ih =>
    rw [cnt_cons, cnt_cons]
    have le := cnt_le (l := l) fun j hj => h j (List.mem_cons_of_mem _ hj)
    have hb := h b (List.mem_cons_self ..)
    rcases List.mem_cons.mp ha with e | e
    · subst e
      rw [if_neg h2, if_pos h1]; omega
    · have := ih (fun j hj => h j (List.mem_cons_of_mem _ hj)) e
      by_cases c : p' b
      · rw [if_pos c, if_pos (hb c)]; omega
      · rw [if_neg c]; omega
theorem cnt_len {l : List Nat} {p : Nat → Prop} : cnt l p ≤ l.length := List.length_filter_le ..
section
variable {M : Mk} {S : Side} {n : Nat} {x y z : Nat → Int} {t s u : Nat} {c : Int} {U D : Nat → Prop}
def opn (M : Mk) (x : Nat → Int) (t : Nat) : Prop := x t < M.r t ∧ will M.P x t
theorem not_closed : ¬ closed M x t ↔ opn M x t := by
  unfold closed opn
  constructor
  · intro h
    apply Classical.byContradiction
    intro q
    exact h fun a b => q ⟨a, b⟩
  · rintro ⟨a, b⟩ h
    exact h a b
noncomputable def pot (M : Mk) (a b : Nat) (x : Nat → Int) : Nat :=
  cnt (List.range M.n) (opn M x) + cnt (List.range M.n) (fun t => ¬ (¬ will M.P x t ∧ x t = 0)) + cnt (List.range b) (fun h => tot M.P x h < M.P.m h) + cnt (List.range a) (fun h => tot M.G x h < M.G.m h ∧ ∃ t, t < M.n ∧ M.G.of t = h ∧ opn M x t)
theorem pot_le {a b : Nat} : pot M a b x ≤ 2 * M.n + a + b := by
  unfold pot
  have h1 := cnt_len (l := List.range M.n) (p := opn M x)
  have h2 := cnt_len (l := List.range M.n) (p := fun t => ¬ (¬ will M.P x t ∧ x t = 0))
  have h3 := cnt_len (l := List.range b) (p := fun h => tot M.P x h < M.P.m h)
  have h4 := cnt_len (l := List.range a) (p := fun h => tot M.G x h < M.G.m h ∧ ∃ t, t < M.n ∧ M.G.of t = h ∧ opn M x t)
  simp only [List.length_range] at h1 h2 h3 h4
  omega
/-- what ends a row -/
def Tight (M : Mk) (x : Nat → Int) (c : Int) (U D : Nat → Prop) : Prop :=
  (∃ t, U t ∧ x t + c = M.r t) ∨ (∃ t, D t ∧ x t = c) ∨ (∃ u, U u ∧ (∀ t, D t → M.P.of t ≠ M.P.of u) ∧ tot M.P x (M.P.of u) + c = M.P.m (M.P.of u)) ∨ (∃ u, U u ∧ (∀ t, D t → M.G.of t ≠ M.G.of u) ∧ tot M.G x (M.G.of u) + c = M.G.m (M.G.of u))
theorem Row.pot_lt (ok : M.Ok) (sx : Sh M x) (w : Row M x y c U D) {a b : Nat} (ga : ∀ t, t < M.n → M.G.of t < a) (pb : ∀ t, t < M.n → M.P.of t < b) (ti : Tight M x c U D) : pot M a b y < pot M a b x := by
  have c1 := w.c1
  have sy := w.sh ok sx
  have o1 : ∀ t, t < M.n → opn M y t → opn M x t := fun t ht h => by
    rw [← not_closed] at h ⊢
    exact fun q => h (w.shut ok sx ht q)
  have h1 : ∀ t ∈ List.range M.n, opn M y t → opn M x t := fun t ht => o1 t (List.mem_range.mp ht)
  have h2 : ∀ t ∈ List.range M.n, ¬ (¬ will M.P y t ∧ y t = 0) → ¬ (¬ will M.P x t ∧ x t = 0) := fun t ht h q => by
    refine h ⟨w.keep ok sx (List.mem_range.mp ht) q.1, ?_⟩
    have nu : ¬ U t := fun z => q.1 (w.want t z).1
    have nd : ¬ D t := fun z => by have := w.dr t z; omega
    rw [w.st t nu nd]; exact q.2
  have h3 : ∀ h ∈ List.range b, tot M.P y h < M.P.m h → tot M.P x h < M.P.m h := fun h _ q => by
    have := w.p_up ok h; omega
  have h4 : ∀ h ∈ List.range a, (tot M.G y h < M.G.m h ∧ ∃ t, t < M.n ∧ M.G.of t = h ∧ opn M y t) → (tot M.G x h < M.G.m h ∧ ∃ t, t < M.n ∧ M.G.of t = h ∧ opn M x t) := fun h _ ⟨q1, t, q2, q3, q4⟩ => by
    refine ⟨?_, t, q2, q3, o1 t q2 q4⟩
    apply Classical.byContradiction
    intro q5
    have gx := sx.g h
    obtain ⟨k1, k2, k3, k4⟩ := w.totG ok h
    have hd : ∃ u, D u ∧ M.G.of u = h := by
      apply Classical.byContradiction
      intro z
      have z : ∀ t, D t → M.G.of t ≠ h := fun t ht e => z ⟨t, ht, e⟩
      by_cases hu : ∃ u, U u ∧ M.G.of u = h
      · rw [k2 hu z] at q1; omega
      · rw [k4 (fun t ht e => hu ⟨t, ht, e⟩) z] at q1; omega
    obtain ⟨d, d1, d2⟩ := hd
    rcases w.next d d1 with ⟨u, u1, u2⟩ | cl
    · rw [k1 ⟨u, u1, by rw [u2, d2]⟩ ⟨d, d1, d2⟩] at q1; omega
    · have := cl t q2 (by rw [q3, d2])
      exact not_closed.mpr (o1 t q2 q4) this
  unfold pot
  have l1 := cnt_le h1
  have l2 := cnt_le h2
  have l3 := cnt_le h3
  have l4 := cnt_le h4
  rcases ti with ⟨t, ut, e⟩ | ⟨t, dt, e⟩ | ⟨u, uu, nd, e⟩ | ⟨u, uu, nd, e⟩
  · have := cnt_lt h1 (List.mem_range.mpr (w.un t ut)) ⟨by omega, (w.want t ut).1⟩ fun q => by
      have := q.1
      rw [w.up t ut] at this
      omega
    omega
  · have := cnt_lt h2 (List.mem_range.mpr (w.dl t dt)) (fun q => by have := q.2; omega) fun q => q ⟨w.gone ok sx dt, by rw [w.dn t dt]; omega⟩
    omega
  · have := cnt_lt h3 (List.mem_range.mpr (pb u (w.un u uu))) (show tot M.P x (M.P.of u) < _ by omega) fun q => by
      rw [(w.totP ok (M.P.of u)).2.1 ⟨u, uu, rfl⟩ nd] at q
      omega
    omega
  · have := cnt_lt h4 (List.mem_range.mpr (ga u (w.un u uu))) (show tot M.G x (M.G.of u) < _ ∧ _ from ⟨by omega, u, w.un u uu, rfl, by have := w.ur u uu; omega, (w.want u uu).1⟩) fun q => by
      have := q.1
      rw [(w.totG ok (M.G.of u)).2.1 ⟨u, uu, rfl⟩ nd] at this
      omega
    omega
/-- what the rows lead to is kept -/
structure Good (M : Mk) (x : Nat → Int) : Prop where
  sh : Sh M x
  i1 : I1 M x
  i2 : I2 M x
theorem good_0 (ok : M.Ok) (r0 : ∀ t, 0 ≤ M.r t) (g0 : ∀ h, 0 ≤ M.G.m h) (p0 : ∀ h, 0 ≤ M.P.m h) : Good M (fun _ => 0) := by
  have e : ∀ (S : Side) h, tot S (fun _ => 0) h = 0 := fun S h => Calm.sm_nul fun _ _ => rfl
  refine ⟨⟨fun _ => Int.le_refl _, fun t _ => r0 t, fun h => by rw [e]; exact g0 h, fun h => by rw [e]; exact p0 h⟩, fun t ht lt ⟨s, hs, q⟩ => absurd q (Int.lt_irrefl 0), fun z sz t ht nw => ?_⟩
  obtain ⟨f, _⟩ := not_will ok.p (by rw [e]; exact p0 _) (fun _ => Int.le_refl _) nw
  rw [e] at f
  have h1 := sz.sh.p (M.P.of t)
  have h2 := sm_gap (g := fun _ => 0) (g' := z) (ok.p.nd (M.P.of t)) (ok.p.mem t ht) fun j _ => sz.sh.lo j
  have h3 : sm (M.P.o (M.P.of t)) (fun _ => 0) = 0 := e M.P _
  unfold tot at h1
  omega
/-- settled, and best for givers -/
structure Best (M : Mk) (y : Nat → Int) : Prop where
  stl : Stl M y
  i1 : I1 M y
  i2 : I2 M y
theorem Good.best (ok : M.Ok) (g : Good M x) (no : ∀ t, t < M.n → tot M.G x (M.G.of t) < M.G.m (M.G.of t) → closed M x t) : Best M x := by
  refine ⟨⟨g.sh, fun t ht lt wg wp => ?_⟩, g.i1, g.i2⟩
  rcases wg with q | q
  · exact no t ht q lt wp
  · exact g.i1 t ht lt q wp
/-- in all settled sharings each seat has as much -/
theorem Best.tots (ok : M.Ok) (b : Best M y) (sz : Stl M z) (a c : Nat) (ga : ∀ t, t < M.n → M.G.of t < a) (pc : ∀ t, t < M.n → M.P.of t < c) (h : Nat) : tot M.G z h = tot M.G y h ∧ tot M.P z h = tot M.P y h := by
  have sy := b.stl.sh
  have h1 : ∀ h, tot M.G z h ≤ tot M.G y h := fun h => by
    by_cases q : tot M.G y h < M.G.m h
    · refine sm_le fun t ht => ?_
      obtain ⟨tn, te⟩ := ok.g.back _ _ ht
      by_cases r : y t < M.r t
      · refine b.i2 z sz t tn fun wp => b.stl.no t tn r (.inl (by rw [te]; exact q)) wp
      · have := sz.sh.hi t tn; omega
    · have := sz.sh.g h; omega
  have h2 : ∀ h, tot M.P y h ≤ tot M.P z h := fun h => by
    apply Classical.byContradiction
    intro q
    have q : tot M.P z h < tot M.P y h := by omega
    obtain ⟨s, ms, ls⟩ := sm_ex (show sm (M.P.o h) z < sm (M.P.o h) y from q)
    obtain ⟨sn, se⟩ := ok.p.back _ _ ms
    exact claimA ok sy b.i1 (b.i2 z sz) sz sn ls (.inl (by rw [se]; have := sy.p h; omega))
  have swp : ∀ (S : Side) (k : Nat) (f : Nat → Int), S.Ok M.n → (∀ t, t < M.n → S.of t < k) → sm (List.range k) (fun h => tot S f h) = sm (List.range M.n) f := fun S k f okS lt => by
    have e1 : ∀ h, tot S f h = sm (List.range M.n) fun t => if S.of t = h then f t else 0 := fun h => by
      have p : (S.o h).Perm ((List.range M.n).filter fun t => decide (S.of t = h)) := by
        refine (List.perm_ext_iff_of_nodup (okS.nd h) (List.nodup_range.filter _)).mpr fun t => ?_
        rw [List.mem_filter, List.mem_range, decide_eq_true_iff]
        exact ⟨okS.back h t, fun ⟨q1, q2⟩ => by rw [← q2]; exact okS.mem t q1⟩
      unfold tot
      rw [Calm.sm_perm p, Calm.sm_filter]
      refine sm_same fun t _ => ?_
      by_cases q : S.of t = h <;> simp [q]
    have e2 : sm (List.range k) (fun h => tot S f h) = sm (List.range k) fun h => sm (List.range M.n) fun t => if S.of t = h then f t else 0 := sm_same fun h _ => e1 h
    rw [e2, sm_swap]
    refine sm_same fun t ht => ?_
    have tn := List.mem_range.mp ht
    have := sm_single (g := fun h => if S.of t = h then f t else 0) List.nodup_range (List.mem_range.mpr (lt t tn)) fun h _ hn => if_neg fun e => hn e.symm
    rw [this]
    exact if_pos rfl
  have eG := swp M.G a
  have eP := swp M.P c
  have s1 : sm (List.range a) (fun h => tot M.G z h) ≤ sm (List.range a) (fun h => tot M.G y h) := sm_le fun h _ => h1 h
  have s2 : sm (List.range c) (fun h => tot M.P y h) ≤ sm (List.range c) (fun h => tot M.P z h) := sm_le fun h _ => h2 h
  have y1 := eG y ok.g ga
  have y2 := eP y ok.p pc
  have z1 := eG z ok.g ga
  have z2 := eP z ok.p pc
  constructor
  · by_cases q : h < a
    · apply Classical.byContradiction
      intro ne
      have := sm_lt (l := List.range a) (g := fun h => tot M.G z h) (f := fun h => tot M.G y h) (fun h _ => h1 h) (List.mem_range.mpr q) (by have := h1 h; omega)
      omega
    · have e : ∀ f : Nat → Int, tot M.G f h = 0 := fun f => Calm.sm_nul fun t ht => by
        obtain ⟨tn, te⟩ := ok.g.back _ _ ht
        have := ga t tn
        omega
      rw [e, e]
  · by_cases q : h < c
    · apply Classical.byContradiction
      intro ne
      have := sm_lt (l := List.range c) (g := fun h => tot M.P y h) (f := fun h => tot M.P z h) (fun h _ => h2 h) (List.mem_range.mpr q) (by have := h2 h; omega)
      omega
    · have e : ∀ f : Nat → Int, tot M.P f h = 0 := fun f => Calm.sm_nul fun t ht => by
        obtain ⟨tn, te⟩ := ok.p.back _ _ ht
        have := pc t tn
        omega
      rw [e, e]
/-- no giver likes its row elsewhere better -/
theorem Best.first (ok : M.Ok) (b : Best M y) (sz : Stl M z) (ht : t < M.n) (eq : ∀ s, aft M.G s t → s < M.n → z s = y s) : z t ≤ y t := by
  apply Classical.byContradiction
  intro q
  have lt : y t < M.r t := by have := sz.sh.hi t ht; omega
  have sy := b.stl.sh
  have wp : will M.P y t := by
    apply Classical.byContradiction
    intro q2
    have := b.i2 z sz t ht q2
    omega
  have wg : ¬ will M.G y t := fun w => b.stl.no t ht lt w wp
  obtain ⟨f, y0⟩ := not_will ok.g (sy.g _) sy.lo wg
  have := sm_gap (g := y) (g' := z) (ok.g.nd _) (ok.g.mem t ht) fun j hj => by
    obtain ⟨jn, je⟩ := ok.g.back _ _ hj
    rcases aft.tri ok.g jn ht je with a | a | a
    · rw [eq j a jn]; exact Int.le_refl _
    · rw [a]; omega
    · rw [y0 j a]; exact sz.sh.lo j
  have zg := sz.sh.g (M.G.of t)
  unfold tot at f zg
  omega
end
end Fr

namespace Fn
open PySem PySem.Spec PyProof.Rows L2 Uv
/-! the program: webs led to fairs -/
def doorP (W : Web) (s : Nat) : List (Road × Nat) := W.roads.zipIdx.filter fun p => (side s p.1).isNone
def doorsOf (W : Web) (s : Nat) : List Nat := (doorP W s).map (·.2)
def bigOf (W : Web) : Int := (W.roads.map (·.r)).sum + 1
def seatOf (W : Web) (s : Nat) (p : Road × Nat) : Nat := match side s p.1 with
  | none => W.gives.length + (doorsOf W s).idxOf p.2
  | some h => h
def roadTies (W : Web) : List Tie := W.roads.zipIdx.map fun p => ⟨seatOf W 0 p, seatOf W 1 p, p.1.r⟩
def houseTies (W : Web) : List Tie := (List.range W.gives.length).flatMap fun h => [⟨h, h, bigOf W⟩, ⟨h, h, bigOf W⟩]
def lyingOf (W : Web) (h : Nat) : Nat := W.roads.length + 2 * h
def doorSeats (W : Web) (s : Nat) : List Seat := (doorP W s).map fun p => ⟨p.1.r, [p.2]⟩
def giversOf (W : Web) : List Seat := (W.gives.zipIdx.map fun p => ⟨bigOf W, lyingOf W p.2 :: (p.1 ++ [lyingOf W p.2 + 1])⟩) ++ doorSeats W 0
def takersOf (W : Web) : List Seat := (W.takes.zipIdx.map fun p => ⟨bigOf W, (lyingOf W p.2 + 1) :: (p.1 ++ [lyingOf W p.2])⟩) ++ doorSeats W 1
def fairOf (W : Web) : Fair := ⟨roadTies W ++ houseTies W, giversOf W, takersOf W⟩
theorem doorP_mem {W : Web} {s : Nat} {p : Road × Nat} (h : p ∈ doorP W s) : ∃ hk : p.2 < W.roads.length, W.roads[p.2] = p.1 ∧ side s p.1 = none := by
  unfold doorP at h
  obtain ⟨h1, h2⟩ := List.mem_filter.mp h
  obtain ⟨x, i⟩ := p
  obtain ⟨h3, h4⟩ := List.mem_zipIdx' h1
  exact ⟨h3, h4.symm, by simpa using h2⟩
theorem doors_len {W : Web} {s : Nat} : (doorP W s).length ≤ W.roads.length := by
  unfold doorP
  exact Nat.le_trans (List.length_filter_le _ _) (by simp)
theorem p_in_doors {W : Web} (hw : IsWeb W) : F_in_doors [webD W] = some (natsD (doorsOf W 0)) := by
  have hc := hw.count
  unfold F_in_doors
  refine eq_of_wp (wp_runP rfl ?_)
  unfold X_in_doors
  simp -implicitDefEqProofs
  refine ⟨by omega, wp_lcE (fun p => (side 0 p.1).isNone) (fun p => natD p.2) (fun i hi => by simp -implicitDefEqProofs [side]) ?_⟩
  simp -implicitDefEqProofs
  unfold doorsOf natsD doorP
  rw [List.map_map]
  rfl
theorem p_out_doors {W : Web} (hw : IsWeb W) : F_out_doors [webD W] = some (natsD (doorsOf W 1)) := by
  have hc := hw.count
  unfold F_out_doors
  refine eq_of_wp (wp_runP rfl ?_)
  unfold X_out_doors
  simp -implicitDefEqProofs
  refine ⟨by omega, wp_lcE (fun p => (side 1 p.1).isNone) (fun p => natD p.2) (fun i hi => by simp -implicitDefEqProofs [side]) ?_⟩
  simp -implicitDefEqProofs
  unfold doorsOf natsD doorP
  rw [List.map_map]
  rfl
theorem p_big_of {W : Web} (hw : IsWeb W) : F_big_of [webD W] = some (.int (bigOf W)) := by
  have hc := hw.count
  unfold F_big_of
  refine eq_of_wp (wp_runP rfl ?_)
  unfold X_big_of
  simp -implicitDefEqProofs
  refine ⟨by omega, wp_lcT (fun x => .int x.r) (fun x hx => by simp -implicitDefEqProofs) ?_⟩
  simp -implicitDefEqProofs [q_sum]
  rfl
theorem p_lying {W : Web} {h : Nat} : F_lying [webD W, natD h] = some (natD (lyingOf W h)) := by
  unfold F_lying
  refine eq_of_wp (wp_runP rfl ?_)
  unfold X_lying
  simp -implicitDefEqProofs
  rfl
theorem p_standing {W : Web} {h : Nat} : F_standing [webD W, natD h] = some (natD (lyingOf W h + 1)) := by
  unfold F_standing
  refine eq_of_wp (wp_runP rfl ?_)
  unfold X_standing
  simp -implicitDefEqProofs [p_lying]
theorem p_door_seats {W : Web} {s : Nat} (hw : IsWeb W) : F_door_seats [webD W, natsD (doorsOf W s)] = some (.list ((doorSeats W s).map seatD)) := by
  have hc := hw.count
  have hd := doors_len (W := W) (s := s)
  unfold F_door_seats
  refine eq_of_wp (wp_runP rfl ?_)
  unfold X_door_seats
  simp -implicitDefEqProofs
  refine ⟨by unfold doorsOf; simp; omega, ?_⟩
  rw [show (doorsOf W s).map natD = (doorP W s).map fun p => natD p.2 by unfold doorsOf; rw [List.map_map]; rfl]
  refine wp_lcT (fun p => seatD ⟨p.1.r, [p.2]⟩) (fun p hp => ?_) ?_
  · obtain ⟨h1, h2, h3⟩ := doorP_mem hp
    simp -implicitDefEqProofs [atI_map h1, h2]
    rfl
  · simp -implicitDefEqProofs
    unfold doorSeats
    rw [List.map_map]
    rfl
theorem give_len {W : Web} (hw : IsWeb W) {i : Nat} (hi : i < W.gives.length) : W.gives[i].length ≤ 20 := by
  rw [(hw.give i _ (List.getElem?_eq_getElem hi)).length_eq]
  unfold atR
  rw [List.length_map]
  exact Nat.le_trans (List.length_filter_le _ _) (by simpa using hw.count.2)
theorem take_len {W : Web} (hw : IsWeb W) {i : Nat} (hi : i < W.takes.length) : W.takes[i].length ≤ 20 := by
  rw [(hw.take i _ (List.getElem?_eq_getElem hi)).length_eq]
  unfold atR
  rw [List.length_map]
  exact Nat.le_trans (List.length_filter_le _ _) (by simpa using hw.count.2)
theorem p_givers_of {W : Web} (hw : IsWeb W) : F_givers_of [webD W] = some (.tuple ((giversOf W).map seatD)) := by
  have hc := hw.count
  have hh := hw.houses
  have hd := doors_len (W := W) (s := 0)
  unfold F_givers_of
  refine eq_of_wp (wp_runP rfl ?_)
  unfold X_givers_of
  simp -implicitDefEqProofs [p_big_of hw]
  refine ⟨by omega, wp_lcET (fun p => seatD ⟨bigOf W, lyingOf W p.2 :: (p.1 ++ [lyingOf W p.2 + 1])⟩) (fun i hi => ?_) ?_⟩
  · simp -implicitDefEqProofs [p_lying, p_standing]
    refine ⟨by have := give_len hw hi; omega, ?_⟩
    unfold seatD natsD
    simp
  · simp -implicitDefEqProofs [p_in_doors hw, p_door_seats hw]
    refine ⟨by unfold doorSeats; simp; omega, ?_⟩
    unfold giversOf
    rw [List.map_append, List.map_map]
    rfl
theorem p_takers_of {W : Web} (hw : IsWeb W) : F_takers_of [webD W] = some (.tuple ((takersOf W).map seatD)) := by
  have hc := hw.count
  have hh := hw.houses
  have hs := hw.same
  have hd := doors_len (W := W) (s := 1)
  unfold F_takers_of
  refine eq_of_wp (wp_runP rfl ?_)
  unfold X_takers_of
  simp -implicitDefEqProofs [p_big_of hw]
  refine ⟨by omega, wp_lcET (fun p => seatD ⟨bigOf W, (lyingOf W p.2 + 1) :: (p.1 ++ [lyingOf W p.2])⟩) (fun i hi => ?_) ?_⟩
  · simp -implicitDefEqProofs [p_lying, p_standing]
    refine ⟨by have := take_len hw hi; omega, ?_⟩
    unfold seatD natsD
    simp
  · simp -implicitDefEqProofs [p_out_doors hw, p_door_seats hw]
    refine ⟨by unfold doorSeats; simp; omega, ?_⟩
    unfold takersOf
    rw [List.map_append, List.map_map]
    rfl
theorem door_in {W : Web} {s i : Nat} (hi : i < W.roads.length) (h : side s W.roads[i] = none) : i ∈ doorsOf W s := by
  unfold doorsOf doorP
  refine List.mem_map.mpr ⟨(W.roads[i], i), List.mem_filter.mpr ⟨?_, by simp [h]⟩, rfl⟩
  exact List.mem_zipIdx_iff_getElem?.mpr (List.getElem?_eq_getElem hi)
theorem p_road_ties {W : Web} (hw : IsWeb W) : F_road_ties [webD W] = some (.tuple ((roadTies W).map tieD)) := by
  have hc := hw.count
  unfold F_road_ties
  refine eq_of_wp (wp_runP rfl ?_)
  unfold X_road_ties
  simp -implicitDefEqProofs [p_in_doors hw, p_out_doors hw]
  refine wp_forE (fun k ρ => ∃ (ds : List PD) (z5 z6 z7 z8 z9 z10 : Sl), ρ = [.dat (webD W), .dat (natsD (doorsOf W 0)), .dat (natsD (doorsOf W 1)), .dat (natD W.gives.length), .own (dats ds), z5, z6, z7, z8, z9, z10] ∧ ds = ((roadTies W).take k).map tieD) ⟨[], _, _, _, _, _, _, rfl, rfl⟩ ?_ ?_
  · rintro i hi ρ ⟨ds, z5, z6, z7, z8, z9, z10, rfl, hds⟩
    have dl : ds.length ≤ i := by rw [hds]; simp; omega
    unfold X_road_ties_b1
    have hl : i < (roadTies W).length := by unfold roadTies; simpa using hi
    have ht : (roadTies W)[i] = ⟨seatOf W 0 (W.roads[i], i), seatOf W 1 (W.roads[i], i), W.roads[i].r⟩ := by simp only [roadTies, List.getElem_map, List.getElem_zipIdx, Nat.zero_add]
    have fin : ((roadTies W).take (i + 1)).map tieD = ((roadTies W).take i).map tieD ++ [tieD (roadTies W)[i]] := by rw [List.take_succ_eq_append_getElem hl, List.map_append]; rfl
    cases hb : W.roads[i].b with
    | none =>
      have m0 := n_idx (door_in (s := 0) hi (by simpa [side] using hb))
      cases he : W.roads[i].e with
      | none =>
        have m1 := n_idx (door_in (s := 1) hi (by simpa [side] using he))
        simp -implicitDefEqProofs [hb, he, q_idx, m0, m1]
        refine ⟨by omega, ⟨_, _, _, _, _, _, _, rfl, ?_⟩⟩
        rw [fin, ht, hds]
        simp [tieD, seatOf, side, hb, he]
      | some t =>
        simp -implicitDefEqProofs [hb, he, q_idx, m0, endD]
        refine ⟨by omega, ⟨_, _, _, _, _, _, _, rfl, ?_⟩⟩
        rw [fin, ht, hds]
        simp [tieD, seatOf, side, hb, he]
    | some g =>
      cases he : W.roads[i].e with
      | none =>
        have m1 := n_idx (door_in (s := 1) hi (by simpa [side] using he))
        simp -implicitDefEqProofs [hb, he, q_idx, m1, endD]
        refine ⟨by omega, ⟨_, _, _, _, _, _, _, rfl, ?_⟩⟩
        rw [fin, ht, hds]
        simp [tieD, seatOf, side, hb, he]
      | some t =>
        simp -implicitDefEqProofs [hb, he, q_idx, endD]
        refine ⟨by omega, ⟨_, _, _, _, _, _, _, rfl, ?_⟩⟩
        rw [fin, ht, hds]
        simp [tieD, seatOf, side, hb, he]
  · rintro ρ ⟨ds, z5, z6, z7, z8, z9, z10, rfl, rfl⟩
    simp -implicitDefEqProofs
    rw [List.take_of_length_le (by unfold roadTies; simp)]
theorem p_house_ties {W : Web} (hw : IsWeb W) : F_house_ties [webD W] = some (.tuple ((houseTies W).map tieD)) := by
  have hh := hw.houses
  unfold F_house_ties
  refine eq_of_wp (wp_runP rfl ?_)
  unfold X_house_ties
  simp -implicitDefEqProofs [p_big_of hw]
  refine ⟨in62_nat (by omega), ?_⟩
  refine wp_forR (fun k ρ => ∃ (ds : List PD) (z3 : Sl), ρ = [.dat (webD W), .dat (.int (bigOf W)), .own (dats ds), z3] ∧ ds = ((List.range k).flatMap fun h => [(⟨h, h, bigOf W⟩ : Tie), ⟨h, h, bigOf W⟩]).map tieD ∧ ds.length = 2 * k) ⟨[], _, rfl, rfl, rfl⟩ ?_ ?_
  · rintro i hi ρ ⟨ds, z3, rfl, hds, hl⟩
    unfold X_house_ties_b1
    simp -implicitDefEqProofs
    refine ⟨by omega, ⟨_, _, rfl, ?_, by simp; omega⟩⟩
    rw [List.range_succ, List.flatMap_append, List.map_append, ← hds]
    simp [tieD]
  · rintro ρ ⟨ds, z3, rfl, rfl, hl⟩
    simp -implicitDefEqProofs
    rfl
theorem house_len {W : Web} : (houseTies W).length = 2 * W.gives.length := by
  unfold houseTies
  generalize W.gives.length = n
  induction n with
  | zero => rfl
  | succ n ih => rw [List.range_succ, List.flatMap_append, List.length_append, ih]; simp; omega
theorem p_fair_of {W : Web} (hw : IsWeb W) : F_fair_of [webD W] = some (fairD (fairOf W)) := by
  unfold F_fair_of
  refine eq_of_wp (wp_runP rfl ?_)
  unfold X_fair_of
  simp -implicitDefEqProofs [p_road_ties hw, p_house_ties hw, p_givers_of hw, p_takers_of hw]
  have hc := hw.count
  have hh := hw.houses
  refine ⟨by rw [house_len]; unfold roadTies; simp; omega, ?_⟩
  unfold fairD fairOf
  simp
end Fn

namespace Fn
open PySem PySem.Spec PyProof.Rows L2 Uv
/-! the fair of a web is a fair -/
theorem mem_atT {ts : List Tie} {s k j : Nat} : j ∈ atT ts s k ↔ ∃ x, ts[j]? = some x ∧ tside s x = k := by
  unfold atT
  constructor
  · intro h
    obtain ⟨⟨x, i⟩, h1, rfl⟩ := List.mem_map.mp h
    obtain ⟨h2, h3⟩ := List.mem_filter.mp h1
    exact ⟨x, List.mem_zipIdx_iff_getElem?.mp h2, by simpa using h3⟩
  · rintro ⟨x, h1, h2⟩
    exact List.mem_map.mpr ⟨(x, j), List.mem_filter.mpr ⟨List.mem_zipIdx_iff_getElem?.mpr h1, by simpa using h2⟩, rfl⟩
theorem mem_atR {rs : List Road} {s h j : Nat} : j ∈ atR rs s h ↔ ∃ x, rs[j]? = some x ∧ side s x = some h := by
  unfold atR
  constructor
  · intro h
    obtain ⟨⟨x, i⟩, h1, rfl⟩ := List.mem_map.mp h
    obtain ⟨h2, h3⟩ := List.mem_filter.mp h1
    exact ⟨x, List.mem_zipIdx_iff_getElem?.mp h2, by simpa using h3⟩
  · rintro ⟨x, h1, h2⟩
    exact List.mem_map.mpr ⟨(x, j), List.mem_filter.mpr ⟨List.mem_zipIdx_iff_getElem?.mpr h1, by simpa using h2⟩, rfl⟩
theorem mem_doors {W : Web} {s j : Nat} : j ∈ doorsOf W s ↔ ∃ x, W.roads[j]? = some x ∧ side s x = none := by
  unfold doorsOf doorP
  constructor
  · intro h
    obtain ⟨⟨x, i⟩, h1, rfl⟩ := List.mem_map.mp h
    obtain ⟨h2, h3⟩ := List.mem_filter.mp h1
    exact ⟨x, List.mem_zipIdx_iff_getElem?.mp h2, by simpa using h3⟩
  · rintro ⟨x, h1, h2⟩
    exact List.mem_map.mpr ⟨(x, j), List.mem_filter.mpr ⟨List.mem_zipIdx_iff_getElem?.mpr h1, by simp [h2]⟩, rfl⟩
theorem nodup_of_lt {l : List Nat} (h : l.Pairwise (· < ·)) : l.Nodup := h.imp fun h => by omega
theorem doors_sorted {W : Web} {s : Nat} : (doorsOf W s).Pairwise (· < ·) := (zip_sorted W.roads 0 _).1
theorem house_get {W : Web} {i : Nat} (h : i < 2 * W.gives.length) : (houseTies W)[i]? = some ⟨i / 2, i / 2, bigOf W⟩ := by
  unfold houseTies
  revert h
  generalize W.gives.length = n
  intro h
  have len : ∀ n : Nat, ((List.range n).flatMap fun h => [(⟨h, h, bigOf W⟩ : Tie), ⟨h, h, bigOf W⟩]).length = 2 * n := fun n => by
    induction n with
    | zero => rfl
    | succ n ih => rw [List.range_succ, List.flatMap_append, List.length_append, ih]; simp; omega
  induction n with
  | zero => omega
  | succ n ih =>
    rw [List.range_succ, List.flatMap_append]
    by_cases c : i < 2 * n
    · rw [List.getElem?_append_left (by rw [len]; exact c)]
      exact ih c
    · rw [List.getElem?_append_right (by rw [len]; omega), len]
      have : i = 2 * n ∨ i = 2 * n + 1 := by omega
      rcases this with rfl | rfl
      · simp
      · rw [show 2 * n + 1 - 2 * n = 1 by omega, show (2 * n + 1) / 2 = n by omega]
        simp
theorem tie_road {W : Web} {j : Nat} {x : Road} (h : W.roads[j]? = some x) : (fairOf W).ties[j]? = some ⟨seatOf W 0 (x, j), seatOf W 1 (x, j), x.r⟩ := by
  have hj : j < W.roads.length := (List.getElem?_eq_some_iff.mp h).1
  show (roadTies W ++ houseTies W)[j]? = _
  rw [List.getElem?_append_left (by unfold roadTies; simpa using hj)]
  unfold roadTies
  rw [List.getElem?_map, List.getElem?_zipIdx, h]
  simp
theorem tie_house {W : Web} {j : Nat} (h1 : W.roads.length ≤ j) (h2 : j < W.roads.length + 2 * W.gives.length) : (fairOf W).ties[j]? = some ⟨(j - W.roads.length) / 2, (j - W.roads.length) / 2, bigOf W⟩ := by
  have e : (roadTies W).length = W.roads.length := by unfold roadTies; simp
  show (roadTies W ++ houseTies W)[j]? = _
  rw [List.getElem?_append_right (by rw [e]; exact h1), e]
  exact house_get (by omega)
theorem ties_len {W : Web} : (fairOf W).ties.length = W.roads.length + 2 * W.gives.length := by
  show (roadTies W ++ houseTies W).length = _
  rw [List.length_append, house_len]
  unfold roadTies
  simp
theorem tside_seat {W : Web} {s : Nat} {p : Road × Nat} {r : Int} (hs : s < 2) : tside s ⟨seatOf W 0 p, seatOf W 1 p, r⟩ = seatOf W s p := by
  have : s = 0 ∨ s = 1 := by omega
  rcases this with rfl | rfl <;> rfl
theorem tside_same {s k : Nat} {r : Int} : tside s ⟨k, k, r⟩ = k := by unfold tside; split <;> rfl
/-- which ties a seat has -/
theorem mem_ties {W : Web} {s k j : Nat} (hs : s < 2) : j ∈ atT (fairOf W).ties s k ↔ (∃ x, W.roads[j]? = some x ∧ seatOf W s (x, j) = k) ∨ (W.roads.length ≤ j ∧ j < W.roads.length + 2 * W.gives.length ∧ (j - W.roads.length) / 2 = k) := by
  rw [mem_atT]
  constructor
  · rintro ⟨x, h1, h2⟩
    have hj := (List.getElem?_eq_some_iff.mp h1).1
    rw [ties_len] at hj
    by_cases c : j < W.roads.length
    · rw [tie_road (List.getElem?_eq_getElem c)] at h1
      cases h1
      rw [tside_seat hs] at h2
      exact .inl ⟨_, List.getElem?_eq_getElem c, h2⟩
    · rw [tie_house (by omega) hj] at h1
      cases h1
      rw [tside_same] at h2
      exact .inr ⟨by omega, hj, h2⟩
  · rintro (⟨x, h1, h2⟩ | ⟨h1, h2, h3⟩)
    · exact ⟨_, tie_road h1, by rw [tside_seat hs]; exact h2⟩
    · exact ⟨_, tie_house h1 h2, by rw [tside_same]; exact h3⟩
theorem sum_le {l : List Int} {m : Int} (h : ∀ x ∈ l, x ≤ m) : l.sum ≤ l.length * m := by
  induction l with
  | nil => simp
  | cons x xs ih =>
    have h1 := h x (List.mem_cons_self ..)
    have h2 := ih fun y hy => h y (List.mem_cons_of_mem _ hy)
    rw [List.sum_cons, List.length_cons, Int.natCast_add, Int.add_mul]
    omega
theorem sum_nn {l : List Int} (h : ∀ x ∈ l, 0 ≤ x) : 0 ≤ l.sum := by
  induction l with
  | nil => simp
  | cons x xs ih =>
    have h1 := h x (List.mem_cons_self ..)
    have h2 := ih fun y hy => h y (List.mem_cons_of_mem _ hy)
    rw [List.sum_cons]
    omega
theorem big_ok {W : Web} (hw : IsWeb W) : 1 ≤ bigOf W ∧ bigOf W ≤ 20000000000001 := by
  have hc := hw.count
  have h1 : 0 ≤ (W.roads.map (·.r)).sum := sum_nn fun x hx => by
    obtain ⟨y, hy, rfl⟩ := List.mem_map.mp hx
    exact (hw.road y hy).2.2.2.1
  have h2 : (W.roads.map (·.r)).sum ≤ (W.roads.map (·.r)).length * 1000000000000 := sum_le fun x hx => by
    obtain ⟨y, hy, rfl⟩ := List.mem_map.mp hx
    exact (hw.road y hy).2.2.2.2
  rw [List.length_map] at h2
  unfold bigOf
  omega
/-- the order of a house's seat -/
theorem seat_perm {W : Web} (hw : IsWeb W) {s k : Nat} {l : List Nat} {a b : Nat} (hs : s < 2) (hk : k < W.gives.length) (hp : l.Perm (atR W.roads s k)) (hab : (a = lyingOf W k ∧ b = lyingOf W k + 1) ∨ (a = lyingOf W k + 1 ∧ b = lyingOf W k)) : (a :: (l ++ [b])).Perm (atT (fairOf W).ties s k) := by
  have ht := nodup_of_lt (atT_sorted (fairOf W).ties s k)
  have hl : ∀ j ∈ l, j < W.roads.length := fun j hj => atR_lt (hp.mem_iff.mp hj)
  have nl : l.Nodup := hp.nodup_iff.mpr (nodup_of_lt (atR_sorted _ _ _))
  unfold lyingOf at hab
  have na : (a :: (l ++ [b])).Nodup := by
    rw [List.nodup_cons, List.nodup_append]
    refine ⟨fun h => ?_, nl, by simp, fun x hx y hy => ?_⟩
    · rcases List.mem_append.mp h with h | h
      · have := hl a h; omega
      · have := List.mem_singleton.mp h; omega
    · have := hl x hx
      have := List.mem_singleton.mp hy
      omega
  refine (List.perm_ext_iff_of_nodup na ht).mpr fun j => ?_
  rw [mem_ties hs, List.mem_cons, List.mem_append, List.mem_singleton, hp.mem_iff, mem_atR]
  constructor
  · rintro (h | ⟨x, h1, h2⟩ | h)
    · right; omega
    · left; exact ⟨x, h1, by unfold seatOf; rw [show side s (x, j).1 = some k from h2]⟩
    · right; omega
  · rintro (⟨x, h1, h2⟩ | ⟨h1, h2, h3⟩)
    · right; left
      refine ⟨x, h1, ?_⟩
      unfold seatOf at h2
      cases e : side s (x, j).1 with
      | none => rw [e] at h2; simp at h2; omega
      | some g => rw [e] at h2; simp at h2; rw [← h2]
    · omega
theorem idx_of {l : List Nat} (nd : l.Nodup) {d : Nat} (h : d < l.length) : l.idxOf l[d] = d := by
  induction l generalizing d with
  | nil => simp at h
  | cons x xs ih =>
    rw [List.nodup_cons] at nd
    cases d with
    | zero => simp
    | succ d =>
      have h' : d < xs.length := by simpa using h
      have ne : x ≠ xs[d] := fun e => nd.1 (by rw [e]; exact List.getElem_mem h')
      rw [List.getElem_cons_succ, List.idxOf_cons]
      rw [ih nd.2 h', show (x == xs[d]) = false by simpa using ne]
      rfl
theorem door_perm {W : Web} (hw : IsWeb W) {s d : Nat} {p : Road × Nat} (hs : s < 2) (hd : (doorP W s)[d]? = some p) : [p.2].Perm (atT (fairOf W).ties s (W.gives.length + d)) := by
  have ht := nodup_of_lt (atT_sorted (fairOf W).ties s (W.gives.length + d))
  have nd : (doorsOf W s).Nodup := nodup_of_lt doors_sorted
  obtain ⟨hk, h1, h2⟩ := doorP_mem (List.mem_of_getElem? hd)
  have hl : d < (doorsOf W s).length := by unfold doorsOf; simpa using (List.getElem?_eq_some_iff.mp hd).1
  have hv : (doorsOf W s)[d] = p.2 := by
    have : (doorsOf W s)[d]? = some p.2 := by unfold doorsOf; rw [List.getElem?_map, hd]; rfl
    exact (List.getElem?_eq_some_iff.mp this).2
  refine (List.perm_ext_iff_of_nodup (by simp) ht).mpr fun j => ?_
  rw [mem_ties hs, List.mem_singleton]
  constructor
  · rintro rfl
    left
    refine ⟨p.1, by rw [List.getElem?_eq_getElem hk, h1], ?_⟩
    unfold seatOf
    rw [h2]
    show W.gives.length + (doorsOf W s).idxOf p.2 = _
    rw [← hv, idx_of nd hl]
  · rintro (⟨x, g1, g2⟩ | ⟨g1, g2, g3⟩)
    · unfold seatOf at g2
      cases e : side s (x, j).1 with
      | none =>
        rw [e] at g2
        have g3 : (doorsOf W s).idxOf j = d := by have : W.gives.length + (doorsOf W s).idxOf j = W.gives.length + d := g2; omega
        have hm : j ∈ doorsOf W s := mem_doors.mpr ⟨x, g1, e⟩
        have := List.getElem_idxOf (List.idxOf_lt_length_iff.mpr hm)
        rw [← this, ← hv]
        congr 1
      | some g =>
        rw [e] at g2
        have g2 : g = W.gives.length + d := g2
        have hx := hw.road x (List.mem_of_getElem? g1)
        have : g < W.gives.length := by
          have : s = 0 ∨ s = 1 := by omega
          rcases this with rfl | rfl
          · exact hx.2.1 g (by simpa [side] using e)
          · exact hx.2.2.1 g (by simpa [side] using e)
        omega
    · omega
theorem seat_lt {W : Web} (hw : IsWeb W) {s j : Nat} {x : Road} (hs : s < 2) (h : W.roads[j]? = some x) : seatOf W s (x, j) < W.gives.length + (doorP W s).length := by
  have hx := hw.road x (List.mem_of_getElem? h)
  unfold seatOf
  cases e : side s (x, j).1 with
  | none =>
    have hm : j ∈ doorsOf W s := mem_doors.mpr ⟨x, h, e⟩
    have := List.idxOf_lt_length_iff.mpr hm
    have e2 : (doorsOf W s).length = (doorP W s).length := by unfold doorsOf; simp
    show W.gives.length + (doorsOf W s).idxOf j < _
    omega
  | some g =>
    show g < _
    have : s = 0 ∨ s = 1 := by omega
    rcases this with rfl | rfl
    · have := hx.2.1 g (by simpa [side] using e); omega
    · have := hx.2.2.1 g (by simpa [side] using e); omega
theorem fair_ok {W : Web} (hw : IsWeb W) : IsFair (fairOf W) := by
  have hc := hw.count
  have hh := hw.houses
  have hm := hw.same
  have hb := big_ok hw
  have d0 := doors_len (W := W) (s := 0)
  have d1 := doors_len (W := W) (s := 1)
  have lg : (fairOf W).givers.length = W.gives.length + (doorP W 0).length := by show (giversOf W).length = _; unfold giversOf doorSeats; simp
  have lt : (fairOf W).takers.length = W.gives.length + (doorP W 1).length := by show (takersOf W).length = _; unfold takersOf doorSeats; simp [hm]
  refine ⟨by omega, by omega, by rw [ties_len]; omega, fun x hx => ?_, fun k x hk => ?_, fun k x hk => ?_⟩
  · obtain ⟨j, hj⟩ := List.getElem?_of_mem hx
    have hl := (List.getElem?_eq_some_iff.mp hj).1
    rw [ties_len] at hl
    rw [lg, lt]
    by_cases c : j < W.roads.length
    · have hr := List.getElem?_eq_getElem c
      rw [tie_road hr] at hj
      cases hj
      have ho := hw.road _ (List.mem_of_getElem? hr)
      exact ⟨seat_lt hw (by omega) hr, seat_lt hw (by omega) hr, ho.2.2.2.1, by have := ho.2.2.2.2; show W.roads[j].r ≤ _; omega⟩
    · rw [tie_house (by omega) hl] at hj
      cases hj
      exact ⟨by show (j - W.roads.length) / 2 < _; omega, by show (j - W.roads.length) / 2 < _; omega, by show 0 ≤ bigOf W; omega, by show bigOf W ≤ _; omega⟩
  · have hk : (giversOf W)[k]? = some x := hk
    unfold giversOf at hk
    by_cases c : k < W.gives.length
    · rw [List.getElem?_append_left (by simpa using c), List.getElem?_map, List.getElem?_zipIdx, List.getElem?_eq_getElem c] at hk
      simp at hk
      subst hk
      exact ⟨by show 0 ≤ bigOf W; omega, by show bigOf W ≤ _; omega, seat_perm hw (by omega) c (hw.give k _ (List.getElem?_eq_getElem c)) (.inl ⟨rfl, rfl⟩)⟩
    · rw [List.getElem?_append_right (by simp; omega)] at hk
      simp only [List.length_map, List.length_zipIdx] at hk
      unfold doorSeats at hk
      rw [List.getElem?_map] at hk
      cases e : (doorP W 0)[k - W.gives.length]? with
      | none => rw [e] at hk; cases hk
      | some p =>
        rw [e] at hk
        cases hk
        obtain ⟨g1, g2, g3⟩ := doorP_mem (List.mem_of_getElem? e)
        have ho := hw.road _ (List.getElem_mem g1)
        rw [g2] at ho
        have pp := door_perm hw (by omega) e
        rw [show W.gives.length + (k - W.gives.length) = k by omega] at pp
        exact ⟨ho.2.2.2.1, by have := ho.2.2.2.2; show p.1.r ≤ _; omega, pp⟩
  · have hk : (takersOf W)[k]? = some x := hk
    unfold takersOf at hk
    by_cases c : k < W.takes.length
    · rw [List.getElem?_append_left (by simpa using c), List.getElem?_map, List.getElem?_zipIdx, List.getElem?_eq_getElem c] at hk
      simp at hk
      subst hk
      exact ⟨by show 0 ≤ bigOf W; omega, by show bigOf W ≤ _; omega, seat_perm hw (by omega) (by omega) (hw.take k _ (List.getElem?_eq_getElem c)) (.inr ⟨rfl, rfl⟩)⟩
    · rw [List.getElem?_append_right (by simp; omega)] at hk
      simp only [List.length_map, List.length_zipIdx] at hk
      unfold doorSeats at hk
      rw [List.getElem?_map] at hk
      cases e : (doorP W 1)[k - W.takes.length]? with
      | none => rw [e] at hk; cases hk
      | some p =>
        rw [e] at hk
        cases hk
        obtain ⟨g1, g2, g3⟩ := doorP_mem (List.mem_of_getElem? e)
        have ho := hw.road _ (List.getElem_mem g1)
        rw [g2] at ho
        have pp := door_perm hw (by omega) e
        rw [show W.gives.length + (k - W.takes.length) = k by omega] at pp
        exact ⟨ho.2.2.2.1, by have := ho.2.2.2.2; show p.1.r ≤ _; omega, pp⟩
end Fn

namespace Fn
open PySem PySem.Spec PyProof.Rows L2 Uv
/-! webs and fairs, told by repr -/
theorem sho_end {k : Nat} {o : Option Nat} {n : Nat} (h : ∀ j, o = some j → j < n) (hn : n ≤ 1000) : Sho k 41 (endD o) := by
  cases o with
  | none => exact Sho.non.mono (Nat.le_refl _) (by decide)
  | some j => have := h j rfl; exact Sho.nat (by omega)
theorem sho_room {k : Nat} {r : Int} (h0 : 0 ≤ r) (h1 : r ≤ 1000000000000000) : Sho k 41 (.int r) := Sho.int (by omega)
theorem sho_road {k n : Nat} {x : Road} (h : OkRoad n x) (hn : n ≤ 1000) : Sho (k + 1) 132 (roadD x) := by
  refine Sho.tup (k := k) (n := 41) (L := 3) (fun d hd => ?_) (by simp)
  simp only [List.mem_cons, List.not_mem_nil, or_false] at hd
  rcases hd with rfl | rfl | rfl
  · exact sho_end h.2.1 hn
  · exact sho_end h.2.2.1 hn
  · exact sho_room h.2.2.2.1 (by have := h.2.2.2.2; omega)
theorem sho_orders {k : Nat} {os : List (List Nat)} (h1 : os.length ≤ 8) (h2 : ∀ l ∈ os, l.length ≤ 20 ∧ ∀ j ∈ l, j < 1000) : Sho (k + 2) 6923 (.tuple (os.map natsD)) := by
  refine Sho.tup (k := k + 1) (n := 863) (L := 8) (fun d hd => ?_) (by simpa using h1)
  obtain ⟨l, hl, rfl⟩ := List.mem_map.mp hd
  exact Sho.nats (L := 20) (fun j hj => Nat.lt_trans ((h2 l hl).2 j hj) (by decide)) (h2 l hl).1
theorem sho_web {W : Web} (hw : IsWeb W) : Sho 60 10000000 (webD W) := by
  have hc := hw.count
  have hh := hw.houses
  have hm := hw.same
  refine (Sho.tup (k := 2) (n := 6923) (L := 3) (fun d hd => ?_) (by simp)).mono (by decide) (by decide)
  simp only [List.mem_cons, List.not_mem_nil, or_false] at hd
  rcases hd with rfl | rfl | rfl
  · refine (Sho.tup (k := 1) (n := 132) (L := 20) (fun d hd => ?_) (by simpa using hc.2)).mono (by decide) (by decide)
    obtain ⟨x, hx, rfl⟩ := List.mem_map.mp hd
    exact sho_road (hw.road x hx) (by omega)
  · refine sho_orders hh.2 fun l hl => ?_
    obtain ⟨k, hk⟩ := List.getElem?_of_mem hl
    obtain ⟨h1, h2⟩ := List.getElem?_eq_some_iff.mp hk
    exact ⟨by rw [← h2]; exact give_len hw h1, fun j hj => by have := atR_lt ((hw.give k l hk).mem_iff.mp hj); omega⟩
  · refine sho_orders (by omega) fun l hl => ?_
    obtain ⟨k, hk⟩ := List.getElem?_of_mem hl
    obtain ⟨h1, h2⟩ := List.getElem?_eq_some_iff.mp hk
    exact ⟨by rw [← h2]; exact take_len hw h1, fun j hj => by have := atR_lt ((hw.take k l hk).mem_iff.mp hj); omega⟩
theorem sho_tie {k g t : Nat} {x : Tie} (h : OkTie g t x) (hg : g ≤ 1000) (ht : t ≤ 1000) : Sho (k + 1) 132 (tieD x) := by
  have h1 := h.g
  have h2 := h.t
  refine Sho.tup (k := k) (n := 41) (L := 3) (fun d hd => ?_) (by simp)
  simp only [List.mem_cons, List.not_mem_nil, or_false] at hd
  rcases hd with rfl | rfl | rfl
  · exact Sho.nat (by omega)
  · exact Sho.nat (by omega)
  · exact sho_room h.r0 h.r1
theorem sho_seat {k : Nat} {ts : List Tie} {s j : Nat} {x : Seat} (h : OkSeat ts s j x) (hn : ts.length ≤ 36) : Sho (k + 2) 3109 (seatD x) := by
  refine Sho.tup (k := k + 1) (n := 1551) (L := 2) (fun d hd => ?_) (by simp)
  simp only [List.mem_cons, List.not_mem_nil, or_false] at hd
  rcases hd with rfl | rfl
  · exact (sho_room h.m0 h.m1).mono (Nat.le_refl _) (by decide)
  · refine Sho.nats (L := 36) (fun j hj => ?_) ?_
    · have := atT_lt (h.p.mem_iff.mp hj)
      omega
    · have := atT_len (ts := ts) (s := s) (k := j)
      have := h.p.length_eq
      omega
theorem sho_fair {F : Fair} (hf : IsFair F) : Sho 60 10000000 (fairD F) := by
  have hg := hf.g
  have ht := hf.t
  refine (Sho.tup (k := 3) (n := 87111) (L := 3) (fun d hd => ?_) (by simp)).mono (by decide) (by decide)
  simp only [List.mem_cons, List.not_mem_nil, or_false] at hd
  rcases hd with rfl | rfl | rfl
  · refine (Sho.tup (k := 2) (n := 132) (L := 36) (fun d hd => ?_) (by simpa using hf.n)).mono (by decide) (by decide)
    obtain ⟨x, hx, rfl⟩ := List.mem_map.mp hd
    exact sho_tie (hf.tie x hx) (by omega) (by omega)
  · refine Sho.tup (k := 2) (n := 3109) (L := 28) (fun d hd => ?_) (by simpa using hg.2)
    obtain ⟨x, hx, rfl⟩ := List.mem_map.mp hd
    obtain ⟨k, hk⟩ := List.getElem?_of_mem hx
    exact sho_seat (hf.give k x hk) hf.n
  · refine Sho.tup (k := 2) (n := 3109) (L := 28) (fun d hd => ?_) (by simpa using ht.2)
    obtain ⟨x, hx, rfl⟩ := List.mem_map.mp hd
    obtain ⟨k, hk⟩ := List.getElem?_of_mem hx
    exact sho_seat (hf.take k x hk) hf.n
end Fn

namespace Uv
open PySem PySem.Spec PyProof.Rows L2
/-! ### membership, cuts -/
def inO (l : List Nat) (o : Option Nat) : Bool := match o with
  | none => false
  | some h => l.contains h
theorem eqv_nat {a b : Nat} : PyData.eqv (natD a) (natD b) = (a == b) := by
  show ((a : Int) == (b : Int)) = _
  exact Bool.eq_iff_iff.mpr (by simp; omega)
theorem any_nat {l : List Nat} {h : Nat} : ((l.map natD).any fun z => PyData.eqv z (natD h)) = l.contains h := by
  induction l with
  | nil => rfl
  | cons x xs ih =>
    rw [List.map_cons, List.any_cons, ih, eqv_nat, List.contains_cons]
    congr 1
    exact Bool.eq_iff_iff.mpr (by simp; exact eq_comm)
theorem any_none {l : List Nat} : ((l.map natD).any fun z => PyData.eqv z .none) = false := by
  induction l with
  | nil => rfl
  | cons x xs ih => rw [List.map_cons, List.any_cons, ih]; rfl
theorem lay_end {k : Nat} {o : Option Nat} : Lay k (endD o) := by cases o; exact Lay.non; exact Lay.int
theorem any_end {l : List Nat} {o : Option Nat} : ((l.map natD).any fun z => PyData.eqv z (endD o)) = inO l o := by
  cases o with
  | none => exact any_none
  | some h => exact any_nat
theorem in_end {l : List Nat} {o : Option Nat} : inP (endD o) (natsD l) = some (.bool (inO l o)) := by
  unfold inP
  rw [if_pos ⟨lay_end.sh, (Lay.natsT (k := 59)).sh⟩]
  show some (PyData.bool _) = _
  rw [any_end]
theorem notin_end {l : List Nat} {o : Option Nat} : notinP (endD o) (natsD l) = some (.bool (!inO l o)) := by
  unfold notinP
  rw [if_pos ⟨lay_end.sh, (Lay.natsT (k := 59)).sh⟩]
  show some (PyData.bool _) = _
  rw [any_end]
theorem in_nat {l : List Nat} {h : Nat} : inP (natD h) (natsD l) = some (.bool (l.contains h)) := in_end (o := some h)
theorem notin_nat {l : List Nat} {h : Nat} : notinP (natD h) (natsD l) = some (.bool (!l.contains h)) := notin_end (o := some h)
theorem any_ends {os : List (Option Nat)} {h : Nat} : ((os.map endD).any fun z => PyData.eqv z (natD h)) = os.contains (some h) := by
  induction os with
  | nil => rfl
  | cons x xs ih =>
    rw [List.map_cons, List.any_cons, ih, List.contains_cons]
    congr 1
    cases x with
    | none => rfl
    | some j =>
      show PyData.eqv (natD j) (natD h) = _
      rw [eqv_nat]
      exact Bool.eq_iff_iff.mpr (by simp; exact eq_comm)
theorem in_ends {os : List (Option Nat)} {h : Nat} : inP (natD h) (.list (os.map endD)) = some (.bool (os.contains (some h))) := by
  unfold inP
  rw [if_pos ⟨(Lay.int (k := 60)).sh, (Lay.lst (k := 59) (Lay.map fun _ => lay_end)).sh⟩]
  show some (PyData.bool _) = _
  rw [any_ends]
theorem cut_from {ds : List PD} {k : Nat} : cutD ds (some ((k : Int) + 1)) none = ds.drop (k + 1) := by
  unfold cutD
  rw [show (some ((k : Int) + 1)) = some (((k + 1 : Nat)) : Int) by simp, HT.sIx_nat, HT.sIx_none]
  by_cases c : k + 1 ≤ ds.length
  · rw [Nat.min_eq_left c, List.take_of_length_le (by simp)]
  · rw [Nat.min_eq_right (by omega), List.drop_eq_nil_of_le (Nat.le_refl _), List.drop_eq_nil_of_le (by omega)]
    simp
theorem cut_1 {ds : List PD} : cutD ds (some 1) none = ds.drop 1 := cut_from (k := 0)
theorem cut_63' {ns : List Int} (h : ns.length ≤ 63) : cutD (ns.map PyData.int) none (some 63) = ns.map PyData.int := by
  unfold cutD
  rw [HT.sIx_none, show (some (63 : Int)) = some ((63 : Nat) : Int) from rfl, HT.sIx_nat, List.length_map, Nat.min_eq_right h]
  exact List.take_of_length_le (by simp)
theorem zipD_map {α β : Type} {f : α → PD} {g : β → PD} {l : List α} {m : List β} : zipD (l.map f) (m.map g) = (l.zip m).map fun p => .tuple [f p.1, g p.2] := by
  unfold zipD
  rw [List.zipWith_map, List.zip, List.map_zipWith]
theorem ne_tups {l m : List Nat} : neP (natsD l) (natsD m) = some (.bool (!(l == m))) := by
  unfold natsD
  rw [neP_lay (Lay.natsT (k := 59)) (Lay.natsT (k := 59)), show PyData.eqv (.tuple (l.map natD)) (.tuple (m.map natD)) = PyData.eqvAll (l.map natD) (m.map natD) by simp [PyData.eqv], eqv_nats]
theorem ne_nilL {l : List PD} (h : ∀ d ∈ l, Lay 59 d) : neP (.list l) (.list []) = some (.bool (!l.isEmpty)) := by
  rw [neP_lay (Lay.lst h) (Lay.lst (k := 59) (by simp))]
  cases l with
  | nil => rfl
  | cons x xs => simp [PyData.eqv, PyData.eqvAll]
/-! ### streams and lots of a web -/
def rd (W : Web) (k : Nat) : Road := W.roads.getD k ⟨none, none, 0⟩
def giv (W : Web) (h : Nat) : List Nat := W.gives.getD h []
def tak (W : Web) (h : Nat) : List Nat := W.takes.getD h []
def at0 (f : List Int) (k : Nat) : Int := f.getD k 0
def lessB (f : List Int) (o : List Nat) (k : Nat) : Bool := (o.drop (o.idxOf k + 1)).any fun j => decide (0 < at0 f j)
def pushB (W : Web) (f : List Int) (lot : List Nat) (k : Nat) : Bool := match (rd W k).b with
  | none => true
  | some h => lot.contains h || lessB f (giv W h) k
def pullB (W : Web) (f : List Int) (lot : List Nat) (k : Nat) : Bool := match (rd W k).e with
  | none => true
  | some h => !lot.contains h || lessB f (tak W h) k
def openB (W : Web) (f : List Int) (k : Nat) : Bool := decide (at0 f k < (rd W k).r)
def calmB (W : Web) (f : List Int) (lot : List Nat) : Bool := (List.range W.roads.length).all fun k => !(openB W f k && pushB W f lot k && pullB W f lot k)
structure Bears (W : Web) (f : List Int) : Prop where
  len : f.length = W.roads.length
  nn : ∀ x ∈ f, 0 ≤ x
structure IsLot (n : Nat) (l : List Nat) : Prop where
  up : l.Pairwise (· < ·)
  lt : ∀ x ∈ l, x < n
theorem rd_eq {W : Web} {k : Nat} (h : k < W.roads.length) : rd W k = W.roads[k] := by simp [rd, h]
theorem giv_eq {W : Web} {k : Nat} (h : k < W.gives.length) : giv W k = W.gives[k] := by simp [giv, h]
theorem tak_eq {W : Web} {k : Nat} (h : k < W.takes.length) : tak W k = W.takes[k] := by simp [tak, h]
theorem at0_eq {f : List Int} {k : Nat} (h : k < f.length) : at0 f k = f[k] := by simp [at0, h]
theorem atI_bears {f : List Int} {k : Nat} (h : k < f.length) : atI (f.map PyData.int) (k : Int) = some (.int (at0 f k)) := by rw [atI_map h, at0_eq h]
theorem atI_road {W : Web} {k : Nat} (h : k < W.roads.length) : atI (W.roads.map roadD) (k : Int) = some (roadD (rd W k)) := by rw [atI_map h, rd_eq h]
theorem atI_giv {W : Web} {k : Nat} (h : k < W.gives.length) : atI (W.gives.map natsD) (k : Int) = some (natsD (giv W k)) := by rw [atI_map h, giv_eq h]
theorem atI_tak {W : Web} {k : Nat} (h : k < W.takes.length) : atI (W.takes.map natsD) (k : Int) = some (natsD (tak W k)) := by rw [atI_map h, tak_eq h]
section
variable {W : Web} {f : List Int}
theorem IsWeb.rd (hw : IsWeb W) {k : Nat} (h : k < W.roads.length) : OkRoad W.gives.length (rd W k) := by rw [rd_eq h]; exact hw.road _ (List.getElem_mem h)
theorem IsWeb.giv (hw : IsWeb W) {h : Nat} (hh : h < W.gives.length) : (giv W h).Perm (atR W.roads 0 h) := by rw [giv_eq hh]; exact hw.give h _ (List.getElem?_eq_getElem hh)
theorem IsWeb.tak (hw : IsWeb W) {h : Nat} (hh : h < W.gives.length) : (tak W h).Perm (atR W.roads 1 h) := by
  have hh' : h < W.takes.length := by rw [hw.same]; exact hh
  rw [tak_eq hh']; exact hw.take h _ (List.getElem?_eq_getElem hh')
theorem IsWeb.mem_giv (hw : IsWeb W) {h k : Nat} (hh : h < W.gives.length) : k ∈ Uv.giv W h ↔ k < W.roads.length ∧ (Uv.rd W k).b = some h := by
  rw [(hw.giv hh).mem_iff, Uv.mem_atR]
  constructor
  · rintro ⟨x, h1, h2⟩
    obtain ⟨h3, h4⟩ := List.getElem?_eq_some_iff.mp h1
    exact ⟨h3, by rw [rd_eq h3, h4]; exact h2⟩
  · rintro ⟨h1, h2⟩
    exact ⟨_, List.getElem?_eq_getElem h1, by rw [← rd_eq h1]; exact h2⟩
theorem IsWeb.mem_tak (hw : IsWeb W) {h k : Nat} (hh : h < W.gives.length) : k ∈ Uv.tak W h ↔ k < W.roads.length ∧ (Uv.rd W k).e = some h := by
  rw [(hw.tak hh).mem_iff, Uv.mem_atR]
  constructor
  · rintro ⟨x, h1, h2⟩
    obtain ⟨h3, h4⟩ := List.getElem?_eq_some_iff.mp h1
    exact ⟨h3, by rw [rd_eq h3, h4]; exact h2⟩
  · rintro ⟨h1, h2⟩
    exact ⟨_, List.getElem?_eq_getElem h1, by rw [← rd_eq h1]; exact h2⟩
theorem nodup_atR {rs : List Road} {s h : Nat} : (atR rs s h).Nodup := (atR_sorted rs s h).imp fun h => by omega
theorem IsWeb.nd_giv (hw : IsWeb W) {h : Nat} (hh : h < W.gives.length) : (Uv.giv W h).Nodup := (hw.giv hh).nodup_iff.mpr nodup_atR
theorem IsWeb.nd_tak (hw : IsWeb W) {h : Nat} (hh : h < W.gives.length) : (Uv.tak W h).Nodup := (hw.tak hh).nodup_iff.mpr nodup_atR
theorem IsWeb.len_giv (hw : IsWeb W) {h : Nat} (hh : h < W.gives.length) : (Uv.giv W h).length ≤ 20 := by rw [(hw.giv hh).length_eq]; exact Nat.le_trans atR_len hw.count.2
theorem IsWeb.len_tak (hw : IsWeb W) {h : Nat} (hh : h < W.gives.length) : (Uv.tak W h).length ≤ 20 := by rw [(hw.tak hh).length_eq]; exact Nat.le_trans atR_len hw.count.2
theorem Bears.at (hf : Bears W f) (k : Nat) : 0 ≤ at0 f k := by
  by_cases h : k < f.length
  · rw [at0_eq h]; exact hf.nn _ (List.getElem_mem h)
  · simp [at0, h]
/-- what comes behind in an order -/
theorem mem_after {l : List Nat} (nd : l.Nodup) {k j : Nat} : j ∈ l.drop (l.idxOf k + 1) ↔ j ∈ l ∧ l.idxOf k < l.idxOf j := by
  constructor
  · intro h
    have hm := List.mem_of_mem_drop h
    refine ⟨hm, ?_⟩
    obtain ⟨i, hi, e⟩ := List.mem_iff_getElem.mp h
    rw [List.getElem_drop] at e
    have hl : l.idxOf k + 1 + i < l.length := by simp at hi; omega
    have := Fn.idx_of nd hl
    rw [e] at this
    omega
  · rintro ⟨h1, h2⟩
    have hl := List.idxOf_lt_length_iff.mpr h1
    refine List.mem_iff_getElem.mpr ⟨l.idxOf j - (l.idxOf k + 1), by simp; omega, ?_⟩
    rw [List.getElem_drop]
    have e : l.idxOf k + 1 + (l.idxOf j - (l.idxOf k + 1)) = l.idxOf j := by omega
    simp only [e]
    exact List.getElem_idxOf hl
theorem lessB_iff {o : List Nat} (nd : o.Nodup) {k : Nat} : lessB f o k = true ↔ ∃ j ∈ o, o.idxOf k < o.idxOf j ∧ 0 < at0 f j := by
  unfold lessB
  rw [List.any_eq_true]
  constructor
  · rintro ⟨j, hj, h⟩
    obtain ⟨h1, h2⟩ := (mem_after nd).mp hj
    exact ⟨j, h1, h2, of_decide_eq_true h⟩
  · rintro ⟨j, h1, h2, h3⟩
    exact ⟨j, (mem_after nd).mpr ⟨h1, h2⟩, decide_eq_true h3⟩
/-! the web turned -/
def turnR (x : Road) : Road := ⟨x.e, x.b, x.r⟩
def turnW (W : Web) : Web := ⟨W.roads.map turnR, W.takes, W.gives⟩
theorem turnW_turnW : turnW (turnW W) = W := by
  cases W with
  | mk r g t =>
    unfold turnW
    simp only [List.map_map]
    congr 1
    have : (turnR ∘ turnR) = id := by funext x; rfl
    rw [this, List.map_id]
theorem rd_turn {k : Nat} : Uv.rd (turnW W) k = turnR (Uv.rd W k) := by
  unfold Uv.rd turnW
  simp only [List.getD_eq_getElem?_getD, List.getElem?_map]
  cases W.roads[k]? <;> rfl
theorem side_turn {s : Nat} (hs : s < 2) {x : Road} : side s (turnR x) = side (1 - s) x := by
  have : s = 0 ∨ s = 1 := by omega
  rcases this with rfl | rfl <;> rfl
theorem atR_turn {rs : List Road} {s h : Nat} (hs : s < 2) : atR (rs.map turnR) s h = atR rs (1 - s) h := by
  unfold atR
  rw [List.zipIdx_map, List.filter_map, List.map_map]
  congr 1
  apply List.filter_congr
  rintro ⟨x, i⟩ _
  show (side s (turnR x) == some h) = _
  rw [side_turn hs]
theorem IsWeb.turn (hw : IsWeb W) : IsWeb (turnW W) := by
  refine ⟨?_, hw.same.symm, by simpa [turnW] using hw.count, fun x hx => ?_, fun h l e => ?_, fun h l e => ?_⟩
  · show 1 ≤ W.takes.length ∧ W.takes.length ≤ 8
    rw [hw.same]; exact hw.houses
  · obtain ⟨y, hy, rfl⟩ := List.mem_map.mp hx
    show OkRoad W.takes.length _
    rw [hw.same]
    obtain ⟨a, b, c, d⟩ := hw.road y hy
    exact ⟨fun z => a z.symm, c, b, d⟩
  · show l.Perm (atR (W.roads.map turnR) 0 h)
    rw [atR_turn (by omega)]
    exact hw.take h l e
  · show l.Perm (atR (W.roads.map turnR) 1 h)
    rw [atR_turn (by omega)]
    exact hw.give h l e
theorem Bears.turn (hf : Bears W f) : Bears (turnW W) f := ⟨by simpa [turnW] using hf.len, hf.nn⟩
/-- the houses outside a lot -/
def restL (n : Nat) (lot : List Nat) : List Nat := (List.range n).filter fun h => !lot.contains h
theorem restL_lot {n : Nat} {lot : List Nat} : IsLot n (restL n lot) := ⟨List.Pairwise.filter _ List.pairwise_lt_range, fun x hx => List.mem_range.mp (List.mem_filter.mp hx).1⟩
theorem restL_con {n : Nat} {lot : List Nat} {h : Nat} (hh : h < n) : (restL n lot).contains h = !lot.contains h := by
  apply Bool.eq_iff_iff.mpr
  rw [List.contains_iff_mem]
  unfold restL
  rw [List.mem_filter]
  simp [hh]
theorem calm_turn (hw : IsWeb W) {lot : List Nat} : calmB (turnW W) f (restL W.gives.length lot) = calmB W f lot := by
  unfold calmB
  have e : (turnW W).roads.length = W.roads.length := by simp [turnW]
  rw [e]
  apply Bool.eq_iff_iff.mpr
  rw [List.all_eq_true, List.all_eq_true]
  have key : ∀ k ∈ List.range W.roads.length, (!(openB (turnW W) f k && pushB (turnW W) f (restL W.gives.length lot) k && pullB (turnW W) f (restL W.gives.length lot) k)) = !(openB W f k && pushB W f lot k && pullB W f lot k) := fun k hk => by
    have hk := List.mem_range.mp hk
    have ok := hw.rd hk
    have e1 : openB (turnW W) f k = openB W f k := by unfold openB; rw [rd_turn]; rfl
    have e2 : pushB (turnW W) f (restL W.gives.length lot) k = pullB W f lot k := by
      unfold pushB pullB
      rw [rd_turn]
      show (match (Uv.rd W k).e with | none => true | some h => _) = _
      cases hx : (Uv.rd W k).e with
      | none => rfl
      | some h =>
        show ((restL W.gives.length lot).contains h || _) = _
        rw [restL_con (ok.2.2.1 h hx)]
        rfl
    have e3 : pullB (turnW W) f (restL W.gives.length lot) k = pushB W f lot k := by
      unfold pushB pullB
      rw [rd_turn]
      show (match (Uv.rd W k).b with | none => true | some h => _) = _
      cases hx : (Uv.rd W k).b with
      | none => rfl
      | some h =>
        show ((!(restL W.gives.length lot).contains h) || _) = _
        rw [restL_con (ok.2.1 h hx), Bool.not_not]
        rfl
    rw [e1, e2, e3]
    cases openB W f k <;> cases pushB W f lot k <;> cases pullB W f lot k <;> rfl
  constructor
  · exact fun h k hk => by rw [← key k hk]; exact h k hk
  · exact fun h k hk => by rw [key k hk]; exact h k hk
end
end Uv

namespace Fn
open PySem PySem.Spec PyProof.Rows L2 Uv
/-! the program's words on lots -/
section
variable {W : Web} {f : List Int} {lot : List Nat}
theorem cut_nats {l : List Nat} {k : Nat} : slP (natsD l) (some ((k : Int) + 1)) none = some (natsD (l.drop (k + 1))) := by
  unfold natsD
  rw [q_sl_t, cut_from, List.map_drop]
theorem cut_nats1 {l : List Nat} : slP (natsD l) (some 1) none = some (natsD (l.drop 1)) := cut_nats (k := 0)
theorem p_borne {l : List Nat} (h : ∀ j ∈ l, j < f.length) (hl : l.length ≤ 40000) : F_borne [intsD f, natsD l] = some (.int (l.map (at0 f)).sum) := by
  refine eq_of_wp ?_
  unfold F_borne
  refine wp_runP rfl ?_
  unfold X_borne
  simp -implicitDefEqProofs
  refine ⟨hl, wp_lcT (fun j => .int (at0 f j)) (fun j hj => ?_) ?_⟩
  · simp -implicitDefEqProofs [atI_bears (h j hj)]
  · simp -implicitDefEqProofs [q_sum]
theorem p_less {o : List Nat} {k : Nat} (nn : ∀ j, 0 ≤ at0 f j) (hk : k ∈ o) (h : ∀ j ∈ o, j < f.length) (hl : o.length ≤ 40000) : F_has_less_liked [intsD f, natsD o, natD k] = some (.bool (lessB f o k)) := by
  refine eq_of_wp ?_
  unfold F_has_less_liked
  refine wp_runP rfl ?_
  unfold X_has_less_liked
  simp -implicitDefEqProofs [n_idx hk, cut_nats]
  rw [p_borne (fun j hj => h j (List.mem_of_mem_drop hj)) (by simp; omega)]
  simp -implicitDefEqProofs [-List.map_drop]
  unfold lessB
  apply Bool.eq_iff_iff.mpr
  rw [decide_eq_true_iff, List.any_eq_true]
  constructor
  · intro z
    obtain ⟨j, h1, h2⟩ := Calm.sm_pos (l := o.drop (o.idxOf k + 1)) (g := at0 f) (fun j _ => nn j) z
    exact ⟨j, h1, decide_eq_true h2⟩
  · rintro ⟨j, h1, h2⟩
    apply Classical.byContradiction
    intro z
    have := Calm.sm_zero (l := o.drop (o.idxOf k + 1)) (g := at0 f) (fun j _ => nn j) (by show (List.map (at0 f) _).sum ≤ 0; omega) j h1
    have := of_decide_eq_true h2
    omega
theorem p_first (hw : IsWeb W) (hf : Bears W f) {k : Nat} (hk : k < W.roads.length) : F_first_gladly [webD W, intsD f, natD k] = some (.bool (match (rd W k).b with | none => true | some h => lessB f (giv W h) k)) := by
  refine eq_of_wp ?_
  unfold F_first_gladly
  refine wp_runP rfl ?_
  unfold X_first_gladly
  simp -implicitDefEqProofs [atI_road hk]
  cases hx : (rd W k).b with
  | none => simp -implicitDefEqProofs [endD]
  | some h =>
    have hh := (hw.rd hk).2.1 h hx
    simp -implicitDefEqProofs [endD, atI_giv hh]
    rw [p_less hf.at ((hw.mem_giv hh).mpr ⟨hk, hx⟩) (fun j hj => by rw [hf.len]; exact ((hw.mem_giv hh).mp hj).1) (by have := hw.len_giv hh; omega)]
    simp -implicitDefEqProofs
theorem p_last (hw : IsWeb W) (hf : Bears W f) {k : Nat} (hk : k < W.roads.length) : F_last_gladly [webD W, intsD f, natD k] = some (.bool (match (rd W k).e with | none => true | some h => lessB f (tak W h) k)) := by
  refine eq_of_wp ?_
  unfold F_last_gladly
  refine wp_runP rfl ?_
  unfold X_last_gladly
  simp -implicitDefEqProofs [atI_road hk]
  cases hx : (rd W k).e with
  | none => simp -implicitDefEqProofs [endD]
  | some h =>
    have hh := (hw.rd hk).2.2.1 h hx
    simp -implicitDefEqProofs [endD, atI_tak (show h < W.takes.length by rw [hw.same]; exact hh)]
    rw [p_less hf.at ((hw.mem_tak hh).mpr ⟨hk, hx⟩) (fun j hj => by rw [hf.len]; exact ((hw.mem_tak hh).mp hj).1) (by have := hw.len_tak hh; omega)]
    simp -implicitDefEqProofs
theorem p_stopped (hw : IsWeb W) (hf : Bears W f) {k : Nat} (hk : k < W.roads.length) : F_is_stopped [webD W, intsD f, natsD lot, natD k] = some (.bool (!pullB W f lot k)) := by
  refine eq_of_wp ?_
  unfold F_is_stopped
  refine wp_runP rfl ?_
  unfold X_is_stopped
  simp -implicitDefEqProofs [atI_road hk, in_end, p_last hw hf hk]
  unfold pullB
  cases hx : (rd W k).e with
  | none => rfl
  | some h => simp [inO]
def pressL (W : Web) (f : List Int) (lot : List Nat) : List Nat := (List.range W.roads.length).filter fun k => openB W f k && pushB W f lot k
theorem zip_rd {p : Nat → Bool} : (W.roads.zipIdx.filter fun q => p q.2).map (fun q => natD q.2) = ((List.range W.roads.length).filter p).map natD := by
  have e : List.range W.roads.length = W.roads.zipIdx.map (·.2) := by
    rw [show (fun (p : Road × Nat) => p.2) = Prod.snd from rfl, List.zipIdx_map_snd, List.range_eq_range']
  rw [e, List.filter_map, List.map_map]
  rfl
theorem p_pressed (hw : IsWeb W) (hf : Bears W f) : F_pressed [webD W, intsD f, natsD lot] = some (.list ((pressL W f lot).map natD)) := by
  have hc := hw.count
  refine eq_of_wp ?_
  unfold F_pressed
  refine wp_runP rfl ?_
  unfold X_pressed
  simp -implicitDefEqProofs
  refine ⟨by omega, wp_lcE (fun q => openB W f q.2 && pushB W f lot q.2) (fun q => natD q.2) (fun k hk => ?_) ?_⟩
  · simp -implicitDefEqProofs [atI_bears (show k < f.length by rw [hf.len]; exact hk), in_end, p_first hw hf hk, ← rd_eq hk]
    unfold openB pushB
    cases hx : (rd W k).b with
    | none => simp [inO]
    | some h => simp [inO]
  · rw [zip_rd (p := fun k => openB W f k && pushB W f lot k)]
    simp -implicitDefEqProofs
    rfl
theorem lot_len {n : Nat} {l : List Nat} (h : IsLot n l) : l.length ≤ n := by
  have nd : l.Nodup := h.up.imp fun h => by omega
  have := List.Nodup.length_le_of_subset nd (l₂ := List.range n) fun x hx => List.mem_range.mpr (h.lt x hx)
  simpa using this
theorem p_is_lot (hw : IsWeb W) (hl : IsLot W.gives.length lot) : F_is_lot [webD W, natsD lot] = some (.bool true) := by
  have l1 := lot_len hl
  have l2 := hw.houses
  refine eq_of_wp ?_
  unfold F_is_lot
  refine wp_runP rfl ?_
  unfold X_is_lot
  simp -implicitDefEqProofs
  have e1 : F_is_tuple_of [natsD lot, .int 0, natD W.gives.length] = some (.bool true) := by
    unfold natsD
    rw [p_is_tuple_of]
    simp
    omega
  simp -implicitDefEqProofs [e1]
  refine ⟨by omega, wp_lcT (fun _ => .bool true) (fun j hj => ?_) ?_⟩
  · have := hl.lt j hj
    simp -implicitDefEqProofs
    omega
  rw [show (fun _ : Nat => PyData.bool true) = fun x => PyData.bool ((fun _ => true) x) from rfl]
  simp -implicitDefEqProofs [q_all, cut_nats1]
  unfold natsD
  rw [q_zip_t, zipD_map]
  simp -implicitDefEqProofs
  refine ⟨by omega, wp_lcT (fun _ => .bool true) (fun p hp => ?_) ?_⟩
  · obtain ⟨i, hi, e⟩ := List.mem_iff_getElem.mp hp
    simp -implicitDefEqProofs
    simp at hi e
    rw [← e]
    have := List.pairwise_iff_getElem.mp hl.up i (i + 1) (by omega) (by omega) (by omega)
    simp
    omega
  rw [show (fun _ : Nat × Nat => PyData.bool true) = fun x => PyData.bool ((fun _ => true) x) from rfl]
  simp -implicitDefEqProofs [q_all]
theorem p_calms (hw : IsWeb W) (hf : Bears W f) (hl : IsLot W.gives.length lot) : F_calms [webD W, intsD f, natsD lot] = some (.bool (calmB W f lot)) := by
  refine eq_of_wp ?_
  unfold F_calms
  refine wp_runP rfl ?_
  unfold X_calms
  have hc := hw.count
  have pl : (pressL W f lot).length ≤ W.roads.length := by unfold pressL; exact Nat.le_trans (List.length_filter_le ..) (by simp)
  simp -implicitDefEqProofs [p_is_lot hw hl, p_pressed hw hf]
  refine ⟨by omega, wp_lcT (fun k => .bool (!pullB W f lot k)) (fun k hk => ?_) ?_⟩
  · have hk := List.mem_range.mp (List.mem_filter.mp hk).1
    simp -implicitDefEqProofs [p_stopped hw hf hk]
  simp -implicitDefEqProofs [q_all]
  unfold calmB pressL
  apply Bool.eq_iff_iff.mpr
  rw [List.all_eq_true, List.all_eq_true]
  constructor
  · intro h k hk
    by_cases c : (openB W f k && pushB W f lot k) = true
    · have := h k (List.mem_filter.mpr ⟨hk, c⟩)
      rw [c, Bool.true_and]
      exact this
    · rw [Bool.not_eq_true] at c
      rw [c]
      rfl
  · intro h k hk
    obtain ⟨h1, h2⟩ := List.mem_filter.mp hk
    have := h k h1
    rw [h2, Bool.true_and] at this
    exact this
end
end Fn

namespace Fn
open PySem PySem.Spec PyProof.Rows L2 Uv
/-! ### sharings as tuples or lists; what the program asks of seats -/
def shD (b : Bool) (X : List Int) : PD := if b = true then .tuple (X.map PyData.int) else .list (X.map PyData.int)
theorem sh_t {X : List Int} : intsD X = shD true X := rfl
theorem sh_l {X : List Int} : PyData.list (X.map PyData.int) = shD false X := rfl
def tiF (F : Fair) (t : Nat) : Tie := F.ties.getD t ⟨0, 0, 0⟩
def gvF (F : Fair) (h : Nat) : Seat := F.givers.getD h ⟨0, []⟩
def tkF (F : Fair) (h : Nat) : Seat := F.takers.getD h ⟨0, []⟩
def mkF (F : Fair) : Fr.Mk := ⟨F.ties.length, fun t => (tiF F t).r, ⟨fun h => (gvF F h).much, fun h => (gvF F h).order, fun t => (tiF F t).g⟩, ⟨fun h => (tkF F h).much, fun h => (tkF F h).order, fun t => (tiF F t).t⟩⟩
section
variable {F : Fair} {X : List Int} {b : Bool} {k t h : Nat}
theorem ix_sh (hk : k < X.length) : ixP (shD b X) (natD k) = some (.int (at0 X k)) := by
  cases b
  · exact atI_bears hk
  · exact atI_bears hk
theorem tiF_eq (hk : t < F.ties.length) : tiF F t = F.ties[t] := by simp [tiF, hk]
theorem gvF_eq (hk : h < F.givers.length) : gvF F h = F.givers[h] := by simp [gvF, hk]
theorem tkF_eq (hk : h < F.takers.length) : tkF F h = F.takers[h] := by simp [tkF, hk]
theorem atI_tie (hk : t < F.ties.length) : atI (F.ties.map tieD) (t : Int) = some (tieD (tiF F t)) := by rw [atI_map hk, tiF_eq hk]
theorem atI_gv (hk : h < F.givers.length) : atI (F.givers.map seatD) (h : Int) = some (seatD (gvF F h)) := by rw [atI_map hk, gvF_eq hk]
theorem atI_tk (hk : h < F.takers.length) : atI (F.takers.map seatD) (h : Int) = some (seatD (tkF F h)) := by rw [atI_map hk, tkF_eq hk]
theorem IsFair.ti (hF : IsFair F) (ht : t < F.ties.length) : OkTie F.givers.length F.takers.length (tiF F t) := by rw [tiF_eq ht]; exact hF.tie _ (List.getElem_mem ht)
theorem IsFair.gv (hF : IsFair F) (hh : h < F.givers.length) : OkSeat F.ties 0 h (gvF F h) := by rw [gvF_eq hh]; exact hF.give h _ (List.getElem?_eq_getElem hh)
theorem IsFair.tk (hF : IsFair F) (hh : h < F.takers.length) : OkSeat F.ties 1 h (tkF F h) := by rw [tkF_eq hh]; exact hF.take h _ (List.getElem?_eq_getElem hh)
theorem mem_at {s : Nat} (hs : s < 2) : t ∈ atT F.ties s h ↔ t < F.ties.length ∧ (if s = 0 then (tiF F t).g else (tiF F t).t) = h := by
  rw [mem_atT]
  constructor
  · rintro ⟨x, h1, h2⟩
    obtain ⟨h3, h4⟩ := List.getElem?_eq_some_iff.mp h1
    refine ⟨h3, ?_⟩
    rw [tiF_eq h3, h4]
    unfold tside at h2
    exact h2
  · rintro ⟨h1, h2⟩
    refine ⟨_, List.getElem?_eq_getElem h1, ?_⟩
    rw [tiF_eq h1] at h2
    unfold tside
    exact h2
theorem nodup_atT {s : Nat} : (atT F.ties s h).Nodup := (atT_sorted F.ties s h).imp fun h => by omega
theorem mk_ok (hF : IsFair F) : (mkF F).Ok := by
  refine ⟨⟨fun t ht => ?_, fun h t ht => ?_, fun h => ?_⟩, ⟨fun t ht => ?_, fun h t ht => ?_, fun h => ?_⟩⟩
  · have ht : t < F.ties.length := ht
    exact ((hF.gv (hF.ti ht).g).p.mem_iff).mpr ((mem_at (s := 0) (by omega)).mpr ⟨ht, rfl⟩)
  · have ht : t ∈ (gvF F h).order := ht
    by_cases c : h < F.givers.length
    · have := (mem_at (s := 0) (by omega)).mp ((hF.gv c).p.mem_iff.mp ht)
      exact this
    · simp [gvF, c] at ht
  · show (gvF F h).order.Nodup
    by_cases c : h < F.givers.length
    · exact (hF.gv c).p.nodup_iff.mpr nodup_atT
    · simp [gvF, c]
  · have ht : t < F.ties.length := ht
    exact ((hF.tk (hF.ti ht).t).p.mem_iff).mpr ((mem_at (s := 1) (by omega)).mpr ⟨ht, rfl⟩)
  · have ht : t ∈ (tkF F h).order := ht
    by_cases c : h < F.takers.length
    · have := (mem_at (s := 1) (by omega)).mp ((hF.tk c).p.mem_iff.mp ht)
      exact this
    · simp [tkF, c] at ht
  · show (tkF F h).order.Nodup
    by_cases c : h < F.takers.length
    · exact (hF.tk c).p.nodup_iff.mpr nodup_atT
    · simp [tkF, c]
theorem ord_g (hF : IsFair F) : (∀ j ∈ (gvF F h).order, j < F.ties.length) ∧ (gvF F h).order.length ≤ 36 := by
  refine ⟨fun j hj => ((mk_ok hF).g.back h j hj).1, ?_⟩
  by_cases c : h < F.givers.length
  · rw [(hF.gv c).p.length_eq]; exact Nat.le_trans atT_len hF.n
  · simp [gvF, c]
theorem ord_t (hF : IsFair F) : (∀ j ∈ (tkF F h).order, j < F.ties.length) ∧ (tkF F h).order.length ≤ 36 := by
  refine ⟨fun j hj => ((mk_ok hF).p.back h j hj).1, ?_⟩
  by_cases c : h < F.takers.length
  · rw [(hF.tk c).p.length_eq]; exact Nat.le_trans atT_len hF.n
  · simp [tkF, c]
theorem m_g (hF : IsFair F) : 0 ≤ (gvF F h).much := by
  by_cases c : h < F.givers.length
  · exact (hF.gv c).m0
  · simp [gvF, c]
theorem m_t (hF : IsFair F) : 0 ≤ (tkF F h).much := by
  by_cases c : h < F.takers.length
  · exact (hF.tk c).m0
  · simp [tkF, c]
theorem r_0 (hF : IsFair F) : 0 ≤ (tiF F t).r := by
  by_cases c : t < F.ties.length
  · exact (hF.ti c).r0
  · simp [tiF, c]
theorem p_borneS {l : List Nat} (h : ∀ j ∈ l, j < X.length) (hl : l.length ≤ 40000) : F_borne [shD b X, natsD l] = some (.int (Calm.sm l (at0 X))) := by
  refine eq_of_wp ?_
  unfold F_borne
  refine wp_runP rfl ?_
  unfold X_borne
  simp -implicitDefEqProofs
  refine ⟨hl, wp_lcT (fun j => .int (at0 X j)) (fun j hj => ?_) ?_⟩
  · simp -implicitDefEqProofs [ix_sh (h j hj)]
  · simp -implicitDefEqProofs [q_sum]
    rfl
theorem p_lessS {o : List Nat} (nn : ∀ j, 0 ≤ at0 X j) (hk : k ∈ o) (h : ∀ j ∈ o, j < X.length) (hl : o.length ≤ 40000) : F_has_less_liked [shD b X, natsD o, natD k] = some (.bool (lessB X o k)) := by
  refine eq_of_wp ?_
  unfold F_has_less_liked
  refine wp_runP rfl ?_
  unfold X_has_less_liked
  simp -implicitDefEqProofs [n_idx hk, cut_nats]
  rw [p_borneS (fun j hj => h j (List.mem_of_mem_drop hj)) (by simp; omega)]
  simp -implicitDefEqProofs
  unfold lessB
  apply Bool.eq_iff_iff.mpr
  rw [decide_eq_true_iff, List.any_eq_true]
  constructor
  · intro z
    obtain ⟨j, h1, h2⟩ := Calm.sm_pos (l := o.drop (o.idxOf k + 1)) (g := at0 X) (fun j _ => nn j) z
    exact ⟨j, h1, decide_eq_true h2⟩
  · rintro ⟨j, h1, h2⟩
    apply Classical.byContradiction
    intro z
    have := Calm.sm_zero (l := o.drop (o.idxOf k + 1)) (g := at0 X) (fun j _ => nn j) (by omega) j h1
    have := of_decide_eq_true h2
    omega
def spaS (s : Seat) (X : List Int) : Int := s.much - Calm.sm s.order (at0 X)
def willB (s : Seat) (X : List Int) (t : Nat) : Bool := decide (0 < spaS s X) || lessB X s.order t
theorem p_spareS {s : Seat} (h : ∀ j ∈ s.order, j < X.length) (hl : s.order.length ≤ 40000) : F_spare [seatD s, shD b X] = some (.int (spaS s X)) := by
  refine eq_of_wp ?_
  unfold F_spare
  refine wp_runP rfl ?_
  unfold X_spare
  simp -implicitDefEqProofs [p_borneS h hl]
  rfl
theorem p_willS {s : Seat} (nn : ∀ j, 0 ≤ at0 X j) (hk : k ∈ s.order) (h : ∀ j ∈ s.order, j < X.length) (hl : s.order.length ≤ 40000) : F_would_have [seatD s, shD b X, natD k] = some (.bool (willB s X k)) := by
  refine eq_of_wp ?_
  unfold F_would_have
  refine wp_runP rfl ?_
  unfold X_would_have
  simp -implicitDefEqProofs [p_spareS h hl, p_lessS nn hk h hl]
  rfl
/-- in the words of markets -/
theorem less_g (hF : IsFair F) : lessB X (gvF F (tiF F t).g).order t = true ↔ Fr.less (mkF F).G (at0 X) t := by
  rw [lessB_iff (show (gvF F (tiF F t).g).order.Nodup from (mk_ok hF).g.nd _)]
  exact ⟨fun ⟨j, h1, h2, h3⟩ => ⟨j, ⟨h1, h2⟩, h3⟩, fun ⟨j, ⟨h1, h2⟩, h3⟩ => ⟨j, h1, h2, h3⟩⟩
theorem less_t (hF : IsFair F) : lessB X (tkF F (tiF F t).t).order t = true ↔ Fr.less (mkF F).P (at0 X) t := by
  rw [lessB_iff (show (tkF F (tiF F t).t).order.Nodup from (mk_ok hF).p.nd _)]
  exact ⟨fun ⟨j, h1, h2, h3⟩ => ⟨j, ⟨h1, h2⟩, h3⟩, fun ⟨j, ⟨h1, h2⟩, h3⟩ => ⟨j, h1, h2, h3⟩⟩
theorem will_g (hF : IsFair F) : willB (gvF F (tiF F t).g) X t = true ↔ Fr.will (mkF F).G (at0 X) t := by
  unfold willB
  rw [Bool.or_eq_true, decide_eq_true_iff, less_g hF]
  unfold Fr.will spaS
  constructor
  · rintro (q | q)
    · exact .inl (by show Calm.sm (gvF F (tiF F t).g).order (at0 X) < (gvF F (tiF F t).g).much; omega)
    · exact .inr q
  · rintro (q | q)
    · have q : Calm.sm (gvF F (tiF F t).g).order (at0 X) < (gvF F (tiF F t).g).much := q
      exact .inl (by omega)
    · exact .inr q
theorem will_t (hF : IsFair F) : willB (tkF F (tiF F t).t) X t = true ↔ Fr.will (mkF F).P (at0 X) t := by
  unfold willB
  rw [Bool.or_eq_true, decide_eq_true_iff, less_t hF]
  unfold Fr.will spaS
  constructor
  · rintro (q | q)
    · exact .inl (by show Calm.sm (tkF F (tiF F t).t).order (at0 X) < (tkF F (tiF F t).t).much; omega)
    · exact .inr q
  · rintro (q | q)
    · have q : Calm.sm (tkF F (tiF F t).t).order (at0 X) < (tkF F (tiF F t).t).much := q
      exact .inl (by omega)
    · exact .inr q
/-- numbers as many as ties, none below 0 -/
structure Shr (F : Fair) (X : List Int) : Prop where
  len : X.length = F.ties.length
  nn : ∀ j, 0 ≤ at0 X j
/-- the tie that a giver turns to -/
def openL (F : Fair) (X : List Int) (t : Nat) : Bool := decide (at0 X t < (tiF F t).r) && willB (tkF F (tiF F t).t) X t
def wantL (F : Fair) (X : List Int) (h : Nat) : Option Nat := (gvF F h).order.find? (openL F X)
def optD : Option Nat → PD
  | none => .none
  | some t => natD t
theorem open_iff (hF : IsFair F) : openL F X t = true ↔ Fr.opn (mkF F) (at0 X) t := by
  unfold openL
  rw [Bool.and_eq_true, decide_eq_true_iff, will_t hF]
  exact Iff.rfl
theorem p_wanted (hF : IsFair F) (sh : Shr F X) (hh : h < F.givers.length) : F_wanted [fairD F, shD b X, natD h] = some (optD (wantL F X h)) := by
  refine eq_of_wp ?_
  unfold F_wanted
  refine wp_runP rfl ?_
  unfold X_wanted
  obtain ⟨o1, o2⟩ := ord_g (h := h) hF
  obtain ⟨o, ho⟩ : ∃ o, o = (gvF F h).order := ⟨_, rfl⟩
  have wl : wantL F X h = o.find? (openL F X) := by rw [ho]; rfl
  rw [wl]
  rw [← ho] at o1 o2
  simp -implicitDefEqProofs [atI_gv hh, ← ho, natsD]
  refine wp_forM (fun i ρ => ∃ (z6 z7 z8 : Sl), ρ = [.dat (fairD F), .dat (shD b X), .dat (natD h), .dat (.tuple (F.ties.map tieD)), .dat (.tuple (F.givers.map seatD)), .dat (.tuple (F.takers.map seatD)), z6, z7, z8] ∧ ∀ t ∈ o.take i, openL F X t = false) ⟨_, _, _, rfl, by simp⟩ ?_ ?_
  · rintro i hi ρ ⟨z6, z7, z8, rfl, no⟩
    obtain ⟨t, ht⟩ : ∃ t, t = o[i] := ⟨_, rfl⟩
    have tn : t < F.ties.length := by rw [ht]; exact o1 _ (List.getElem_mem hi)
    have ot := hF.ti tn
    have mt : t ∈ (tkF F (tiF F t).t).order := (mk_ok hF).p.mem t tn
    obtain ⟨q1, q2⟩ := ord_t (h := (tiF F t).t) hF
    have wt := p_willS (b := b) sh.nn mt (fun j hj => by rw [sh.len]; exact q1 j hj) (by omega)
    have c1 : slP (tieD (tiF F t)) (some 1) none = some (.tuple [natD (tiF F t).t, .int (tiF F t).r]) := rfl
    rw [← ht]
    unfold X_wanted_b1
    simp -implicitDefEqProofs [atI_tie tn, c1, ix_sh (b := b) (show t < X.length by rw [sh.len]; exact tn), atI_tk ot.t, wt]
    have fi : o.find? (openL F X) = if openL F X t = true then some t else (o.drop (i + 1)).find? (openL F X) := by
      rw [← List.take_append_drop i o, List.find?_append, List.find?_eq_none.mpr (fun x hx => by rw [no x hx]; exact Bool.false_ne_true)]
      rw [List.drop_eq_getElem_cons hi, List.find?_cons, ← ht]
      have : List.drop (i + 1) (List.take i o ++ t :: List.drop (i + 1) o) = List.drop (i + 1) o := by
        have l : (List.take i o).length = i := by simp; omega
        rw [List.drop_append, l]
        simp
        omega
      rw [this]
      cases openL F X t <;> rfl
    have ew : (decide (at0 X t < (tiF F t).r) && willB (tkF F (tiF F t).t) X t) = openL F X t := rfl
    refine wp_alt (fun c => ?_) (fun c => ?_)
    · have c : openL F X t = true := by simpa [openL] using c
      rw [if_pos c] at fi
      simp -implicitDefEqProofs [fi]
      rfl
    · have c : openL F X t = false := by simpa [openL] using c
      simp -implicitDefEqProofs
      refine ⟨_, _, _, rfl, fun x hx => ?_⟩
      rw [List.take_succ_eq_append_getElem hi, ← ht] at hx
      rcases List.mem_append.mp hx with z | z
      · exact no x z
      · rw [List.mem_singleton.mp z]; exact c
  · rintro ρ ⟨z6, z7, z8, rfl, no⟩
    rw [List.take_length] at no
    rw [List.find?_eq_none.mpr (fun x hx => by rw [no x hx]; exact Bool.false_ne_true)]
    simp -implicitDefEqProofs
    rfl
end
end Fn

namespace Fn
open PySem PySem.Spec PyProof.Rows L2 Uv
section
variable {F : Fair} {X : List Int}
theorem spa_set (hF : IsFair F) {t : Nat} {v : Int} (hl : X.length = F.ties.length) (ht : t < F.ties.length) (h0 : at0 X t = 0) (h : Nat) :
    spaS (gvF F h) (X.set t v) = spaS (gvF F h) X - (if (tiF F t).g = h then v else 0) ∧ spaS (tkF F h) (X.set t v) = spaS (tkF F h) X - (if (tiF F t).t = h then v else 0) := by
  have ok := mk_ok hF
  have a1 : at0 (X.set t v) t = v := by simp [at0, hl, ht]
  have a2 : ∀ j, j ≠ t → at0 (X.set t v) j = at0 X j := fun j hj => by
    unfold at0
    rw [List.getD_eq_getElem?_getD, List.getElem?_set_ne (fun e => hj e.symm)]
    rfl
  have key : ∀ (o : List Nat), o.Nodup → Calm.sm o (at0 (X.set t v)) = Calm.sm o (at0 X) + (if t ∈ o then v else 0) := fun o nd => by
    by_cases m : t ∈ o
    · rw [if_pos m, Fr.sm_one (g := at0 X) nd m fun j _ hn => a2 j hn, a1, h0]; omega
    · rw [if_neg m, Calm.sm_same (g := at0 X) fun j hj => a2 j fun e => m (by rw [← e]; exact hj)]; omega
  unfold spaS
  constructor
  · rw [key (gvF F h).order (ok.g.nd h)]
    by_cases e : (tiF F t).g = h
    · have m : t ∈ (gvF F h).order := by rw [← e]; exact ok.g.mem t ht
      rw [if_pos m, if_pos e]; omega
    · have m : t ∉ (gvF F h).order := fun z => e (ok.g.back h t z).2
      rw [if_neg m, if_neg e]; omega
  · rw [key (tkF F h).order (ok.p.nd h)]
    by_cases e : (tiF F t).t = h
    · have m : t ∈ (tkF F h).order := by rw [← e]; exact ok.p.mem t ht
      rw [if_pos m, if_pos e]; omega
    · have m : t ∉ (tkF F h).order := fun z => e (ok.p.back h t z).2
      rw [if_neg m, if_neg e]; omega
/-- a sharing -/
structure IsSh (F : Fair) (X : List Int) : Prop where
  len : X.length = F.ties.length
  sh : Fr.Sh (mkF F) (at0 X)
theorem IsSh.shr (h : IsSh F X) : Shr F X := ⟨h.len, h.sh.lo⟩
theorem IsSh.of (hl : X.length = F.ties.length) (lo : ∀ t, 0 ≤ at0 X t) (hi : ∀ t, t < F.ties.length → at0 X t ≤ (tiF F t).r) (g : ∀ h, 0 ≤ spaS (gvF F h) X) (p : ∀ h, 0 ≤ spaS (tkF F h) X) : IsSh F X :=
  ⟨hl, ⟨lo, hi, fun h => by have := g h; unfold spaS at this; show Calm.sm (gvF F h).order (at0 X) ≤ (gvF F h).much; omega, fun h => by have := p h; unfold spaS at this; show Calm.sm (tkF F h).order (at0 X) ≤ (tkF F h).much; omega⟩⟩
theorem IsSh.spg (h : IsSh F X) (k : Nat) : 0 ≤ spaS (gvF F k) X := by have := h.sh.g k; have : Calm.sm (gvF F k).order (at0 X) ≤ (gvF F k).much := this; unfold spaS; omega
theorem IsSh.spt (h : IsSh F X) (k : Nat) : 0 ≤ spaS (tkF F k) X := by have := h.sh.p k; have : Calm.sm (tkF F k).order (at0 X) ≤ (tkF F k).much := this; unfold spaS; omega
theorem is_sh0 (hF : IsFair F) : IsSh F (List.replicate F.ties.length (0 : Int)) ∧ (∀ t, at0 (List.replicate F.ties.length (0 : Int)) t = 0) := by
  have e0 : ∀ t, at0 (List.replicate F.ties.length (0 : Int)) t = 0 := fun k => by
    unfold at0
    rw [List.getD_eq_getElem?_getD, List.getElem?_replicate]
    by_cases c : k < F.ties.length <;> simp [c]
  have z : ∀ o : List Nat, Calm.sm o (at0 (List.replicate F.ties.length (0 : Int))) = 0 := fun o => Calm.sm_nul fun k _ => e0 k
  exact ⟨.of (by simp) (fun t => by rw [e0]; omega) (fun t _ => by rw [e0]; exact r_0 hF) (fun h => by unfold spaS; rw [z]; have := m_g (h := h) hF; omega) (fun h => by unfold spaS; rw [z]; have := m_t (h := h) hF; omega), e0⟩
theorem IsSh.put (hF : IsFair F) (h : IsSh F X) {t : Nat} {v : Int} (ht : t < F.ties.length) (h0 : at0 X t = 0) (v0 : 0 ≤ v) (v1 : v ≤ (tiF F t).r) (v2 : v ≤ spaS (gvF F (tiF F t).g) X) (v3 : v ≤ spaS (tkF F (tiF F t).t) X) : IsSh F (X.set t v) := by
  have a1 : at0 (X.set t v) t = v := by simp [at0, h.len, ht]
  have a2 : ∀ j, j ≠ t → at0 (X.set t v) j = at0 X j := fun j hj => by
    unfold at0
    rw [List.getD_eq_getElem?_getD, List.getElem?_set_ne (fun e => hj e.symm)]
    rfl
  refine .of (by rw [List.length_set]; exact h.len) (fun j => ?_) (fun j hj => ?_) (fun k => ?_) fun k => ?_
  · by_cases e : j = t
    · rw [e, a1]; exact v0
    · rw [a2 j e]; exact h.sh.lo j
  · by_cases e : j = t
    · rw [e, a1]; exact v1
    · rw [a2 j e]; exact h.sh.hi j hj
  · rw [(spa_set hF h.len ht h0 k).1]
    by_cases e : (tiF F t).g = k
    · rw [if_pos e, ← e]; omega
    · rw [if_neg e]; have := h.spg k; omega
  · rw [(spa_set hF h.len ht h0 k).2]
    by_cases e : (tiF F t).t = k
    · rw [if_pos e, ← e]; omega
    · rw [if_neg e]; have := h.spt k; omega
theorem min3_ok (a b c : Int) : ∃ m, (if c < (if b < a then b else a) then c else (if b < a then b else a)) = m ∧ m ≤ a ∧ m ≤ b ∧ m ≤ c ∧ (m = a ∨ m = b ∨ m = c) := by
  refine ⟨_, rfl, ?_⟩
  by_cases h1 : b < a
  · rw [if_pos h1]
    by_cases h2 : c < b
    · rw [if_pos h2]; omega
    · rw [if_neg h2]; omega
  · rw [if_neg h1]
    by_cases h2 : c < a
    · rw [if_pos h2]; omega
    · rw [if_neg h2]; omega
theorem c_share {b : Nat} {cs : List Cel} {Q : PD × List Cel → Prop} (h : DkC b cs) (hb : b + 200 ≤ 2 ^ 40) (hF : IsFair F) (hq : ∀ X cs', IsSh F X → DkC (b + 200) cs' → Q (intsD X, cs')) : wp (F__law_sharing cs [fairD F]) (tag Q) := by
  have n36 := hF.n
  have g28 := hF.g.2
  have t28 := hF.t.2
  have ez := is_sh0 hF
  unfold F__law_sharing
  refine wp_runW rfl ?_
  unfold X__law_sharing
  simp -implicitDefEqProofs
  refine ⟨by omega, wp_lcT (fun s => .int s.much) (fun s hs => by simp -implicitDefEqProofs) ?_⟩
  simp -implicitDefEqProofs
  refine ⟨by omega, wp_lcT (fun s => .int s.much) (fun s hs => by simp -implicitDefEqProofs) ?_⟩
  simp -implicitDefEqProofs
  refine ⟨⟨by omega, by omega⟩, ⟨by omega, by omega⟩, ?_⟩
  have lr : (List.range F.ties.length).length = F.ties.length := by simp
  refine c_order h (by omega) (by omega) fun es cs1 pe d1 => ?_
  have el : es.length = F.ties.length := by rw [pe.length_eq, lr]
  have en : es.Nodup := pe.nodup_iff.mpr List.nodup_range
  have em : ∀ t ∈ es, t < F.ties.length := fun t ht => List.mem_range.mp (pe.mem_iff.mp ht)
  have eN : natsD es = .tuple (es.map natD) := rfl
  rw [lr] at d1
  simp -implicitDefEqProofs [eN]
  refine wp_forM (fun i ρ => ∃ (cs' : List Cel) (X L0 L1 : List Int) (z7 z8 z9 z10 z11 z12 z13 : Sl), ρ = [.own cs', .dat (fairD F), .dat (.tuple (F.ties.map tieD)), .dat (.tuple (F.givers.map seatD)), .dat (.tuple (F.takers.map seatD)), .own [.sub (L0.map PyData.int), .sub (L1.map PyData.int)], .own (dats (X.map PyData.int)), z7, z8, z9, z10, z11, z12, z13] ∧ IsSh F X ∧ (∀ t, t ∉ es.take i → at0 X t = 0) ∧ L0.length = F.givers.length ∧ (∀ h, h < F.givers.length → at0 L0 h = spaS (gvF F h) X) ∧ L1.length = F.takers.length ∧ (∀ h, h < F.takers.length → at0 L1 h = spaS (tkF F h) X) ∧ DkC (b + 36 + 2 * i) cs') ⟨cs1, List.replicate F.ties.length (0 : Int), F.givers.map fun s => s.much, F.takers.map fun s => s.much, .un, .un, .un, .un, .un, .un, .un, ?_, ez.1, fun t _ => ez.2 t, by simp, fun h hh => ?_, by simp, fun h hh => ?_, d1.mono (by omega)⟩ ?_ ?_
  · rw [List.map_map, List.map_map, List.map_replicate]
    rfl
  · have z : ∀ o : List Nat, Calm.sm o (at0 (List.replicate F.ties.length (0 : Int))) = 0 := fun o => Calm.sm_nul fun k _ => ez.2 k
    unfold spaS
    rw [z, at0_eq (by simpa using hh), gvF_eq hh]
    simp
  · have z : ∀ o : List Nat, Calm.sm o (at0 (List.replicate F.ties.length (0 : Int))) = 0 := fun o => Calm.sm_nul fun k _ => ez.2 k
    unfold spaS
    rw [z, at0_eq (by simpa using hh), tkF_eq hh]
    simp
  · rintro i hi ρ ⟨cs', X, L0, L1, z7, z8, z9, z10, z11, z12, z13, rfl, ish, zero, l0, e0, l1, e1, d⟩
    obtain ⟨t, ht⟩ : ∃ t, t = es[i] := ⟨_, rfl⟩
    have tn : t < F.ties.length := by rw [ht]; exact em _ (List.getElem_mem hi)
    have ot := hF.ti tn
    have og := ot.g
    have op := ot.t
    have x0 : at0 X t = 0 := zero t fun z => by
      obtain ⟨j, hj, e⟩ := List.getElem_of_mem z
      rw [List.getElem_take] at e
      have hj' : j < i := by simp at hj; omega
      rw [ht] at e
      have := idx_of en (show j < es.length by omega)
      have := idx_of en hi
      simp only [e] at *
      omega
    have al0 : atI (L0.map PyData.int) ((tiF F t).g : Int) = some (.int (spaS (gvF F (tiF F t).g) X)) := by rw [atI_bears (by omega), e0 _ og]
    have al1 : atI (L1.map PyData.int) ((tiF F t).t : Int) = some (.int (spaS (tkF F (tiF F t).t) X)) := by rw [atI_bears (by omega), e1 _ op]
    obtain ⟨m, em3, m1, m2, m3, m4⟩ := min3_ok (tiF F t).r (spaS (gvF F (tiF F t).g) X) (spaS (tkF F (tiF F t).t) X)
    have sg := ish.spg (tiF F t).g
    have st := ish.spt (tiF F t).t
    have r0 := ot.r0
    have r1 := ot.r1
    have m0 : 0 ≤ m := by rcases m4 with e | e | e <;> omega
    have dt : datAt (dats (X.map PyData.int)) t = some (.int (at0 X t)) := by rw [datAt_at (by simpa [ish.len] using tn)]; rw [List.getElem_map, at0_eq (by rw [ish.len]; exact tn)]
    have ixt : ixN (dats (X.map PyData.int)).length (t : Int) = some t := ixN_nat' (by simpa [dats, ish.len] using tn)
    have ix0 : ixN (L0.map PyData.int).length ((tiF F t).g : Int) = some (tiF F t).g := ixN_nat' (by simp; omega)
    have ix1 : ixN (L1.map PyData.int).length ((tiF F t).t : Int) = some (tiF F t).t := ixN_nat' (by simp; omega)
    rw [← ht]
    unfold X__law_sharing_b1
    simp -implicitDefEqProofs [atI_tie tn, al0, al1, em3]
    refine c_draw d (by omega) (by omega) (by omega) fun q1 cs2 b1 d2 => ?_
    simp -implicitDefEqProofs
    refine c_draw d2 (by omega) (by omega) (by omega) fun q2 cs3 b2 d3 => ?_
    simp -implicitDefEqProofs
    refine wp_pick (by simp; omega) fun x hx => ?_
    obtain ⟨v, rfl, v0, v1⟩ : ∃ v : Int, x = .int v ∧ 0 ≤ v ∧ v ≤ m := by
      simp at hx
      rcases hx with rfl | rfl | rfl <;> exact ⟨_, rfl, by omega, by omega⟩
    have put := ish.put hF tn x0 v0 (by omega) (by omega) (by omega)
    have ss := spa_set hF (v := v) ish.len tn x0
    have es1 : (dats (X.map PyData.int)).set t (Cel.dat (.int v)) = dats ((X.set t v).map PyData.int) := by rw [dats_set, List.map_set]
    have sl0 : (L0.map PyData.int).set (tiF F t).g (.int (spaS (gvF F (tiF F t).g) X - v)) = (L0.set (tiF F t).g (spaS (gvF F (tiF F t).g) X - v)).map PyData.int := by rw [List.map_set]
    have sl1 : (L1.map PyData.int).set (tiF F t).t (.int (spaS (tkF F (tiF F t).t) X - v)) = (L1.set (tiF F t).t (spaS (tkF F (tiF F t).t) X - v)).map PyData.int := by rw [List.map_set]
    have sl0' := sl0
    have sl1' := sl1
    have sa : ∀ (a b : List PD) , subAt [Cel.sub a, .sub b] 0 = some a ∧ subAt [Cel.sub a, .sub b] 1 = some b := fun a b => ⟨rfl, rfl⟩
    obtain ⟨D, hD⟩ : ∃ D, D = dats (X.map PyData.int) := ⟨_, rfl⟩
    obtain ⟨D2, hD2⟩ : ∃ D, D = dats ((X.set t v).map PyData.int) := ⟨_, rfl⟩
    obtain ⟨A0, hA0⟩ : ∃ A, A = L0.map PyData.int := ⟨_, rfl⟩
    obtain ⟨A1, hA1⟩ : ∃ A, A = L1.map PyData.int := ⟨_, rfl⟩
    rw [← hD] at dt es1 ixt ⊢
    rw [← hD2] at es1
    rw [← hA0] at al0 ix0 sl0 ⊢
    rw [← hA1] at al1 ix1 sl1 ⊢
    simp -implicitDefEqProofs [ixt, dt, es1, ix0, ix1, al0, al1, sl0, sl1]
    refine ⟨cs3, X.set t v, L0.set (tiF F t).g (spaS (gvF F (tiF F t).g) X - v), L1.set (tiF F t).t (spaS (tkF F (tiF F t).t) X - v), _, _, _, _, _, _, _, by rw [hD2, sl0', sl1'], put, fun s hs => ?_, by simp [l0], fun h hh => ?_, by simp [l1], fun h hh => ?_, d3.mono (by omega)⟩
    · rw [List.take_succ_eq_append_getElem hi, ← ht] at hs
      have ns : s ∉ es.take i := fun z => hs (List.mem_append_left _ z)
      have ne : t ≠ s := fun z => hs (List.mem_append_right _ (by rw [z]; simp))
      unfold at0
      rw [List.getD_eq_getElem?_getD, List.getElem?_set_ne ne]
      exact zero s ns
    · rw [(ss h).1]
      by_cases q : (tiF F t).g = h
      · subst q
        rw [if_pos rfl]
        simp [at0, l0, hh]
      · rw [if_neg q]
        have := e0 h hh
        unfold at0 at this ⊢
        rw [List.getD_eq_getElem?_getD, List.getElem?_set_ne q]
        rw [List.getD_eq_getElem?_getD] at this
        rw [this]; omega
    · rw [(ss h).2]
      by_cases q : (tiF F t).t = h
      · subst q
        rw [if_pos rfl]
        simp [at0, l1, hh]
      · rw [if_neg q]
        have := e1 h hh
        unfold at0 at this ⊢
        rw [List.getD_eq_getElem?_getD, List.getElem?_set_ne q]
        rw [List.getD_eq_getElem?_getD] at this
        rw [this]; omega
  · rintro ρ ⟨cs', X, L0, L1, z7, z8, z9, z10, z11, z12, z13, rfl, ish, zero, l0, e0, l1, e1, d⟩
    have last : sFz 5 (sFz 6 (sRet (wM (xCB (on1 tupP) (xCons (xVar 6) xNil))))) [.own cs', .dat (fairD F), .dat (.tuple (F.ties.map tieD)), .dat (.tuple (F.givers.map seatD)), .dat (.tuple (F.takers.map seatD)), .own [.sub (L0.map PyData.int), .sub (L1.map PyData.int)], .own (dats (X.map PyData.int)), z7, z8, z9, z10, z11, z12, z13] = some (.ret (intsD X) [.own cs', .dat (fairD F), .dat (.tuple (F.ties.map tieD)), .dat (.tuple (F.givers.map seatD)), .dat (.tuple (F.takers.map seatD)), .dat (.list [.list (L0.map PyData.int), .list (L1.map PyData.int)]), .dat (.list (X.map PyData.int)), z7, z8, z9, z10, z11, z12, z13]) := by
      have fz : fzE [.own cs', .dat (fairD F), .dat (.tuple (F.ties.map tieD)), .dat (.tuple (F.givers.map seatD)), .dat (.tuple (F.takers.map seatD)), .dat (.list [.list (L0.map PyData.int), .list (L1.map PyData.int)]), .own (dats (X.map PyData.int)), z7, z8, z9, z10, z11, z12, z13] 6 = [.own cs', .dat (fairD F), .dat (.tuple (F.ties.map tieD)), .dat (.tuple (F.givers.map seatD)), .dat (.tuple (F.takers.map seatD)), .dat (.list [.list (L0.map PyData.int), .list (L1.map PyData.int)]), .dat (.list (X.map PyData.int)), z7, z8, z9, z10, z11, z12, z13] := by
        show [Sl.own cs', _, _, _, _, _, .dat (.list ((dats (X.map PyData.int)).map Cel.pd)), _, _, _, _, _, _, _] = _
        rw [dats_pd]
      show sFz 6 (sRet (wM (xCB (on1 tupP) (xCons (xVar 6) xNil)))) [.own cs', .dat (fairD F), .dat (.tuple (F.ties.map tieD)), .dat (.tuple (F.givers.map seatD)), .dat (.tuple (F.takers.map seatD)), .dat (.list [.list (L0.map PyData.int), .list (L1.map PyData.int)]), .own (dats (X.map PyData.int)), z7, z8, z9, z10, z11, z12, z13] = _
      show sRet (wM (xCB (on1 tupP) (xCons (xVar 6) xNil))) (fzE [.own cs', .dat (fairD F), .dat (.tuple (F.ties.map tieD)), .dat (.tuple (F.givers.map seatD)), .dat (.tuple (F.takers.map seatD)), .dat (.list [.list (L0.map PyData.int), .list (L1.map PyData.int)]), .own (dats (X.map PyData.int)), z7, z8, z9, z10, z11, z12, z13] 6) = _
      rw [fz]
      rfl
    rw [seqK_nxt]
    refine wp_of last ?_
    exact ⟨cs', rfl, hq X cs' ish (d.mono (by omega))⟩
end
end Fn

namespace Fn
open PySem PySem.Spec PyProof.Rows L2 Uv
/-! ### what the laws of fairs ask -/
/-- numbers, truths, tuples of such -/
def plnD : Nat → PD → Bool
  | 0, _ => false
  | _ + 1, .int _ => true
  | _ + 1, .bool _ => true
  | n + 1, .tuple ds => decide (ds.length ≤ 40000) && ds.all (plnD n)
  | _ + 1, _ => false
theorem eqI (i : Int) : eqP (.int i) (.int i) = some (.bool true) := by
  have : eqP (.int i) (.int i) = some (.bool (i == i)) := rfl
  rw [this]
  simp
theorem eqB (b : Bool) : eqP (.bool b) (.bool b) = some (.bool true) := by cases b <;> rfl
theorem same_c : ∀ {n : Nat} {d : PD}, plnD n d = true → F__law_same_c n [d, d] = some (.bool true)
  | 0, _, h => nomatch h
  | n + 1, .int i, _ => by
    refine eq_of_wp ?_
    refine wp_runP rfl ?_
    unfold X__law_same_c
    simp -implicitDefEqProofs [eqI]
  | n + 1, .bool b, _ => by
    refine eq_of_wp ?_
    refine wp_runP rfl ?_
    unfold X__law_same_c
    simp -implicitDefEqProofs [eqB]
  | n + 1, .tuple ds, h => by
    have h : (decide (ds.length ≤ 40000) && ds.all (plnD n)) = true := h
    rw [Bool.and_eq_true, decide_eq_true_iff, List.all_eq_true] at h
    obtain ⟨hl, ha⟩ := h
    refine eq_of_wp ?_
    refine wp_runP rfl ?_
    unfold X__law_same_c
    simp -implicitDefEqProofs
    refine ⟨in62_nat (by omega), hl, wp_lc (fun _ => false) natD (fun j hj => ?_) ?_⟩
    · have hj := List.mem_range.mp hj
      have a := atI_at hj
      simp -implicitDefEqProofs [a, same_c (ha _ (List.getElem_mem hj))]
    · have : (List.range ds.length).filter (fun _ => false) = [] := by simp
      rw [this]
      have e : eqP (.list []) (.list []) = some (.bool true) := rfl
      simp -implicitDefEqProofs [e]
theorem pln_ints {n : Nat} {X : List Int} (h : X.length ≤ 40000) : plnD (n + 2) (intsD X) = true := by
  show (decide ((X.map PyData.int).length ≤ 40000) && (X.map PyData.int).all (plnD (n + 1))) = true
  rw [Bool.and_eq_true, decide_eq_true_iff, List.all_eq_true]
  refine ⟨by simpa using h, fun x hx => ?_⟩
  obtain ⟨i, _, rfl⟩ := List.mem_map.mp hx
  rfl
theorem pln_nats {n : Nat} {X : List Nat} (h : X.length ≤ 40000) : plnD (n + 2) (natsD X) = true := by
  show (decide ((X.map natD).length ≤ 40000) && (X.map natD).all (plnD (n + 1))) = true
  rw [Bool.and_eq_true, decide_eq_true_iff, List.all_eq_true]
  refine ⟨by simpa using h, fun x hx => ?_⟩
  obtain ⟨i, _, rfl⟩ := List.mem_map.mp hx
  rfl
theorem pln_tup {n : Nat} {ds : List PD} (h : ds.length ≤ 40000) (ha : ∀ d ∈ ds, plnD n d = true) : plnD (n + 1) (.tuple ds) = true := by
  show (decide (ds.length ≤ 40000) && ds.all (plnD n)) = true
  rw [Bool.and_eq_true, decide_eq_true_iff, List.all_eq_true]
  exact ⟨h, ha⟩
section
variable {F : Fair} {X : List Int} {b : Bool}
theorem pln_tie {n : Nat} {x : Tie} : plnD (n + 2) (tieD x) = true := pln_tup (by simp) fun d hd => by
  simp at hd
  rcases hd with rfl | rfl | rfl <;> rfl
theorem pln_fair (hF : IsFair F) : plnD 9 (fairD F) = true := by
  have n36 := hF.n
  have g28 := hF.g.2
  have t28 := hF.t.2
  refine pln_tup (n := 8) (by simp) fun d hd => ?_
  simp at hd
  rcases hd with rfl | rfl | rfl
  · refine pln_tup (n := 7) (by simp; omega) fun d hd => ?_
    obtain ⟨x, hx, rfl⟩ := List.mem_map.mp hd
    exact pln_tie
  · refine pln_tup (n := 7) (by simp; omega) fun d hd => ?_
    obtain ⟨x, hx, rfl⟩ := List.mem_map.mp hd
    refine pln_tup (n := 6) (by simp) fun d hd => ?_
    simp at hd
    rcases hd with rfl | rfl
    · rfl
    · obtain ⟨k, hk, rfl⟩ := List.getElem_of_mem hx
      have := (ord_g (h := k) hF).2
      rw [gvF_eq hk] at this
      exact pln_nats (n := 4) (by omega)
  · refine pln_tup (n := 7) (by simp; omega) fun d hd => ?_
    obtain ⟨x, hx, rfl⟩ := List.mem_map.mp hd
    refine pln_tup (n := 6) (by simp) fun d hd => ?_
    simp at hd
    rcases hd with rfl | rfl
    · rfl
    · obtain ⟨k, hk, rfl⟩ := List.getElem_of_mem hx
      have := (ord_t (h := k) hF).2
      rw [tkF_eq hk] at this
      exact pln_nats (n := 4) (by omega)
/-! turned about -/
def turnT (x : Tie) : Tie := ⟨x.t, x.g, x.r⟩
def turnF (F : Fair) : Fair := ⟨F.ties.map turnT, F.takers, F.givers⟩
theorem turn_turn : turnF (turnF F) = F := by
  cases F with
  | mk a b c =>
    show Fair.mk ((a.map turnT).map turnT) b c = _
    rw [List.map_map]
    have : turnT ∘ turnT = id := rfl
    rw [this, List.map_id]
theorem atT_turn {ts : List Tie} {s k : Nat} (hs : s < 2) : atT (ts.map turnT) s k = atT ts (1 - s) k := by
  unfold atT
  rw [List.zipIdx_map, List.filter_map, List.map_map]
  congr 1
  congr 1
  funext p
  have : s = 0 ∨ s = 1 := by omega
  rcases this with rfl | rfl <;> rfl
theorem IsFair.turn (hF : IsFair F) : IsFair (turnF F) := by
  refine ⟨hF.t, hF.g, by show (F.ties.map turnT).length ≤ 36; simpa using hF.n, fun x hx => ?_, fun k x hx => ?_, fun k x hx => ?_⟩
  · obtain ⟨y, hy, rfl⟩ := List.mem_map.mp hx
    have := hF.tie y hy
    exact ⟨this.t, this.g, this.r0, this.r1⟩
  · have := hF.take k x hx
    exact ⟨this.m0, this.m1, by show x.order.Perm (atT (F.ties.map turnT) 0 k); rw [atT_turn (by omega)]; exact this.p⟩
  · have := hF.give k x hx
    exact ⟨this.m0, this.m1, by show x.order.Perm (atT (F.ties.map turnT) 1 k); rw [atT_turn (by omega)]; exact this.p⟩
theorem ti_turn {t : Nat} : tiF (turnF F) t = turnT (tiF F t) := by
  unfold tiF turnF
  by_cases h : t < F.ties.length <;> simp [h, turnT]
theorem p_turned (hF : IsFair F) : F_turned_fair [fairD F] = some (fairD (turnF F)) := by
  have n36 := hF.n
  refine eq_of_wp ?_
  unfold F_turned_fair
  refine wp_runP rfl ?_
  unfold X_turned_fair
  simp -implicitDefEqProofs
  refine ⟨by omega, wp_lcT (fun x => tieD (turnT x)) (fun x hx => by simp -implicitDefEqProofs; rfl) ?_⟩
  have e : F.ties.map (fun x => tieD (turnT x)) = (F.ties.map turnT).map tieD := by rw [List.map_map]; rfl
  rw [e]
  simp -implicitDefEqProofs
  show _ = PyData.tuple [.tuple ((F.ties.map turnT).map tieD), _, _]
  rw [List.map_map]
  rfl
theorem IsSh.turn (h : IsSh F X) : IsSh (turnF F) X := by
  refine .of (by show X.length = (F.ties.map turnT).length; rw [List.length_map]; exact h.len) h.sh.lo (fun t ht => ?_) (fun k => h.spt k) fun k => h.spg k
  have ht : t < (F.ties.map turnT).length := ht
  rw [List.length_map] at ht
  rw [ti_turn]
  exact h.sh.hi t ht
theorem p_seats {ss : List Seat} (hs : ∀ s ∈ ss, (∀ j ∈ s.order, j < X.length) ∧ s.order.length ≤ 40000) (hl : ss.length ≤ 40000) : F_side_in_all [.tuple (ss.map seatD), shD b X] = some (intsD (ss.map fun s => Calm.sm s.order (at0 X))) := by
  refine eq_of_wp ?_
  unfold F_side_in_all
  refine wp_runP rfl ?_
  unfold X_side_in_all
  simp -implicitDefEqProofs
  refine ⟨hl, wp_lcT (fun s => .int (Calm.sm s.order (at0 X))) (fun s hx => ?_) ?_⟩
  · obtain ⟨h1, h2⟩ := hs s hx
    simp -implicitDefEqProofs [p_borneS (b := b) h1 h2]
  simp -implicitDefEqProofs
  show _ = PyData.tuple ((ss.map fun s => Calm.sm s.order (at0 X)).map PyData.int)
  rw [List.map_map]
  rfl
def totsG (F : Fair) (X : List Int) : List Int := F.givers.map fun s => Calm.sm s.order (at0 X)
def totsT (F : Fair) (X : List Int) : List Int := F.takers.map fun s => Calm.sm s.order (at0 X)
theorem seat_g (hF : IsFair F) (hl : X.length = F.ties.length) : ∀ s ∈ F.givers, (∀ j ∈ s.order, j < X.length) ∧ s.order.length ≤ 40000 := fun s hs => by
  obtain ⟨k, hk, rfl⟩ := List.getElem_of_mem hs
  have := ord_g (h := k) hF
  rw [gvF_eq hk] at this
  exact ⟨fun j hj => by rw [hl]; exact this.1 j hj, by omega⟩
theorem seat_t (hF : IsFair F) (hl : X.length = F.ties.length) : ∀ s ∈ F.takers, (∀ j ∈ s.order, j < X.length) ∧ s.order.length ≤ 40000 := fun s hs => by
  obtain ⟨k, hk, rfl⟩ := List.getElem_of_mem hs
  have := ord_t (h := k) hF
  rw [tkF_eq hk] at this
  exact ⟨fun j hj => by rw [hl]; exact this.1 j hj, by omega⟩
theorem p_in_all (hF : IsFair F) (hl : X.length = F.ties.length) : F_in_all [fairD F, shD b X] = some (.tuple [intsD (totsG F X), intsD (totsT F X)]) := by
  have g28 := hF.g.2
  have t28 := hF.t.2
  refine eq_of_wp ?_
  unfold F_in_all
  refine wp_runP rfl ?_
  unfold X_in_all
  simp -implicitDefEqProofs [p_seats (b := b) (seat_g hF hl) (by omega), p_seats (b := b) (seat_t hF hl) (by omega)]
  exact ⟨rfl, rfl⟩
def looseB (F : Fair) (X : List Int) (t : Nat) : Bool := decide (at0 X t < (tiF F t).r) && (willB (gvF F (tiF F t).g) X t && willB (tkF F (tiF F t).t) X t)
def looseL (F : Fair) (X : List Int) : List Nat := (List.range F.ties.length).filter (looseB F X)
theorem p_loose (hF : IsFair F) (sh : Shr F X) : F_loose [fairD F, shD b X] = some (natsD (looseL F X)) := by
  have n36 := hF.n
  refine eq_of_wp ?_
  unfold F_loose
  refine wp_runP rfl ?_
  unfold X_loose
  simp -implicitDefEqProofs
  refine ⟨by omega, wp_lcE (fun p => looseB F X p.2) (fun p => natD p.2) (fun i hi => ?_) ?_⟩
  · have ot := hF.ti hi
    have g1 := ord_g (h := (tiF F i).g) hF
    have t1 := ord_t (h := (tiF F i).t) hF
    have wg := p_willS (b := b) (s := gvF F (tiF F i).g) sh.nn ((mk_ok hF).g.mem i hi) (fun j hj => by rw [sh.len]; exact g1.1 j hj) (by have := g1.2; exact Nat.le_trans this (by omega))
    have wt := p_willS (b := b) (s := tkF F (tiF F i).t) sh.nn ((mk_ok hF).p.mem i hi) (fun j hj => by rw [sh.len]; exact t1.1 j hj) (by have := t1.2; exact Nat.le_trans this (by omega))
    rw [← tiF_eq hi]
    simp -implicitDefEqProofs [ix_sh (b := b) (show i < X.length by rw [sh.len]; exact hi), atI_gv ot.g, atI_tk ot.t, wg, wt]
    rfl
  · have e : (F.ties.zipIdx.filter fun p => looseB F X p.2).map (fun p => natD p.2) = (looseL F X).map natD := by
      have : (F.ties.zipIdx.filter fun p => looseB F X p.2).map (·.2) = looseL F X := by
        refine up_eq (zip_sorted F.ties 0 _).1 (List.Pairwise.filter _ List.pairwise_lt_range) fun j => ?_
        unfold looseL
        rw [List.mem_filter, List.mem_range, List.mem_map]
        constructor
        · rintro ⟨⟨x, i⟩, h1, rfl⟩
          obtain ⟨h2, h3⟩ := List.mem_filter.mp h1
          exact ⟨(List.mem_zipIdx' h2).1, h3⟩
        · rintro ⟨h1, h2⟩
          exact ⟨(F.ties[j], j), List.mem_filter.mpr ⟨List.mem_zipIdx_iff_getElem?.mpr (List.getElem?_eq_getElem h1), h2⟩, rfl⟩
      rw [← this, List.map_map]
      rfl
    rw [e]
    simp -implicitDefEqProofs
    rfl
theorem loose_turn : looseL (turnF F) X = looseL F X := by
  unfold looseL
  have e : (turnF F).ties.length = F.ties.length := by show (F.ties.map turnT).length = _; simp
  rw [e]
  congr 1
  funext t
  unfold looseB
  rw [ti_turn]
  show (_ && (willB (tkF F (tiF F t).t) X t && willB (gvF F (tiF F t).g) X t)) = _
  rw [Bool.and_comm (willB (tkF F (tiF F t).t) X t)]
  rfl
theorem loose_len : (looseL F X).length ≤ F.ties.length := by
  unfold looseL
  exact Nat.le_trans (List.length_filter_le ..) (by simp)
theorem p_is_sharing (hF : IsFair F) (h : IsSh F X) : F_is_sharing [fairD F, intsD X] = some (.bool true) := by
  have n36 := hF.n
  have g28 := hF.g.2
  have t28 := hF.t.2
  have hl := h.len
  refine eq_of_wp ?_
  unfold F_is_sharing
  refine wp_runP rfl ?_
  unfold X_is_sharing
  have eX : intsD X = .tuple (X.map PyData.int) := rfl
  have zp := zipD_map (f := PyData.int) (g := tieD) (l := X) (m := F.ties)
  have tp : F_is_tuple_of [intsD X, natD F.ties.length, natD F.ties.length] = some (.bool true) := by
    rw [eX, p_is_tuple_of]
    simp [hl]
  simp -implicitDefEqProofs [tp]
  rw [eX]
  simp -implicitDefEqProofs [zp]
  refine ⟨by omega, wp_lcT (fun _ => .bool true) (fun p hp => ?_) ?_⟩
  · obtain ⟨i, hi, rfl⟩ := List.getElem_of_mem hp
    rw [List.length_zip] at hi
    have hi1 : i < X.length := by omega
    have hi2 : i < F.ties.length := by omega
    have lo := h.sh.lo i
    have hh := h.sh.hi i hi2
    have hh : at0 X i ≤ (tiF F i).r := hh
    rw [at0_eq hi1] at lo hh
    rw [tiF_eq hi2] at hh
    rw [List.getElem_zip]
    simp -implicitDefEqProofs [lo, hh]
  simp -implicitDefEqProofs [q_all]
  have es : F.givers.map seatD ++ F.takers.map seatD = (F.givers ++ F.takers).map seatD := by rw [List.map_append]
  obtain ⟨S, hS⟩ : ∃ S, S = F.givers ++ F.takers := ⟨_, rfl⟩
  rw [es, ← hS]
  refine ⟨by omega, by omega, wp_lcT (fun _ => .bool true) (fun s hs => ?_) ?_⟩
  · rw [hS] at hs
    have : (∀ j ∈ s.order, j < X.length) ∧ s.order.length ≤ 40000 ∧ 0 ≤ spaS s X := by
      rcases List.mem_append.mp hs with z | z
      · obtain ⟨k, hk, rfl⟩ := List.getElem_of_mem z
        have a := seat_g hF hl _ z
        have b := h.spg k
        rw [gvF_eq hk] at b
        exact ⟨a.1, a.2, b⟩
      · obtain ⟨k, hk, rfl⟩ := List.getElem_of_mem z
        have a := seat_t hF hl _ z
        have b := h.spt k
        rw [tkF_eq hk] at b
        exact ⟨a.1, a.2, b⟩
    have sp := p_spareS (b := true) this.1 this.2.1
    have sp : F_spare [seatD s, .tuple (X.map PyData.int)] = some (.int (spaS s X)) := sp
    simp -implicitDefEqProofs [sp, this.2.2]
  simp -implicitDefEqProofs [q_all]
end
end Fn

namespace Fn
open PySem PySem.Spec PyProof.Rows L2 Uv
section
variable {F : Fair} {X : List Int}
theorem ne_totals {A B : List Int} : neP (.tuple [intsD A, intsD B]) (.tuple [intsD A, intsD B]) = some (.bool false) := by
  have l1 : ∀ L : List Int, Lay 58 (intsD L) := fun L => Lay.tup (k := 57) (Lay.map fun _ => Lay.int)
  have l : Lay 60 (.tuple [intsD A, intsD B]) := (Lay.tup (k := 58) (fun d hd => by
    simp at hd
    rcases hd with rfl | rfl
    · exact l1 _
    · exact l1 _)).mono (by omega)
  rw [neP_lay l l]
  simp [PyData.eqv, PyData.eqvAll, intsD, eqv_ints]
theorem draw2 {b : Nat} {cs : List Cel} {Q : PD × List Cel → Prop} (h : DkC b cs) (hb : b ≤ 2 ^ 40) (hq : ∀ (r : Nat) cs', DkC (b + 1) cs' → Q (natD r, cs')) : wp (F__law_draw cs [.int 2]) (tag Q) := c_draw h hb (by omega) (by omega) fun r cs' _ d => hq r cs' d
end
theorem k28 (ns : List Int) (h : ns.length ≤ 63) : F_law_z27 [scrD (ns.map PyData.int)] = some (.bool true) := by
  refine eq_of_wp ?_
  unfold F_law_z27
  refine wp_runP rfl ?_
  unfold X_law_z27
  simp -implicitDefEqProofs
  refine c_deck h fun cs d => ?_
  simp -implicitDefEqProofs
  refine wp_forR (n := 6) (fun k ρ => ∃ (cs : List Cel) (z2 z3 z4 z5 z6 z7 z8 z9 z10 z11 : Sl), ρ = [.dat (scrD (ns.map PyData.int)), .own cs, z2, z3, z4, z5, z6, z7, z8, z9, z10, z11] ∧ DkC (10000 * k) cs) ⟨cs, _, _, _, _, _, _, _, _, _, _, rfl, d⟩ ?_ ?_
  · rintro k hk ρ ⟨cs, z2, z3, z4, z5, z6, z7, z8, z9, z10, z11, rfl, d⟩
    unfold X_law_z27_b2
    simp -implicitDefEqProofs
    refine draw2 d (by omega) fun r cs1 d1 => ?_
    simp -implicitDefEqProofs
    refine c_fair (seats := 6) (most := 12) d1 (by omega) (by omega) (by omega) (by omega) fun F cs2 hF g6 t6 n12 _ d2 => ?_
    have sh := sho_fair hF
    have tF := p_turned hF
    have tF2 := p_turned hF.turn
    rw [turn_turn] at tF2
    have du : ∀ Q : PD → Prop, Q (fairD (turnF F)) → Q (.tuple [.tuple (F.ties.map fun x => .tuple [natD x.t, natD x.g, .int x.r]), .tuple (F.takers.map seatD), .tuple (F.givers.map seatD)]) := fun Q q => by
      have : fairD (turnF F) = .tuple [.tuple (F.ties.map fun x => .tuple [natD x.t, natD x.g, .int x.r]), .tuple (F.takers.map seatD), .tuple (F.givers.map seatD)] := by
        show PyData.tuple [.tuple ((F.ties.map turnT).map tieD), _, _] = _
        rw [List.map_map]
        rfl
      rw [← this]; exact q
    have s1 := same_c (pln_fair hF.turn)
    have s2 := same_c (pln_fair hF)
    simp -implicitDefEqProofs [rp_of sh]
    refine ⟨by omega, wp_lcT (fun x => .tuple [natD x.t, natD x.g, .int x.r]) (fun x hx => by simp -implicitDefEqProofs) ?_⟩
    simp -implicitDefEqProofs [tF]
    have ed : PyData.tuple [.tuple (F.ties.map fun x => .tuple [natD x.t, natD x.g, .int x.r]), .tuple (F.takers.map seatD), .tuple (F.givers.map seatD)] = fairD (turnF F) := du (fun x => x = fairD (turnF F)) rfl
    rw [ed]
    simp -implicitDefEqProofs [s1, s2, tF2, p_is_fair hF.turn]
    refine wp_forR (n := 4) (fun i ρ => ∃ (cs : List Cel) (z7 z8 z9 z10 z11 : Sl), ρ = [.dat (scrD (ns.map PyData.int)), .own cs, .dat (natD k), .dat (fairD F), .dat (.str (fairD F).shown), .dat (fairD (turnF F)), .dat (fairD (turnF F)), z7, z8, z9, z10, z11] ∧ DkC (10000 * k + 5001 + 200 * i) cs) ⟨cs2, _, _, _, _, _, rfl, d2.mono (by omega)⟩ ?_ ?_
    · rintro i hi ρ ⟨cs, z7, z8, z9, z10, z11, rfl, d⟩
      unfold X_law_z27_b1
      simp -implicitDefEqProofs
      refine c_share d (by omega) hF fun X cs3 ish d3 => ?_
      have is1 := p_is_sharing hF.turn ish.turn
      have ia := p_in_all (b := true) hF ish.len
      have ia2 := p_in_all (b := true) hF.turn ish.turn.len
      rw [← sh_t] at ia ia2
      have l1 := p_loose (b := true) hF ish.shr
      have l2 := p_loose (b := true) hF.turn ish.turn.shr
      rw [loose_turn] at l2
      rw [← sh_t] at l1 l2
      have ne := ne_totals (A := totsT F X) (B := totsG F X)
      have eg : totsG (turnF F) X = totsT F X := rfl
      have et : totsT (turnF F) X = totsG F X := rfl
      rw [eg, et] at ia2
      have s3 := same_c (n := 9) (pln_nats (n := 7) (X := looseL F X) (by have := loose_len (F := F) (X := X); have := hF.n; omega))
      simp -implicitDefEqProofs [is1, ia, ia2, ne, l1, l2, s3]
      exact ⟨cs3, _, _, _, _, _, rfl, d3.mono (by omega)⟩
    · rintro ρ ⟨cs, z7, z8, z9, z10, z11, rfl, d⟩
      simp -implicitDefEqProofs [rp_of sh, ne_shown sh]
      exact ⟨cs, _, _, _, _, _, _, _, _, _, _, rfl, d.mono (by omega)⟩
  · rintro ρ ⟨cs, z2, z3, z4, z5, z6, z7, z8, z9, z10, z11, rfl, d⟩
    simp -implicitDefEqProofs
end Fn

namespace Row
open PySem PySem.Spec PyProof.Rows L2 Uv Fn
def topS (i : Nat) : Stmt := PySem.Challenge.pw_unturned_k28_fairs_turned.main.body.getD i (.Pass ⟨0, 0, 0, 0⟩)
abbrev s__law_deck : Stmt := topS 23
abbrev N__law_deck : List Str := ["_law_script", "_law_cells", "_law_cell"]
theorem sc__law_deck : FnScope N__law_deck ["_law_script"] (defScope s__law_deck) := ⟨rfl, rfl, rfl, by decide +kernel, rfl, by decide +kernel, by decide +kernel⟩
abbrev s__law_draw : Stmt := topS 24
abbrev N__law_draw : List Str := ["_law_deck_here", "_law_many", "_law_cells", "_law_turn", "_law_rests", "_law_blend", "_law_spot", "_law_digit"]
theorem sc__law_draw : FnScope N__law_draw ["_law_deck_here", "_law_many"] (defScope s__law_draw) := ⟨rfl, rfl, rfl, by decide +kernel, rfl, by decide +kernel, by decide +kernel⟩
abbrev s__law_amount : Stmt := topS 25
abbrev N__law_amount : List Str := ["_law_deck_here", "_law_far", "_law_some"]
theorem sc__law_amount : FnScope N__law_amount ["_law_deck_here", "_law_far"] (defScope s__law_amount) := ⟨rfl, rfl, rfl, by decide +kernel, rfl, by decide +kernel, by decide +kernel⟩
abbrev s__law_order : Stmt := topS 26
abbrev N__law_order : List Str := ["_law_deck_here", "_law_numbers", "_law_left", "_law_found", "_law_k"]
theorem sc__law_order : FnScope N__law_order ["_law_deck_here", "_law_numbers"] (defScope s__law_order) := ⟨rfl, rfl, rfl, by decide +kernel, rfl, by decide +kernel, by decide +kernel⟩
abbrev s__law_fair : Stmt := topS 27
abbrev N__law_fair : List Str := ["_law_deck_here", "_law_seats", "_law_most", "_law_far", "_law_many", "_law_ties", "_law_k", "_law_sides", "_law_side", "_law_rows", "_law_seat", "_law_own"]
theorem sc__law_fair : FnScope N__law_fair ["_law_deck_here", "_law_seats", "_law_most", "_law_far"] (defScope s__law_fair) := ⟨rfl, rfl, rfl, by decide +kernel, rfl, by decide +kernel, by decide +kernel⟩
abbrev s__law_same : Stmt := topS 29
abbrev N__law_same : List Str := ["_law_found", "_law_due", "_law_k"]
theorem sc__law_same : FnScope N__law_same ["_law_found", "_law_due"] (defScope s__law_same) := ⟨rfl, rfl, rfl, by decide +kernel, rfl, by decide +kernel, by decide +kernel⟩
abbrev s__law_sharing : Stmt := topS 28
abbrev N__law_sharing : List Str := ["_law_deck_here", "_law_fair_here", "_law_ties", "_law_givers", "_law_takers", "_law_left", "_law_found", "_law_tie", "_law_giver", "_law_taker", "_law_room", "_law_most", "_law_many", "_law_seat"]
theorem sc__law_sharing : FnScope N__law_sharing ["_law_deck_here", "_law_fair_here"] (defScope s__law_sharing) := ⟨rfl, rfl, rfl, by decide +kernel, rfl, by decide +kernel, by decide +kernel⟩
abbrev s_borne : Stmt := topS 8
abbrev N_borne : List Str := ["bears", "numbers", "number"]
theorem sc_borne : FnScope N_borne ["bears", "numbers"] (defScope s_borne) := ⟨rfl, rfl, rfl, by decide +kernel, rfl, by decide +kernel, by decide +kernel⟩
abbrev s_side_in_all : Stmt := topS 18
abbrev N_side_in_all : List Str := ["seats", "sharing", "much", "order"]
theorem sc_side_in_all : FnScope N_side_in_all ["seats", "sharing"] (defScope s_side_in_all) := ⟨rfl, rfl, rfl, by decide +kernel, rfl, by decide +kernel, by decide +kernel⟩
abbrev s_in_all : Stmt := topS 17
abbrev N_in_all : List Str := ["fair", "sharing"]
theorem sc_in_all : FnScope N_in_all ["fair", "sharing"] (defScope s_in_all) := ⟨rfl, rfl, rfl, by decide +kernel, rfl, by decide +kernel, by decide +kernel⟩
abbrev s_is_number : Stmt := topS 4
abbrev N_is_number : List Str := ["thing"]
theorem sc_is_number : FnScope N_is_number ["thing"] (defScope s_is_number) := ⟨rfl, rfl, rfl, by decide +kernel, rfl, by decide +kernel, by decide +kernel⟩
abbrev s_is_number_to : Stmt := topS 5
abbrev N_is_number_to : List Str := ["thing", "most"]
theorem sc_is_number_to : FnScope N_is_number_to ["thing", "most"] (defScope s_is_number_to) := ⟨rfl, rfl, rfl, by decide +kernel, rfl, by decide +kernel, by decide +kernel⟩
abbrev s_is_order : Stmt := topS 7
abbrev N_is_order : List Str := ["thing", "numbers", "number"]
theorem sc_is_order : FnScope N_is_order ["thing", "numbers"] (defScope s_is_order) := ⟨rfl, rfl, rfl, by decide +kernel, rfl, by decide +kernel, by decide +kernel⟩
abbrev s_is_tuple_of : Stmt := topS 6
abbrev N_is_tuple_of : List Str := ["thing", "least", "most"]
theorem sc_is_tuple_of : FnScope N_is_tuple_of ["thing", "least", "most"] (defScope s_is_tuple_of) := ⟨rfl, rfl, rfl, by decide +kernel, rfl, by decide +kernel, by decide +kernel⟩
abbrev s_is_seat : Stmt := topS 14
abbrev N_is_seat : List Str := ["thing", "ties"]
theorem sc_is_seat : FnScope N_is_seat ["thing", "ties"] (defScope s_is_seat) := ⟨rfl, rfl, rfl, by decide +kernel, rfl, by decide +kernel, by decide +kernel⟩
abbrev s_are_seats : Stmt := topS 13
abbrev N_are_seats : List Str := ["seats", "sitting", "number", "seat", "tie", "other"]
theorem sc_are_seats : FnScope N_are_seats ["seats", "sitting"] (defScope s_are_seats) := ⟨rfl, rfl, rfl, by decide +kernel, rfl, by decide +kernel, by decide +kernel⟩
abbrev s_is_tie : Stmt := topS 12
abbrev N_is_tie : List Str := ["thing", "givers", "takers", "giver", "taker", "room"]
theorem sc_is_tie : FnScope N_is_tie ["thing", "givers", "takers"] (defScope s_is_tie) := ⟨rfl, rfl, rfl, by decide +kernel, rfl, by decide +kernel, by decide +kernel⟩
abbrev s_is_fair : Stmt := topS 11
abbrev N_is_fair : List Str := ["thing", "ties", "givers", "takers", "tie"]
theorem sc_is_fair : FnScope N_is_fair ["thing"] (defScope s_is_fair) := ⟨rfl, rfl, rfl, by decide +kernel, rfl, by decide +kernel, by decide +kernel⟩
abbrev s_spare : Stmt := topS 16
abbrev N_spare : List Str := ["seat", "sharing", "much", "order"]
theorem sc_spare : FnScope N_spare ["seat", "sharing"] (defScope s_spare) := ⟨rfl, rfl, rfl, by decide +kernel, rfl, by decide +kernel, by decide +kernel⟩
abbrev s_is_sharing : Stmt := topS 15
abbrev N_is_sharing : List Str := ["fair", "thing", "ties", "givers", "takers", "bears", "tie", "seat"]
theorem sc_is_sharing : FnScope N_is_sharing ["fair", "thing"] (defScope s_is_sharing) := ⟨rfl, rfl, rfl, by decide +kernel, rfl, by decide +kernel, by decide +kernel⟩
abbrev s_has_less_liked : Stmt := topS 9
abbrev N_has_less_liked : List Str := ["bears", "order", "number"]
theorem sc_has_less_liked : FnScope N_has_less_liked ["bears", "order", "number"] (defScope s_has_less_liked) := ⟨rfl, rfl, rfl, by decide +kernel, rfl, by decide +kernel, by decide +kernel⟩
abbrev s_would_have : Stmt := topS 20
abbrev N_would_have : List Str := ["seat", "sharing", "tie"]
theorem sc_would_have : FnScope N_would_have ["seat", "sharing", "tie"] (defScope s_would_have) := ⟨rfl, rfl, rfl, by decide +kernel, rfl, by decide +kernel, by decide +kernel⟩
abbrev s_loose : Stmt := topS 19
abbrev N_loose : List Str := ["fair", "sharing", "ties", "givers", "takers", "number", "giver", "taker", "room"]
theorem sc_loose : FnScope N_loose ["fair", "sharing"] (defScope s_loose) := ⟨rfl, rfl, rfl, by decide +kernel, rfl, by decide +kernel, by decide +kernel⟩
abbrev s_turned_fair : Stmt := topS 21
abbrev N_turned_fair : List Str := ["fair", "ties", "givers", "takers", "giver", "taker", "room"]
theorem sc_turned_fair : FnScope N_turned_fair ["fair"] (defScope s_turned_fair) := ⟨rfl, rfl, rfl, by decide +kernel, rfl, by decide +kernel, by decide +kernel⟩
abbrev s_law : Stmt := topS 30
abbrev N_law : List Str := ["_law_script", "_law_deck_here", "_law_turn", "_law_fair_here", "_law_kept", "_law_due", "_law_found", "_law_k", "_law_sharing_here", "_law_giver", "_law_taker", "_law_room"]
theorem sc_law : FnScope N_law ["_law_script"] (defScope s_law) := ⟨rfl, rfl, rfl, by decide +kernel, rfl, by decide +kernel, by decide +kernel⟩
structure Bm (mg : Str → Option Value) : Prop where
  n_all : mg "all" = none
  n_bool : mg "bool" = none
  n_enumerate : mg "enumerate" = none
  n_int : mg "int" = none
  n_isinstance : mg "isinstance" = none
  n_len : mg "len" = none
  n_list : mg "list" = none
  n_min : mg "min" = none
  n_range : mg "range" = none
  n_repr : mg "repr" = none
  n_sorted : mg "sorted" = none
  n_sum : mg "sum" = none
  n_tuple : mg "tuple" = none
  n_zip : mg "zip" = none
section
variable [kk : KK] {P : Program} {w : World} {mg : Str → Option Value} {base : Heap}
theorem eq_F__law_deck_d : F__law_deck_d = runD 1 2 X__law_deck_d := by unfold F__law_deck_d; rfl
theorem c__law_deck (F : Dfn K mg "_law_deck" s__law_deck ["_law_script"]) (B : Bm mg) : CalG P w K mg base 1 "_law_deck" (spD F__law_deck_d) := by
  rw [eq_F__law_deck_d]
  refine cal_g F sc__law_deck (fun vs H Q E h => len_D h) (fun f cdv A outer s H E hG hr => ⟨T__law_deck_d, ?_, fun vs Q h => go_D (n := 1) (k := 2) ss__law_deck_d rfl h⟩)
  unfold T__law_deck_d
  exact pss_cons (ps_set (i := 1) sc__law_deck.nd rfl (.inl rfl) (pe_op op_addU (pe_callTy call_list_of (by rfl) B.n_list (by decide +kernel) (pa_cons (pe_slice sl_U (pv 0) po_none (po_some pe_int)) pa_nil)) (pe_op op_mulV (pe_lst (pa_cons pe_int pa_nil)) (pe_callTy call_int1 (by rfl) B.n_int (by decide +kernel) (pa_cons (pe_cmpR (op_eqX hr.units) (pe_callB call_len_seq (by rfl) B.n_len (by decide +kernel) (pa_cons (pv 0) pa_nil)) pe_int (nomark _)) pa_nil)))))
      (pss_one (ps_ret (pe_lst (pa_cons (pv 1) (pa_cons pe_int (pa_cons (pe_lc (own := [("_law_cell", 2)]) rfl sc__law_deck.nd (PI.or (pi_list (pv 1)) (pi_tup (pv 1))) (blkOk_by (N := N__law_deck) (sc := defScope s__law_deck) (by decide +kernel)) (fun _ _ _ _ _ => (pg_name (i := 2) sc__law_deck.nd rfl (.inl rfl))) (fun _ _ _ _ _ => pts_nil) (fun _ _ _ _ _ => pe_op op_mulV (pv 2) (pe_callTy call_int1 (by rfl) B.n_int (by decide +kernel) (pa_cons (pe_cmpR op_ge (pv 2) (pe_op op_pow pe_int pe_int) (nomark _)) pa_nil)))) (pa_cons pe_int pa_nil)))))))
theorem eq_F__law_draw : F__law_draw = runW 1 6 X__law_draw := by unfold F__law_draw; rfl
theorem c__law_draw (F : Dfn K mg "_law_draw" s__law_draw ["_law_deck_here", "_law_many"]) (B : Bm mg) : CalG P w K mg base 1 "_law_draw" (spW F__law_draw) := by
  rw [eq_F__law_draw]
  refine cal_g F sc__law_draw (fun vs H Q E h => len_W h) (fun f cdv A outer s H E hG hr => ⟨T__law_draw, ?_, fun vs Q h => go_W (n := 1) (k := 6) ss__law_draw rfl h⟩)
  unfold T__law_draw
  exact pss_cons (ps_asg (pv 0) (PG.or (pg_tup rfl (pgs_cons (pg_name (i := 2) sc__law_draw.nd rfl (.inl rfl)) (pgs_cons (pg_name (i := 3) sc__law_draw.nd rfl (.inl rfl)) (pgs_cons (pg_name (i := 4) sc__law_draw.nd rfl (.inl rfl)) (pgs_cons (pg_name (i := 5) sc__law_draw.nd rfl (.inl rfl)) pgs_nil))))) (pg_unl rfl (pgs_cons (pg_name (i := 2) sc__law_draw.nd rfl (.inl rfl)) (pgs_cons (pg_name (i := 3) sc__law_draw.nd rfl (.inl rfl)) (pgs_cons (pg_name (i := 4) sc__law_draw.nd rfl (.inl rfl)) (pgs_cons (pg_name (i := 5) sc__law_draw.nd rfl (.inl rfl)) pgs_nil)))))))
      (pss_cons (ps_set (i := 6) sc__law_draw.nd rfl (.inl rfl) (pe_op op_mod (pv 3) (pe_callB call_len_seq (by rfl) B.n_len (by decide +kernel) (pa_cons (pv 2) pa_nil))))
      (pss_cons (ps_asg (pe_op op_addU (pv 3) pe_int) (pg_sub (pv 0) pe_int set_list))
      (pss_cons (ps_if (pt_cmpR (op_gtU hr.units) (pe_ix ix_seq (pv 4) (pv 6) (fun _ _ => rfl)) pe_int (nomark _)) (pss_cons (ps_set (i := 7) sc__law_draw.nd rfl (.inl rfl) (pe_op op_mod (pe_ix ix_seq (pv 4) (pv 6) (fun _ _ => rfl)) (pv 1))) (pss_cons (ps_asg (pe_op op_fdivW (pe_ix ix_seq (pv 4) (pv 6) (fun _ _ => rfl)) (pv 1)) (pg_sub (pv 4) (pv 6) set_list)) (pss_one (ps_ret (pv 7))))) pss_nil)
      (pss_cons (ps_asg (pe_op op_mod (pe_op op_addU (pe_op op_addU (pe_op op_mulV (pv 5) pe_int) (pe_op op_mod (pe_ix ix_seq (pv 2) (pv 6) (fun _ _ => rfl)) pe_int)) (pe_op op_mulV pe_int (pv 3))) pe_int) (pg_sub (pv 0) pe_int set_list))
      (pss_one (ps_ret (pe_op op_mod (pe_op op_fdivW (pe_op op_mod (pe_op op_mulV (pe_ix ix_seq (pv 0) pe_int (fun _ _ => rfl)) (pe_ix ix_seq (pv 0) pe_int (fun _ _ => rfl))) pe_int) pe_int) (pv 1))))))))
theorem eq_F__law_amount : F__law_amount = runW 1 1 X__law_amount := by unfold F__law_amount; rfl
theorem c__law_amount (F : Dfn K mg "_law_amount" s__law_amount ["_law_deck_here", "_law_far"]) (B : Bm mg) (c__law_draw : CalG P w K mg base 1 "_law_draw" (spW F__law_draw)) : CalG P w K mg base 2 "_law_amount" (spW F__law_amount) := by
  rw [eq_F__law_amount]
  refine cal_g F sc__law_amount (fun vs H Q E h => len_W h) (fun f cdv A outer s H E hG hr => ⟨T__law_amount, ?_, fun vs Q h => go_W (n := 1) (k := 1) ss__law_amount rfl h⟩)
  unfold T__law_amount
  exact pss_cons (ps_set (i := 2) sc__law_amount.nd rfl (.inl rfl) (pe_lst (pa_cons pe_int (pa_cons pe_int (pa_cons pe_int (pa_cons pe_int (pa_cons pe_int (pa_cons pe_int pa_nil))))))))
      (pss_cons (ps_if (pt_val (pv 1)) (pss_one (ps_set (i := 2) sc__law_amount.nd rfl (.inl rfl) (pe_op op_addU (pv 2) (pe_lst (pa_cons (pe_op op_pow pe_int pe_int) (pa_cons (pe_op op_sub (pe_op op_pow pe_int pe_int) pe_int) (pa_cons (pe_op op_pow pe_int pe_int) (pa_cons pe_int (pa_cons (pe_op op_addU pe_int (pe_g c__law_draw hr (by decide) hG (by rfl) (pa_cons (pv 0) (pa_cons (pe_op op_pow pe_int pe_int) pa_nil)))) (pa_cons (pe_g c__law_draw hr (by decide) hG (by rfl) (pa_cons (pv 0) (pa_cons pe_int pa_nil))) pa_nil)))))))))) pss_nil)
      (pss_one (ps_ret (pe_ix ix_seq (pv 2) (pe_g c__law_draw hr (by decide) hG (by rfl) (pa_cons (pv 0) (pa_cons (pe_callB call_len_seq (by rfl) B.n_len (by decide +kernel) (pa_cons (pv 2) pa_nil)) pa_nil))) (fun _ _ => rfl)))))
theorem eq_F__law_order_c : F__law_order_c = runW 1 3 X__law_order_c := by unfold F__law_order_c; rfl
theorem c__law_order (F : Dfn K mg "_law_order" s__law_order ["_law_deck_here", "_law_numbers"]) (B : Bm mg) (c__law_draw : CalG P w K mg base 1 "_law_draw" (spW F__law_draw)) : CalG P w K mg base 2 "_law_order" (spW F__law_order_c) := by
  rw [eq_F__law_order_c]
  refine cal_g F sc__law_order (fun vs H Q E h => len_W h) (fun f cdv A outer s H E hG hr => ⟨T__law_order_c, ?_, fun vs Q h => go_W (n := 1) (k := 3) ss__law_order_c rfl h⟩)
  unfold T__law_order_c
  exact pss_cons (ps_set (i := 2) sc__law_order.nd rfl (.inl rfl) (pe_callTy call_list_of (by rfl) B.n_list (by decide +kernel) (pa_cons (pv 1) pa_nil)))
      (pss_cons (ps_set (i := 3) sc__law_order.nd rfl (.inl rfl) (pe_lst pa_nil))
      (pss_cons (ps_for PassesOwn.never rfl (pi_range1 (by rfl) B.n_range (pa_cons (pe_callB call_len_seq (by rfl) B.n_len (by decide +kernel) (pa_cons (pv 1) pa_nil)) pa_nil)) (pg_name (i := 4) sc__law_order.nd rfl (.inl rfl)) (pss_one (ps_expr (pe_bm PySem.F.plainAttrs_list PySem.F.slot_list_append PySem.F.type_list_append mt_append (pv 3) (pa_cons (pe_bm PySem.F.plainAttrs_list PySem.F.slot_list_pop PySem.F.type_list_pop mt_popAt (pv 2) (pa_cons (pe_g c__law_draw hr (by decide) hG (by rfl) (pa_cons (pv 0) (pa_cons (pe_callB call_len_seq (by rfl) B.n_len (by decide +kernel) (pa_cons (pv 2) pa_nil)) pa_nil))) pa_nil)) pa_nil)))))
      (pss_one (ps_ret (pe_callTy cr_tupF (by rfl) B.n_tuple (by decide +kernel) (pa_cons (pv 3) pa_nil))))))
theorem eq_F__law_fair : F__law_fair = runW 3 8 X__law_fair := by unfold F__law_fair; rfl
theorem c__law_fair (F : Dfn K mg "_law_fair" s__law_fair ["_law_deck_here", "_law_seats", "_law_most", "_law_far"]) (B : Bm mg) (c__law_amount : CalG P w K mg base 2 "_law_amount" (spW F__law_amount)) (c__law_draw : CalG P w K mg base 1 "_law_draw" (spW F__law_draw)) (c__law_order : CalG P w K mg base 2 "_law_order" (spW F__law_order_c)) : CalG P w K mg base 3 "_law_fair" (spW F__law_fair) := by
  rw [eq_F__law_fair]
  refine cal_g F sc__law_fair (fun vs H Q E h => len_W h) (fun f cdv A outer s H E hG hr => ⟨T__law_fair, ?_, fun vs Q h => go_W (n := 3) (k := 8) ss__law_fair rfl h⟩)
  unfold T__law_fair
  exact pss_cons (ps_set (i := 4) sc__law_fair.nd rfl (.inl rfl) (pe_tupF (pa_cons (pe_op op_addU pe_int (pe_g c__law_draw hr (by decide) hG (by rfl) (pa_cons (pv 0) (pa_cons (pv 1) pa_nil)))) (pa_cons (pe_op op_addU pe_int (pe_g c__law_draw hr (by decide) hG (by rfl) (pa_cons (pv 0) (pa_cons (pv 1) pa_nil)))) pa_nil))))
      (pss_cons (ps_set (i := 5) sc__law_fair.nd rfl (.inr rfl) (pe_lst pa_nil))
      (pss_cons (ps_for PassesOwn.never rfl (pi_range1 (by rfl) B.n_range (pa_cons (pe_g c__law_draw hr (by decide) hG (by rfl) (pa_cons (pv 0) (pa_cons (pe_op op_addU (pv 2) pe_int) pa_nil))) pa_nil)) (pg_name (i := 6) sc__law_fair.nd rfl (.inl rfl)) (pss_one (ps_expr (pe_bm PySem.F.plainAttrs_list PySem.F.slot_list_append PySem.F.type_list_append mt_append (pv 5) (pa_cons (pe_tupF (pa_cons (pe_g c__law_draw hr (by decide) hG (by rfl) (pa_cons (pv 0) (pa_cons (pe_ix ix_seq (pv 4) pe_int (fun _ _ => rfl)) pa_nil))) (pa_cons (pe_g c__law_draw hr (by decide) hG (by rfl) (pa_cons (pv 0) (pa_cons (pe_ix ix_seq (pv 4) pe_int (fun _ _ => rfl)) pa_nil))) (pa_cons (pe_g c__law_amount hr (by decide) hG (by rfl) (pa_cons (pv 0) (pa_cons (pv 3) pa_nil))) pa_nil)))) pa_nil)))))
      (pss_cons (ps_set (i := 7) sc__law_fair.nd rfl (.inl rfl) (pe_lst pa_nil))
      (pss_cons (ps_for PassesOwn.never rfl (PI.or (pi_list (pe_tupF (pa_cons pe_int (pa_cons pe_int pa_nil)))) (pi_tup (pe_tupF (pa_cons pe_int (pa_cons pe_int pa_nil))))) (pg_name (i := 8) sc__law_fair.nd rfl (.inr rfl)) (pss_cons (ps_set (i := 9) sc__law_fair.nd rfl (.inl rfl) (pe_lst pa_nil))
      (pss_cons (ps_for PassesOwn.never rfl (pi_range1 (by rfl) B.n_range (pa_cons (pe_ix ix_seq (pv 4) (pv 8) (fun _ _ => rfl)) pa_nil)) (pg_name (i := 10) sc__law_fair.nd rfl (.inr rfl)) (pss_cons (ps_setLc (i := 11) (own := [("_law_k", 6)]) rfl sc__law_fair.nd rfl rfl (sw_true rfl rfl rfl (by decide +kernel)) (pi_range1 (by rfl) B.n_range (pa_cons (pe_callB call_len_seq (by rfl) B.n_len (by decide +kernel) (pa_cons (pv 5) pa_nil)) pa_nil)) (blkOk_by (N := N__law_fair) (sc := defScope s__law_fair) (by decide +kernel)) (fun _ _ _ _ _ => (pg_name (i := 6) sc__law_fair.nd rfl (.inl rfl))) (fun _ _ _ _ _ => pts_one (pt_cmpR (op_eqX hr.units) (pe_ix ix_seq (pe_ix ix_seq (pv 5) (pv 6) (fun _ _ => rfl)) (pv 8) (fun _ _ => rfl)) (pv 10) (nomark _))) (fun _ _ _ _ _ => (pv 6)))
      (pss_one (ps_expr (pe_bm PySem.F.plainAttrs_list PySem.F.slot_list_append PySem.F.type_list_append mt_append (pv 9) (pa_cons (pe_tupF (pa_cons (pe_g c__law_amount hr (by decide) hG (by rfl) (pa_cons (pv 0) (pa_cons (pv 3) pa_nil))) (pa_cons (pe_g c__law_order hr (by decide) hG (by rfl) (pa_cons (pv 0) (pa_cons (pv 11) pa_nil))) pa_nil))) pa_nil))))))
      (pss_one (ps_expr (pe_bm PySem.F.plainAttrs_list PySem.F.slot_list_append PySem.F.type_list_append mt_append (pv 7) (pa_cons (pe_callTy cr_tupF (by rfl) B.n_tuple (by decide +kernel) (pa_cons (pv 9) pa_nil)) pa_nil)))))))
      (pss_one (ps_ret (pe_tupF (pa_cons (pe_callTy cr_tupF (by rfl) B.n_tuple (by decide +kernel) (pa_cons (pv 5) pa_nil)) (pa_cons (pe_ix ix_seq (pv 7) pe_int (fun _ _ => rfl)) (pa_cons (pe_ix ix_seq (pv 7) pe_int (fun _ _ => rfl)) pa_nil))))))))))
theorem c__law_same (F : Dfn K mg "_law_same" s__law_same ["_law_found", "_law_due"]) (B : Bm mg) : ∀ n : Nat, CalG P w K mg base (0 + n) "_law_same" (spF (F__law_same_c n))
  | 0 => cal_none F
  | n + 1 => by
    have c_self := c__law_same F B n
    have e : F__law_same_c (n + 1) = runP 2 1 (X__law_same_c (F__law_same_c n)) := rfl
    rw [e]
    refine cal_g (k := 0 + n) F sc__law_same (fun vs H Q E h => len_F h) (fun f cdv A outer s H E hG hr => ⟨T__law_same_c (F__law_same_c n), ?_, fun vs Q h => go_P (n := 2) (k := 1) (ss__law_same_c _) rfl h⟩)
    unfold T__law_same_c
    exact pss_cons (ps_if (pt_val (pe_callB call_isi (by rfl) B.n_isinstance (by decide +kernel) (pa_cons (pv 1) (pa_cons (pe_bltn (v := .ty "tuple") (by rfl) B.n_tuple (by decide +kernel) rfl) pa_nil)))) (pss_cons (ps_if (PW.pt (pw_or (pt_not (pt_val (pe_callB call_isi (by rfl) B.n_isinstance (by decide +kernel) (pa_cons (pv 0) (pa_cons (pe_bltn (v := .ty "tuple") (by rfl) B.n_tuple (by decide +kernel) rfl) pa_nil))))) (pw_or1 (pt_cmpR (op_neD hr.units) (pe_callB call_len_seq (by rfl) B.n_len (by decide +kernel) (pa_cons (pv 0) pa_nil)) (pe_callB call_len_seq (by rfl) B.n_len (by decide +kernel) (pa_cons (pv 1) pa_nil)) (nomark _))))) (pss_one (ps_ret pe_bl)) pss_nil)
      (pss_one (ps_ret (pe_cmpR (op_eqX hr.units) (pe_lc (own := [("_law_k", 2)]) rfl sc__law_same.nd (pi_range1 (by rfl) B.n_range (pa_cons (pe_callB call_len_seq (by rfl) B.n_len (by decide +kernel) (pa_cons (pv 1) pa_nil)) pa_nil)) (blkOk_by (N := N__law_same) (sc := defScope s__law_same) (by decide +kernel)) (fun _ _ _ _ _ => (pg_name (i := 2) sc__law_same.nd rfl (.inl rfl))) (fun _ _ _ _ _ => pts_one (pt_not (pt_val (pe_g c_self hr (by omega) hG (by rfl) (pa_cons (pe_ix ix_seq (pv 0) (pv 2) (fun _ _ => rfl)) (pa_cons (pe_ix ix_seq (pv 1) (pv 2) (fun _ _ => rfl)) pa_nil)))))) (fun _ _ _ _ _ => (pv 2))) (pe_lst pa_nil) (nomark _))))) pss_nil)
      (pss_cons (ps_if (pt_val (pe_callB call_isi (by rfl) B.n_isinstance (by decide +kernel) (pa_cons (pv 1) (pa_cons (pe_bltn (v := .ty "bool") (by rfl) B.n_bool (by decide +kernel) rfl) pa_nil)))) (pss_one (ps_ret (pe_and (pe_callB call_isi (by rfl) B.n_isinstance (by decide +kernel) (pa_cons (pv 0) (pa_cons (pe_bltn (v := .ty "bool") (by rfl) B.n_bool (by decide +kernel) rfl) pa_nil))) (pe_one (pe_cmpR (op_eqX hr.units) (pv 0) (pv 1) (nomark _)))))) pss_nil)
      (pss_one (ps_ret (pe_and (pe_callB call_isi (by rfl) B.n_isinstance (by decide +kernel) (pa_cons (pv 0) (pa_cons (pe_bltn (v := .ty "int") (by rfl) B.n_int (by decide +kernel) rfl) pa_nil))) (pe_and (pe_not (pe_callB call_isi (by rfl) B.n_isinstance (by decide +kernel) (pa_cons (pv 0) (pa_cons (pe_bltn (v := .ty "bool") (by rfl) B.n_bool (by decide +kernel) rfl) pa_nil)))) (pe_one (pe_cmpR (op_eqX hr.units) (pv 0) (pv 1) (nomark _))))))))
theorem eq_F__law_sharing : F__law_sharing = runW 1 12 X__law_sharing := by unfold F__law_sharing; rfl
theorem c__law_sharing (F : Dfn K mg "_law_sharing" s__law_sharing ["_law_deck_here", "_law_fair_here"]) (B : Bm mg) (c__law_draw : CalG P w K mg base 1 "_law_draw" (spW F__law_draw)) (c__law_order : CalG P w K mg base 2 "_law_order" (spW F__law_order_c)) : CalG P w K mg base 3 "_law_sharing" (spW F__law_sharing) := by
  rw [eq_F__law_sharing]
  refine cal_g F sc__law_sharing (fun vs H Q E h => len_W h) (fun f cdv A outer s H E hG hr => ⟨T__law_sharing, ?_, fun vs Q h => go_W (n := 1) (k := 12) ss__law_sharing rfl h⟩)
  unfold T__law_sharing
  exact pss_cons (ps_asg (pv 1) (PG.or (pg_tup rfl (pgs_cons (pg_name (i := 2) sc__law_sharing.nd rfl (.inl rfl)) (pgs_cons (pg_name (i := 3) sc__law_sharing.nd rfl (.inl rfl)) (pgs_cons (pg_name (i := 4) sc__law_sharing.nd rfl (.inl rfl)) pgs_nil)))) (pg_unl rfl (pgs_cons (pg_name (i := 2) sc__law_sharing.nd rfl (.inl rfl)) (pgs_cons (pg_name (i := 3) sc__law_sharing.nd rfl (.inl rfl)) (pgs_cons (pg_name (i := 4) sc__law_sharing.nd rfl (.inl rfl)) pgs_nil))))))
      (pss_cons (ps_set (i := 5) sc__law_sharing.nd rfl (.inl rfl) (pe_lst (pa_cons (pe_lc (own := [("_law_seat", 13)]) rfl sc__law_sharing.nd (PI.or (pi_list (pv 3)) (pi_tup (pv 3))) (blkOk_by (N := N__law_sharing) (sc := defScope s__law_sharing) (by decide +kernel)) (fun _ _ _ _ _ => (pg_name (i := 13) sc__law_sharing.nd rfl (.inl rfl))) (fun _ _ _ _ _ => pts_nil) (fun _ _ _ _ _ => pe_ix ix_seq (pv 13) pe_int (fun _ _ => rfl))) (pa_cons (pe_lc (own := [("_law_seat", 13)]) rfl sc__law_sharing.nd (PI.or (pi_list (pv 4)) (pi_tup (pv 4))) (blkOk_by (N := N__law_sharing) (sc := defScope s__law_sharing) (by decide +kernel)) (fun _ _ _ _ _ => (pg_name (i := 13) sc__law_sharing.nd rfl (.inl rfl))) (fun _ _ _ _ _ => pts_nil) (fun _ _ _ _ _ => pe_ix ix_seq (pv 13) pe_int (fun _ _ => rfl))) pa_nil))))
      (pss_cons (ps_set (i := 6) sc__law_sharing.nd rfl (.inl rfl) (pe_op op_mulV (pe_lst (pa_cons pe_int pa_nil)) (pe_callB call_len_seq (by rfl) B.n_len (by decide +kernel) (pa_cons (pv 2) pa_nil))))
      (pss_cons (ps_for PassesOwn.never rfl (PI.or (pi_list (pe_g c__law_order hr (by decide) hG (by rfl) (pa_cons (pv 0) (pa_cons (pe_listRg rfl (by rfl) B.n_list (prg_1 (by rfl) B.n_range (pe_callB call_len_seq (by rfl) B.n_len (by decide +kernel) (pa_cons (pv 2) pa_nil)))) pa_nil)))) (pi_tup (pe_g c__law_order hr (by decide) hG (by rfl) (pa_cons (pv 0) (pa_cons (pe_listRg rfl (by rfl) B.n_list (prg_1 (by rfl) B.n_range (pe_callB call_len_seq (by rfl) B.n_len (by decide +kernel) (pa_cons (pv 2) pa_nil)))) pa_nil))))) (pg_name (i := 7) sc__law_sharing.nd rfl (.inl rfl)) (pss_cons (ps_asg (pe_ix ix_seq (pv 2) (pv 7) (fun _ _ => rfl)) (PG.or (pg_tup rfl (pgs_cons (pg_name (i := 8) sc__law_sharing.nd rfl (.inl rfl)) (pgs_cons (pg_name (i := 9) sc__law_sharing.nd rfl (.inl rfl)) (pgs_cons (pg_name (i := 10) sc__law_sharing.nd rfl (.inl rfl)) pgs_nil)))) (pg_unl rfl (pgs_cons (pg_name (i := 8) sc__law_sharing.nd rfl (.inl rfl)) (pgs_cons (pg_name (i := 9) sc__law_sharing.nd rfl (.inl rfl)) (pgs_cons (pg_name (i := 10) sc__law_sharing.nd rfl (.inl rfl)) pgs_nil))))))
      (pss_cons (ps_set (i := 11) sc__law_sharing.nd rfl (.inl rfl) (pe_callB (cr_minV rfl) (by rfl) B.n_min (by decide +kernel) (pa_cons (pv 10) (pa_cons (pe_ix ix_seq (pe_ix ix_seq (pv 5) pe_int (fun _ _ => rfl)) (pv 8) (fun _ _ => rfl)) (pa_cons (pe_ix ix_seq (pe_ix ix_seq (pv 5) pe_int (fun _ _ => rfl)) (pv 9) (fun _ _ => rfl)) pa_nil)))))
      (pss_cons (ps_set (i := 12) sc__law_sharing.nd rfl (.inl rfl) (pe_ix ix_seq (pe_lst (pa_cons pe_int (pa_cons (pv 11) (pa_cons (pv 11) (pa_cons (pe_g c__law_draw hr (by decide) hG (by rfl) (pa_cons (pv 0) (pa_cons (pe_op op_addU (pv 11) pe_int) pa_nil))) pa_nil))))) (pe_g c__law_draw hr (by decide) hG (by rfl) (pa_cons (pv 0) (pa_cons pe_int pa_nil))) (fun _ _ => rfl)))
      (pss_cons (ps_asg (pv 12) (pg_sub (pv 6) (pv 7) set_list))
      (pss_cons (ps_asg (pe_op op_sub (pe_ix ix_seq (pe_ix ix_seq (pv 5) pe_int (fun _ _ => rfl)) (pv 8) (fun _ _ => rfl)) (pv 12)) (pg_sub (pe_ix ix_seq (pv 5) pe_int (fun _ _ => rfl)) (pv 8) set_list))
      (pss_one (ps_asg (pe_op op_sub (pe_ix ix_seq (pe_ix ix_seq (pv 5) pe_int (fun _ _ => rfl)) (pv 9) (fun _ _ => rfl)) (pv 12)) (pg_sub (pe_ix ix_seq (pv 5) pe_int (fun _ _ => rfl)) (pv 9) set_list)))))))))
      (pss_one (ps_ret (pe_callTy cr_tupF (by rfl) B.n_tuple (by decide +kernel) (pa_cons (pv 6) pa_nil)))))))
theorem eq_F_borne : F_borne = runP 2 1 X_borne := by unfold F_borne; rfl
theorem c_borne (F : Dfn K mg "borne" s_borne ["bears", "numbers"]) (B : Bm mg) : CalG P w K mg base 1 "borne" (spF F_borne) := by
  rw [eq_F_borne]
  refine cal_g F sc_borne (fun vs H Q E h => len_F h) (fun f cdv A outer s H E hG hr => ⟨T_borne, ?_, fun vs Q h => go_P (n := 2) (k := 1) ss_borne rfl h⟩)
  unfold T_borne
  exact pss_one (ps_ret (pe_callB (cr_sum rfl) (by rfl) B.n_sum (by decide +kernel) (pa_cons (pe_lc (own := [("number", 2)]) rfl sc_borne.nd (PI.or (pi_list (pv 1)) (pi_tup (pv 1))) (blkOk_by (N := N_borne) (sc := defScope s_borne) (by decide +kernel)) (fun _ _ _ _ _ => (pg_name (i := 2) sc_borne.nd rfl (.inl rfl))) (fun _ _ _ _ _ => pts_nil) (fun _ _ _ _ _ => pe_ix ix_seq (pv 0) (pv 2) (fun _ _ => rfl))) pa_nil)))
theorem eq_F_side_in_all : F_side_in_all = runP 2 2 X_side_in_all := by unfold F_side_in_all; rfl
theorem c_side_in_all (F : Dfn K mg "side_in_all" s_side_in_all ["seats", "sharing"]) (B : Bm mg) (c_borne : CalG P w K mg base 1 "borne" (spF F_borne)) : CalG P w K mg base 2 "side_in_all" (spF F_side_in_all) := by
  rw [eq_F_side_in_all]
  refine cal_g F sc_side_in_all (fun vs H Q E h => len_F h) (fun f cdv A outer s H E hG hr => ⟨T_side_in_all, ?_, fun vs Q h => go_P (n := 2) (k := 2) ss_side_in_all rfl h⟩)
  unfold T_side_in_all
  exact pss_one (ps_ret (pe_callTy cr_tupF (by rfl) B.n_tuple (by decide +kernel) (pa_cons (pe_lc (own := [("much", 2), ("order", 3)]) rfl sc_side_in_all.nd (PI.or (pi_list (pv 0)) (pi_tup (pv 0))) (blkOk_by (N := N_side_in_all) (sc := defScope s_side_in_all) (by decide +kernel)) (fun _ _ _ _ _ => (PG.or (pg_tup rfl (pgs_cons (pg_name (i := 2) sc_side_in_all.nd rfl (.inl rfl)) (pgs_cons (pg_name (i := 3) sc_side_in_all.nd rfl (.inl rfl)) pgs_nil))) (pg_unl rfl (pgs_cons (pg_name (i := 2) sc_side_in_all.nd rfl (.inl rfl)) (pgs_cons (pg_name (i := 3) sc_side_in_all.nd rfl (.inl rfl)) pgs_nil))))) (fun _ _ _ _ _ => pts_nil) (fun _ _ _ _ _ => pe_g c_borne hr (by decide) hG (by rfl) (pa_cons (pv 1) (pa_cons (pv 3) pa_nil)))) pa_nil)))
theorem eq_F_in_all : F_in_all = runP 2 0 X_in_all := by unfold F_in_all; rfl
theorem c_in_all (F : Dfn K mg "in_all" s_in_all ["fair", "sharing"]) (B : Bm mg) (c_side_in_all : CalG P w K mg base 2 "side_in_all" (spF F_side_in_all)) : CalG P w K mg base 3 "in_all" (spF F_in_all) := by
  rw [eq_F_in_all]
  refine cal_g F sc_in_all (fun vs H Q E h => len_F h) (fun f cdv A outer s H E hG hr => ⟨T_in_all, ?_, fun vs Q h => go_P (n := 2) (k := 0) ss_in_all rfl h⟩)
  unfold T_in_all
  exact pss_one (ps_ret (pe_tupF (pa_cons (pe_g c_side_in_all hr (by decide) hG (by rfl) (pa_cons (pe_ix ix_seq (pv 0) pe_int (fun _ _ => rfl)) (pa_cons (pv 1) pa_nil))) (pa_cons (pe_g c_side_in_all hr (by decide) hG (by rfl) (pa_cons (pe_ix ix_seq (pv 0) pe_int (fun _ _ => rfl)) (pa_cons (pv 1) pa_nil))) pa_nil))))
theorem eq_F_is_number : F_is_number = runP 1 0 X_is_number := by unfold F_is_number; rfl
theorem c_is_number (F : Dfn K mg "is_number" s_is_number ["thing"]) (B : Bm mg) : CalG P w K mg base 1 "is_number" (spF F_is_number) := by
  rw [eq_F_is_number]
  refine cal_g F sc_is_number (fun vs H Q E h => len_F h) (fun f cdv A outer s H E hG hr => ⟨T_is_number, ?_, fun vs Q h => go_P (n := 1) (k := 0) ss_is_number rfl h⟩)
  unfold T_is_number
  exact pss_one (ps_ret (pe_and (pe_callB call_isi (by rfl) B.n_isinstance (by decide +kernel) (pa_cons (pv 0) (pa_cons (pe_bltn (v := .ty "int") (by rfl) B.n_int (by decide +kernel) rfl) pa_nil))) (pe_one (pe_not (pe_callB call_isi (by rfl) B.n_isinstance (by decide +kernel) (pa_cons (pv 0) (pa_cons (pe_bltn (v := .ty "bool") (by rfl) B.n_bool (by decide +kernel) rfl) pa_nil)))))))
theorem eq_F_is_number_to : F_is_number_to = runP 2 0 X_is_number_to := by unfold F_is_number_to; rfl
theorem c_is_number_to (F : Dfn K mg "is_number_to" s_is_number_to ["thing", "most"]) (B : Bm mg) (c_is_number : CalG P w K mg base 1 "is_number" (spF F_is_number)) : CalG P w K mg base 2 "is_number_to" (spF F_is_number_to) := by
  rw [eq_F_is_number_to]
  refine cal_g F sc_is_number_to (fun vs H Q E h => len_F h) (fun f cdv A outer s H E hG hr => ⟨T_is_number_to, ?_, fun vs Q h => go_P (n := 2) (k := 0) ss_is_number_to rfl h⟩)
  unfold T_is_number_to
  exact pss_one (ps_ret (pe_and (pe_g c_is_number hr (by decide) hG (by rfl) (pa_cons (pv 0) pa_nil)) (pe_one (pe_chain op_le op_le pe_int (pv 0) (pv 1)))))
theorem eq_F_is_order : F_is_order = runP 2 1 X_is_order := by unfold F_is_order; rfl
theorem c_is_order (F : Dfn K mg "is_order" s_is_order ["thing", "numbers"]) (B : Bm mg) (c_is_number : CalG P w K mg base 1 "is_number" (spF F_is_number)) : CalG P w K mg base 2 "is_order" (spF F_is_order) := by
  rw [eq_F_is_order]
  refine cal_g F sc_is_order (fun vs H Q E h => len_F h) (fun f cdv A outer s H E hG hr => ⟨T_is_order, ?_, fun vs Q h => go_P (n := 2) (k := 1) ss_is_order rfl h⟩)
  unfold T_is_order
  exact pss_one (ps_ret (pe_and (pe_callB call_isi (by rfl) B.n_isinstance (by decide +kernel) (pa_cons (pv 0) (pa_cons (pe_bltn (v := .ty "tuple") (by rfl) B.n_tuple (by decide +kernel) rfl) pa_nil))) (pe_and (pe_callB (cr_all rfl) (by rfl) B.n_all (by decide +kernel) (pa_cons (pe_lc (own := [("number", 2)]) rfl sc_is_order.nd (PI.or (pi_list (pv 0)) (pi_tup (pv 0))) (blkOk_by (N := N_is_order) (sc := defScope s_is_order) (by decide +kernel)) (fun _ _ _ _ _ => (pg_name (i := 2) sc_is_order.nd rfl (.inl rfl))) (fun _ _ _ _ _ => pts_nil) (fun _ _ _ _ _ => pe_g c_is_number hr (by decide) hG (by rfl) (pa_cons (pv 2) pa_nil))) pa_nil)) (pe_one (pe_cmpR (op_eqX hr.units) (pe_callB cr_sortedU (by rfl) B.n_sorted (by decide +kernel) (pa_cons (pv 0) pa_nil)) (pv 1) (nomark _))))))
theorem eq_F_is_tuple_of : F_is_tuple_of = runP 3 0 X_is_tuple_of := by unfold F_is_tuple_of; rfl
theorem c_is_tuple_of (F : Dfn K mg "is_tuple_of" s_is_tuple_of ["thing", "least", "most"]) (B : Bm mg) : CalG P w K mg base 1 "is_tuple_of" (spF F_is_tuple_of) := by
  rw [eq_F_is_tuple_of]
  refine cal_g F sc_is_tuple_of (fun vs H Q E h => len_F h) (fun f cdv A outer s H E hG hr => ⟨T_is_tuple_of, ?_, fun vs Q h => go_P (n := 3) (k := 0) ss_is_tuple_of rfl h⟩)
  unfold T_is_tuple_of
  exact pss_one (ps_ret (pe_and (pe_callB call_isi (by rfl) B.n_isinstance (by decide +kernel) (pa_cons (pv 0) (pa_cons (pe_bltn (v := .ty "tuple") (by rfl) B.n_tuple (by decide +kernel) rfl) pa_nil))) (pe_one (pe_chain op_le op_le (pv 1) (pe_callB call_len_seq (by rfl) B.n_len (by decide +kernel) (pa_cons (pv 0) pa_nil)) (pv 2)))))
theorem eq_F_is_seat : F_is_seat = runP 2 0 X_is_seat := by unfold F_is_seat; rfl
theorem c_is_seat (F : Dfn K mg "is_seat" s_is_seat ["thing", "ties"]) (B : Bm mg) {t_FAR : Tok} (m_FAR : mg "FAR" = some (.int 1000000000000000 t_FAR)) (c_is_number_to : CalG P w K mg base 2 "is_number_to" (spF F_is_number_to)) (c_is_order : CalG P w K mg base 2 "is_order" (spF F_is_order)) (c_is_tuple_of : CalG P w K mg base 1 "is_tuple_of" (spF F_is_tuple_of)) : CalG P w K mg base 3 "is_seat" (spF F_is_seat) := by
  rw [eq_F_is_seat]
  refine cal_g F sc_is_seat (fun vs H Q E h => len_F h) (fun f cdv A outer s H E hG hr => ⟨T_is_seat, ?_, fun vs Q h => go_P (n := 2) (k := 0) ss_is_seat rfl h⟩)
  unfold T_is_seat
  exact pss_one (ps_ret (pe_and (pe_g c_is_tuple_of hr (by decide) hG (by rfl) (pa_cons (pv 0) (pa_cons pe_int (pa_cons pe_int pa_nil)))) (pe_and (pe_g c_is_number_to hr (by decide) hG (by rfl) (pa_cons (pe_ix ix_seq (pv 0) pe_int (fun _ _ => rfl)) (pa_cons (pe_glob (by rfl) m_FAR ⟨_, rfl⟩) pa_nil))) (pe_one (pe_g c_is_order hr (by decide) hG (by rfl) (pa_cons (pe_ix ix_seq (pv 0) pe_int (fun _ _ => rfl)) (pa_cons (pv 1) pa_nil)))))))
theorem eq_F_are_seats : F_are_seats = runP 2 4 X_are_seats := by unfold F_are_seats; rfl
theorem c_are_seats (F : Dfn K mg "are_seats" s_are_seats ["seats", "sitting"]) (B : Bm mg) (c_is_seat : CalG P w K mg base 3 "is_seat" (spF F_is_seat)) : CalG P w K mg base 4 "are_seats" (spF F_are_seats) := by
  rw [eq_F_are_seats]
  refine cal_g F sc_are_seats (fun vs H Q E h => len_F h) (fun f cdv A outer s H E hG hr => ⟨T_are_seats, ?_, fun vs Q h => go_P (n := 2) (k := 4) ss_are_seats rfl h⟩)
  unfold T_are_seats
  exact pss_one (ps_ret (pe_callB (cr_all rfl) (by rfl) B.n_all (by decide +kernel) (pa_cons (pe_lc (own := [("number", 2), ("seat", 3)]) rfl sc_are_seats.nd (PI.or (pi_enum (by rfl) B.n_enumerate (pa_cons (pv 0) pa_nil)) (Un.pi_enumT (by rfl) B.n_enumerate (pa_cons (pv 0) pa_nil))) (blkOk_by (N := N_are_seats) (sc := defScope s_are_seats) (by decide +kernel)) (fun _ _ _ _ _ => (PG.or (pg_tup rfl (pgs_cons (pg_name (i := 2) sc_are_seats.nd rfl (.inr rfl)) (pgs_cons (pg_name (i := 3) sc_are_seats.nd rfl (.inl rfl)) pgs_nil))) (pg_unl rfl (pgs_cons (pg_name (i := 2) sc_are_seats.nd rfl (.inr rfl)) (pgs_cons (pg_name (i := 3) sc_are_seats.nd rfl (.inl rfl)) pgs_nil))))) (fun _ _ _ _ _ => pts_nil) (fun _ _ _ _ _ => pe_g c_is_seat hr (by decide) hG (by rfl) (pa_cons (pv 3) (pa_cons (pe_lc (own := [("tie", 4), ("other", 5)]) rfl sc_are_seats.nd (PI.or (pi_enum (by rfl) B.n_enumerate (pa_cons (pv 1) pa_nil)) (Un.pi_enumT (by rfl) B.n_enumerate (pa_cons (pv 1) pa_nil))) (blkOk_in (N := N_are_seats) rfl (by decide +kernel)) (fun _ _ _ _ _ => (PG.or (pg_tup rfl (pgs_cons (pg_name (i := 4) sc_are_seats.nd rfl (.inl rfl)) (pgs_cons (pg_name (i := 5) sc_are_seats.nd rfl (.inl rfl)) pgs_nil))) (pg_unl rfl (pgs_cons (pg_name (i := 4) sc_are_seats.nd rfl (.inl rfl)) (pgs_cons (pg_name (i := 5) sc_are_seats.nd rfl (.inl rfl)) pgs_nil))))) (fun _ _ _ _ _ => pts_one (pt_cmpR (op_eqX hr.units) (pv 5) (pv 2) (nomark _))) (fun _ _ _ _ _ => (pv 4))) pa_nil)))) pa_nil)))
theorem eq_F_is_tie : F_is_tie = runP 3 3 X_is_tie := by unfold F_is_tie; rfl
theorem c_is_tie (F : Dfn K mg "is_tie" s_is_tie ["thing", "givers", "takers"]) (B : Bm mg) {t_FAR : Tok} (m_FAR : mg "FAR" = some (.int 1000000000000000 t_FAR)) (c_is_number_to : CalG P w K mg base 2 "is_number_to" (spF F_is_number_to)) (c_is_tuple_of : CalG P w K mg base 1 "is_tuple_of" (spF F_is_tuple_of)) : CalG P w K mg base 3 "is_tie" (spF F_is_tie) := by
  rw [eq_F_is_tie]
  refine cal_g F sc_is_tie (fun vs H Q E h => len_F h) (fun f cdv A outer s H E hG hr => ⟨T_is_tie, ?_, fun vs Q h => go_P (n := 3) (k := 3) ss_is_tie rfl h⟩)
  unfold T_is_tie
  exact pss_cons (ps_if (pt_not (pt_val (pe_g c_is_tuple_of hr (by decide) hG (by rfl) (pa_cons (pv 0) (pa_cons pe_int (pa_cons pe_int pa_nil)))))) (pss_one (ps_ret pe_bl)) pss_nil)
      (pss_cons (ps_asg (pv 0) (PG.or (pg_tup rfl (pgs_cons (pg_name (i := 3) sc_is_tie.nd rfl (.inl rfl)) (pgs_cons (pg_name (i := 4) sc_is_tie.nd rfl (.inl rfl)) (pgs_cons (pg_name (i := 5) sc_is_tie.nd rfl (.inl rfl)) pgs_nil)))) (pg_unl rfl (pgs_cons (pg_name (i := 3) sc_is_tie.nd rfl (.inl rfl)) (pgs_cons (pg_name (i := 4) sc_is_tie.nd rfl (.inl rfl)) (pgs_cons (pg_name (i := 5) sc_is_tie.nd rfl (.inl rfl)) pgs_nil))))))
      (pss_one (ps_ret (pe_and (pe_g c_is_number_to hr (by decide) hG (by rfl) (pa_cons (pv 3) (pa_cons (pe_op op_sub (pv 1) pe_int) pa_nil))) (pe_and (pe_g c_is_number_to hr (by decide) hG (by rfl) (pa_cons (pv 4) (pa_cons (pe_op op_sub (pv 2) pe_int) pa_nil))) (pe_one (pe_g c_is_number_to hr (by decide) hG (by rfl) (pa_cons (pv 5) (pa_cons (pe_glob (by rfl) m_FAR ⟨_, rfl⟩) pa_nil)))))))))
theorem eq_F_is_fair : F_is_fair = runP 1 4 X_is_fair := by unfold F_is_fair; rfl
theorem c_is_fair (F : Dfn K mg "is_fair" s_is_fair ["thing"]) (B : Bm mg) {t_SEATS : Tok} (m_SEATS : mg "SEATS" = some (.int 28 t_SEATS)) {t_TIES : Tok} (m_TIES : mg "TIES" = some (.int 36 t_TIES)) (c_are_seats : CalG P w K mg base 4 "are_seats" (spF F_are_seats)) (c_is_tie : CalG P w K mg base 3 "is_tie" (spF F_is_tie)) (c_is_tuple_of : CalG P w K mg base 1 "is_tuple_of" (spF F_is_tuple_of)) : CalG P w K mg base 5 "is_fair" (spF F_is_fair) := by
  rw [eq_F_is_fair]
  refine cal_g F sc_is_fair (fun vs H Q E h => len_F h) (fun f cdv A outer s H E hG hr => ⟨T_is_fair, ?_, fun vs Q h => go_P (n := 1) (k := 4) ss_is_fair rfl h⟩)
  unfold T_is_fair
  exact pss_cons (ps_if (pt_not (pt_val (pe_g c_is_tuple_of hr (by decide) hG (by rfl) (pa_cons (pv 0) (pa_cons pe_int (pa_cons pe_int pa_nil)))))) (pss_one (ps_ret pe_bl)) pss_nil)
      (pss_cons (ps_asg (pv 0) (PG.or (pg_tup rfl (pgs_cons (pg_name (i := 1) sc_is_fair.nd rfl (.inl rfl)) (pgs_cons (pg_name (i := 2) sc_is_fair.nd rfl (.inr rfl)) (pgs_cons (pg_name (i := 3) sc_is_fair.nd rfl (.inr rfl)) pgs_nil)))) (pg_unl rfl (pgs_cons (pg_name (i := 1) sc_is_fair.nd rfl (.inl rfl)) (pgs_cons (pg_name (i := 2) sc_is_fair.nd rfl (.inr rfl)) (pgs_cons (pg_name (i := 3) sc_is_fair.nd rfl (.inr rfl)) pgs_nil))))))
      (pss_cons (ps_if (PW.pt (pw_or (pt_not (pt_val (pe_g c_is_tuple_of hr (by decide) hG (by rfl) (pa_cons (pv 1) (pa_cons pe_int (pa_cons (pe_glob (by rfl) m_TIES ⟨_, rfl⟩) pa_nil)))))) (pw_or (pt_not (pt_val (pe_g c_is_tuple_of hr (by decide) hG (by rfl) (pa_cons (pv 2) (pa_cons pe_int (pa_cons (pe_glob (by rfl) m_SEATS ⟨_, rfl⟩) pa_nil)))))) (pw_or1 (pt_not (pt_val (pe_g c_is_tuple_of hr (by decide) hG (by rfl) (pa_cons (pv 3) (pa_cons pe_int (pa_cons (pe_glob (by rfl) m_SEATS ⟨_, rfl⟩) pa_nil)))))))))) (pss_one (ps_ret pe_bl)) pss_nil)
      (pss_cons (ps_if (pt_not (pt_val (pe_callB (cr_all rfl) (by rfl) B.n_all (by decide +kernel) (pa_cons (pe_lc (own := [("tie", 4)]) rfl sc_is_fair.nd (PI.or (pi_list (pv 1)) (pi_tup (pv 1))) (blkOk_by (N := N_is_fair) (sc := defScope s_is_fair) (by decide +kernel)) (fun _ _ _ _ _ => (pg_name (i := 4) sc_is_fair.nd rfl (.inl rfl))) (fun _ _ _ _ _ => pts_nil) (fun _ _ _ _ _ => pe_g c_is_tie hr (by decide) hG (by rfl) (pa_cons (pv 4) (pa_cons (pe_callB call_len_seq (by rfl) B.n_len (by decide +kernel) (pa_cons (pv 2) pa_nil)) (pa_cons (pe_callB call_len_seq (by rfl) B.n_len (by decide +kernel) (pa_cons (pv 3) pa_nil)) pa_nil))))) pa_nil)))) (pss_one (ps_ret pe_bl)) pss_nil)
      (pss_one (ps_ret (pe_and (pe_g c_are_seats hr (by decide) hG (by rfl) (pa_cons (pv 2) (pa_cons (pe_lc (own := [("tie", 4)]) rfl sc_is_fair.nd (PI.or (pi_list (pv 1)) (pi_tup (pv 1))) (blkOk_by (N := N_is_fair) (sc := defScope s_is_fair) (by decide +kernel)) (fun _ _ _ _ _ => (pg_name (i := 4) sc_is_fair.nd rfl (.inl rfl))) (fun _ _ _ _ _ => pts_nil) (fun _ _ _ _ _ => pe_ix ix_seq (pv 4) pe_int (fun _ _ => rfl))) pa_nil))) (pe_one (pe_g c_are_seats hr (by decide) hG (by rfl) (pa_cons (pv 3) (pa_cons (pe_lc (own := [("tie", 4)]) rfl sc_is_fair.nd (PI.or (pi_list (pv 1)) (pi_tup (pv 1))) (blkOk_by (N := N_is_fair) (sc := defScope s_is_fair) (by decide +kernel)) (fun _ _ _ _ _ => (pg_name (i := 4) sc_is_fair.nd rfl (.inl rfl))) (fun _ _ _ _ _ => pts_nil) (fun _ _ _ _ _ => pe_ix ix_seq (pv 4) pe_int (fun _ _ => rfl))) pa_nil))))))))))
theorem eq_F_spare : F_spare = runP 2 2 X_spare := by unfold F_spare; rfl
theorem c_spare (F : Dfn K mg "spare" s_spare ["seat", "sharing"]) (B : Bm mg) (c_borne : CalG P w K mg base 1 "borne" (spF F_borne)) : CalG P w K mg base 2 "spare" (spF F_spare) := by
  rw [eq_F_spare]
  refine cal_g F sc_spare (fun vs H Q E h => len_F h) (fun f cdv A outer s H E hG hr => ⟨T_spare, ?_, fun vs Q h => go_P (n := 2) (k := 2) ss_spare rfl h⟩)
  unfold T_spare
  exact pss_cons (ps_asg (pv 0) (PG.or (pg_tup rfl (pgs_cons (pg_name (i := 2) sc_spare.nd rfl (.inl rfl)) (pgs_cons (pg_name (i := 3) sc_spare.nd rfl (.inl rfl)) pgs_nil))) (pg_unl rfl (pgs_cons (pg_name (i := 2) sc_spare.nd rfl (.inl rfl)) (pgs_cons (pg_name (i := 3) sc_spare.nd rfl (.inl rfl)) pgs_nil)))))
      (pss_one (ps_ret (pe_op op_sub (pv 2) (pe_g c_borne hr (by decide) hG (by rfl) (pa_cons (pv 1) (pa_cons (pv 3) pa_nil))))))
theorem eq_F_is_sharing : F_is_sharing = runP 2 6 X_is_sharing := by unfold F_is_sharing; rfl
theorem c_is_sharing (F : Dfn K mg "is_sharing" s_is_sharing ["fair", "thing"]) (B : Bm mg) (c_is_number_to : CalG P w K mg base 2 "is_number_to" (spF F_is_number_to)) (c_is_tuple_of : CalG P w K mg base 1 "is_tuple_of" (spF F_is_tuple_of)) (c_spare : CalG P w K mg base 2 "spare" (spF F_spare)) : CalG P w K mg base 3 "is_sharing" (spF F_is_sharing) := by
  rw [eq_F_is_sharing]
  refine cal_g F sc_is_sharing (fun vs H Q E h => len_F h) (fun f cdv A outer s H E hG hr => ⟨T_is_sharing, ?_, fun vs Q h => go_P (n := 2) (k := 6) ss_is_sharing rfl h⟩)
  unfold T_is_sharing
  exact pss_cons (ps_asg (pv 0) (PG.or (pg_tup rfl (pgs_cons (pg_name (i := 2) sc_is_sharing.nd rfl (.inl rfl)) (pgs_cons (pg_name (i := 3) sc_is_sharing.nd rfl (.inl rfl)) (pgs_cons (pg_name (i := 4) sc_is_sharing.nd rfl (.inl rfl)) pgs_nil)))) (pg_unl rfl (pgs_cons (pg_name (i := 2) sc_is_sharing.nd rfl (.inl rfl)) (pgs_cons (pg_name (i := 3) sc_is_sharing.nd rfl (.inl rfl)) (pgs_cons (pg_name (i := 4) sc_is_sharing.nd rfl (.inl rfl)) pgs_nil))))))
      (pss_cons (ps_if (pt_not (pt_val (pe_g c_is_tuple_of hr (by decide) hG (by rfl) (pa_cons (pv 1) (pa_cons (pe_callB call_len_seq (by rfl) B.n_len (by decide +kernel) (pa_cons (pv 2) pa_nil)) (pa_cons (pe_callB call_len_seq (by rfl) B.n_len (by decide +kernel) (pa_cons (pv 2) pa_nil)) pa_nil)))))) (pss_one (ps_ret pe_bl)) pss_nil)
      (pss_cons (ps_if (pt_not (pt_val (pe_callB (cr_all rfl) (by rfl) B.n_all (by decide +kernel) (pa_cons (pe_lc (own := [("bears", 5), ("tie", 6)]) rfl sc_is_sharing.nd (RZ.pi_zipA (by rfl) B.n_zip (pa_cons (pv 1) (pa_cons (pv 2) pa_nil))) (blkOk_by (N := N_is_sharing) (sc := defScope s_is_sharing) (by decide +kernel)) (fun _ _ _ _ _ => (PG.or (pg_tup rfl (pgs_cons (pg_name (i := 5) sc_is_sharing.nd rfl (.inl rfl)) (pgs_cons (pg_name (i := 6) sc_is_sharing.nd rfl (.inl rfl)) pgs_nil))) (pg_unl rfl (pgs_cons (pg_name (i := 5) sc_is_sharing.nd rfl (.inl rfl)) (pgs_cons (pg_name (i := 6) sc_is_sharing.nd rfl (.inl rfl)) pgs_nil))))) (fun _ _ _ _ _ => pts_nil) (fun _ _ _ _ _ => pe_g c_is_number_to hr (by decide) hG (by rfl) (pa_cons (pv 5) (pa_cons (pe_ix ix_seq (pv 6) pe_int (fun _ _ => rfl)) pa_nil)))) pa_nil)))) (pss_one (ps_ret pe_bl)) pss_nil)
      (pss_one (ps_ret (pe_callB (cr_all rfl) (by rfl) B.n_all (by decide +kernel) (pa_cons (pe_lc (own := [("seat", 7)]) rfl sc_is_sharing.nd (PI.or (pi_list (pe_op op_addU (pv 3) (pv 4))) (pi_tup (pe_op op_addU (pv 3) (pv 4)))) (blkOk_by (N := N_is_sharing) (sc := defScope s_is_sharing) (by decide +kernel)) (fun _ _ _ _ _ => (pg_name (i := 7) sc_is_sharing.nd rfl (.inl rfl))) (fun _ _ _ _ _ => pts_nil) (fun _ _ _ _ _ => pe_cmpR op_ge (pe_g c_spare hr (by decide) hG (by rfl) (pa_cons (pv 7) (pa_cons (pv 1) pa_nil))) pe_int (nomark _))) pa_nil))))))
theorem eq_F_has_less_liked : F_has_less_liked = runP 3 0 X_has_less_liked := by unfold F_has_less_liked; rfl
theorem c_has_less_liked (F : Dfn K mg "has_less_liked" s_has_less_liked ["bears", "order", "number"]) (B : Bm mg) (c_borne : CalG P w K mg base 1 "borne" (spF F_borne)) : CalG P w K mg base 2 "has_less_liked" (spF F_has_less_liked) := by
  rw [eq_F_has_less_liked]
  refine cal_g F sc_has_less_liked (fun vs H Q E h => len_F h) (fun f cdv A outer s H E hG hr => ⟨T_has_less_liked, ?_, fun vs Q h => go_P (n := 3) (k := 0) ss_has_less_liked rfl h⟩)
  unfold T_has_less_liked
  exact pss_one (ps_ret (pe_cmpR (op_gtU hr.units) (pe_g c_borne hr (by decide) hG (by rfl) (pa_cons (pv 0) (pa_cons (pe_slice sl_U (pv 1) (po_some (pe_op op_addU (PE.or (pe_bmF PySem.F.slot_tuple_index PySem.F.type_tuple_index (mt_indexF (u65 hr)) (pv 1) (pa_cons (pv 2) pa_nil)) (pe_bm PySem.F.plainAttrs_list PySem.F.slot_list_index PySem.F.type_list_index (mt_indexD (u65 hr)) (pv 1) (pa_cons (pv 2) pa_nil))) pe_int)) po_none) pa_nil))) pe_int (nomark _)))
theorem eq_F_would_have : F_would_have = runP 3 0 X_would_have := by unfold F_would_have; rfl
theorem c_would_have (F : Dfn K mg "would_have" s_would_have ["seat", "sharing", "tie"]) (B : Bm mg) (c_has_less_liked : CalG P w K mg base 2 "has_less_liked" (spF F_has_less_liked)) (c_spare : CalG P w K mg base 2 "spare" (spF F_spare)) : CalG P w K mg base 3 "would_have" (spF F_would_have) := by
  rw [eq_F_would_have]
  refine cal_g F sc_would_have (fun vs H Q E h => len_F h) (fun f cdv A outer s H E hG hr => ⟨T_would_have, ?_, fun vs Q h => go_P (n := 3) (k := 0) ss_would_have rfl h⟩)
  unfold T_would_have
  exact pss_one (ps_ret (pe_or (pe_cmpR (op_gtU hr.units) (pe_g c_spare hr (by decide) hG (by rfl) (pa_cons (pv 0) (pa_cons (pv 1) pa_nil))) pe_int (nomark _)) (pe_one (pe_g c_has_less_liked hr (by decide) hG (by rfl) (pa_cons (pv 1) (pa_cons (pe_ix ix_seq (pv 0) pe_int (fun _ _ => rfl)) (pa_cons (pv 2) pa_nil)))))))
theorem eq_F_loose : F_loose = runP 2 7 X_loose := by unfold F_loose; rfl
theorem c_loose (F : Dfn K mg "loose" s_loose ["fair", "sharing"]) (B : Bm mg) (c_would_have : CalG P w K mg base 3 "would_have" (spF F_would_have)) : CalG P w K mg base 4 "loose" (spF F_loose) := by
  rw [eq_F_loose]
  refine cal_g F sc_loose (fun vs H Q E h => len_F h) (fun f cdv A outer s H E hG hr => ⟨T_loose, ?_, fun vs Q h => go_P (n := 2) (k := 7) ss_loose rfl h⟩)
  unfold T_loose
  exact pss_cons (ps_asg (pv 0) (PG.or (pg_tup rfl (pgs_cons (pg_name (i := 2) sc_loose.nd rfl (.inl rfl)) (pgs_cons (pg_name (i := 3) sc_loose.nd rfl (.inr rfl)) (pgs_cons (pg_name (i := 4) sc_loose.nd rfl (.inr rfl)) pgs_nil)))) (pg_unl rfl (pgs_cons (pg_name (i := 2) sc_loose.nd rfl (.inl rfl)) (pgs_cons (pg_name (i := 3) sc_loose.nd rfl (.inr rfl)) (pgs_cons (pg_name (i := 4) sc_loose.nd rfl (.inr rfl)) pgs_nil))))))
      (pss_one (ps_ret (pe_callTy cr_tupF (by rfl) B.n_tuple (by decide +kernel) (pa_cons (pe_lc (own := [("number", 5), ("giver", 6), ("taker", 7), ("room", 8)]) rfl sc_loose.nd (PI.or (pi_enum (by rfl) B.n_enumerate (pa_cons (pv 2) pa_nil)) (Un.pi_enumT (by rfl) B.n_enumerate (pa_cons (pv 2) pa_nil))) (blkOk_by (N := N_loose) (sc := defScope s_loose) (by decide +kernel)) (fun _ _ _ _ _ => (PG.or (pg_tup rfl (pgs_cons (pg_name (i := 5) sc_loose.nd rfl (.inl rfl)) (pgs_cons (PG.or (pg_tup rfl (pgs_cons (pg_name (i := 6) sc_loose.nd rfl (.inl rfl)) (pgs_cons (pg_name (i := 7) sc_loose.nd rfl (.inl rfl)) (pgs_cons (pg_name (i := 8) sc_loose.nd rfl (.inl rfl)) pgs_nil)))) (pg_unl rfl (pgs_cons (pg_name (i := 6) sc_loose.nd rfl (.inl rfl)) (pgs_cons (pg_name (i := 7) sc_loose.nd rfl (.inl rfl)) (pgs_cons (pg_name (i := 8) sc_loose.nd rfl (.inl rfl)) pgs_nil))))) pgs_nil))) (pg_unl rfl (pgs_cons (pg_name (i := 5) sc_loose.nd rfl (.inl rfl)) (pgs_cons (PG.or (pg_tup rfl (pgs_cons (pg_name (i := 6) sc_loose.nd rfl (.inl rfl)) (pgs_cons (pg_name (i := 7) sc_loose.nd rfl (.inl rfl)) (pgs_cons (pg_name (i := 8) sc_loose.nd rfl (.inl rfl)) pgs_nil)))) (pg_unl rfl (pgs_cons (pg_name (i := 6) sc_loose.nd rfl (.inl rfl)) (pgs_cons (pg_name (i := 7) sc_loose.nd rfl (.inl rfl)) (pgs_cons (pg_name (i := 8) sc_loose.nd rfl (.inl rfl)) pgs_nil))))) pgs_nil))))) (fun _ _ _ _ _ => pts_one (PW.pt (pw_and (pt_cmpR op_lt (pe_ix ix_seq (pv 1) (pv 5) (fun _ _ => rfl)) (pv 8) (nomark _)) (pw_and (pt_val (pe_g c_would_have hr (by decide) hG (by rfl) (pa_cons (pe_ix ix_seq (pv 3) (pv 6) (fun _ _ => rfl)) (pa_cons (pv 1) (pa_cons (pv 5) pa_nil))))) (pw_and1 (pt_val (pe_g c_would_have hr (by decide) hG (by rfl) (pa_cons (pe_ix ix_seq (pv 4) (pv 7) (fun _ _ => rfl)) (pa_cons (pv 1) (pa_cons (pv 5) pa_nil)))))))))) (fun _ _ _ _ _ => (pv 5))) pa_nil))))
theorem eq_F_turned_fair : F_turned_fair = runP 1 6 X_turned_fair := by unfold F_turned_fair; rfl
theorem c_turned_fair (F : Dfn K mg "turned_fair" s_turned_fair ["fair"]) (B : Bm mg) : CalG P w K mg base 1 "turned_fair" (spF F_turned_fair) := by
  rw [eq_F_turned_fair]
  refine cal_g F sc_turned_fair (fun vs H Q E h => len_F h) (fun f cdv A outer s H E hG hr => ⟨T_turned_fair, ?_, fun vs Q h => go_P (n := 1) (k := 6) ss_turned_fair rfl h⟩)
  unfold T_turned_fair
  exact pss_cons (ps_asg (pv 0) (PG.or (pg_tup rfl (pgs_cons (pg_name (i := 1) sc_turned_fair.nd rfl (.inl rfl)) (pgs_cons (pg_name (i := 2) sc_turned_fair.nd rfl (.inl rfl)) (pgs_cons (pg_name (i := 3) sc_turned_fair.nd rfl (.inl rfl)) pgs_nil)))) (pg_unl rfl (pgs_cons (pg_name (i := 1) sc_turned_fair.nd rfl (.inl rfl)) (pgs_cons (pg_name (i := 2) sc_turned_fair.nd rfl (.inl rfl)) (pgs_cons (pg_name (i := 3) sc_turned_fair.nd rfl (.inl rfl)) pgs_nil))))))
      (pss_one (ps_ret (pe_tupF (pa_cons (pe_callTy cr_tupF (by rfl) B.n_tuple (by decide +kernel) (pa_cons (pe_lc (own := [("giver", 4), ("taker", 5), ("room", 6)]) rfl sc_turned_fair.nd (PI.or (pi_list (pv 1)) (pi_tup (pv 1))) (blkOk_by (N := N_turned_fair) (sc := defScope s_turned_fair) (by decide +kernel)) (fun _ _ _ _ _ => (PG.or (pg_tup rfl (pgs_cons (pg_name (i := 4) sc_turned_fair.nd rfl (.inl rfl)) (pgs_cons (pg_name (i := 5) sc_turned_fair.nd rfl (.inl rfl)) (pgs_cons (pg_name (i := 6) sc_turned_fair.nd rfl (.inl rfl)) pgs_nil)))) (pg_unl rfl (pgs_cons (pg_name (i := 4) sc_turned_fair.nd rfl (.inl rfl)) (pgs_cons (pg_name (i := 5) sc_turned_fair.nd rfl (.inl rfl)) (pgs_cons (pg_name (i := 6) sc_turned_fair.nd rfl (.inl rfl)) pgs_nil)))))) (fun _ _ _ _ _ => pts_nil) (fun _ _ _ _ _ => pe_tupF (pa_cons (pv 5) (pa_cons (pv 4) (pa_cons (pv 6) pa_nil))))) pa_nil)) (pa_cons (pv 3) (pa_cons (pv 2) pa_nil))))))
theorem eq_F_law_z27 : F_law_z27 = runP 1 11 X_law_z27 := by unfold F_law_z27; rfl
theorem ok_law {f : Addr} {fd : FuncData} (F : Fun K "law" "law" s_law f fd) (B : Bm mg) (c__law_deck : CalG P w K mg base 1 "_law_deck" (spD F__law_deck_d)) (c__law_draw : CalG P w K mg base 1 "_law_draw" (spW F__law_draw)) (c__law_fair : CalG P w K mg base 3 "_law_fair" (spW F__law_fair)) (c__law_same : CalG P w K mg base 9 "_law_same" (spF (F__law_same_c 9))) (c__law_sharing : CalG P w K mg base 3 "_law_sharing" (spW F__law_sharing)) (c_in_all : CalG P w K mg base 3 "in_all" (spF F_in_all)) (c_is_fair : CalG P w K mg base 5 "is_fair" (spF F_is_fair)) (c_is_sharing : CalG P w K mg base 3 "is_sharing" (spF F_is_sharing)) (c_loose : CalG P w K mg base 4 "loose" (spF F_loose)) (c_turned_fair : CalG P w K mg base 1 "turned_fair" (spF F_turned_fair)) : FnG P w K mg base 10 f fd ["_law_script"] (spF F_law_z27) := by
  rw [eq_F_law_z27]
  refine fn_g F sc_law (fun vs H Q E h => len_F h) (fun cdv A outer s H E hG hr => ⟨T_law_z27, ?_, fun vs Q h => go_P (n := 1) (k := 11) ss_law_z27 rfl h⟩)
  unfold T_law_z27
  exact pss_cons (ps_set (i := 1) sc_law.nd rfl (.inl rfl) (pe_g c__law_deck hr (by decide) hG (by rfl) (pa_cons (pv 0) pa_nil)))
      (pss_cons (ps_for PassesOwn.never rfl (pi_range1 (by rfl) B.n_range (pa_cons pe_int pa_nil)) (pg_name (i := 2) sc_law.nd rfl (.inl rfl)) (pss_cons (ps_set (i := 3) sc_law.nd rfl (.inl rfl) (pe_g c__law_fair hr (by decide) hG (by rfl) (pa_cons (pv 1) (pa_cons pe_int (pa_cons pe_int (pa_cons (pe_cmpR (op_eqX hr.units) (pe_g c__law_draw hr (by decide) hG (by rfl) (pa_cons (pv 1) (pa_cons pe_int pa_nil))) pe_int (nomark _)) pa_nil))))))
      (pss_cons (ps_set (i := 4) sc_law.nd rfl (.inl rfl) (pe_callB (cr_repr hG (u65 hr)) (by rfl) B.n_repr (by decide +kernel) (pa_cons (pv 3) pa_nil)))
      (pss_cons (ps_set (i := 5) sc_law.nd rfl (.inl rfl) (pe_tupF (pa_cons (pe_callTy cr_tupF (by rfl) B.n_tuple (by decide +kernel) (pa_cons (pe_lc (own := [("_law_giver", 9), ("_law_taker", 10), ("_law_room", 11)]) rfl sc_law.nd (PI.or (pi_list (pe_ix ix_seq (pv 3) pe_int (fun _ _ => rfl))) (pi_tup (pe_ix ix_seq (pv 3) pe_int (fun _ _ => rfl)))) (blkOk_by (N := N_law) (sc := defScope s_law) (by decide +kernel)) (fun _ _ _ _ _ => (PG.or (pg_tup rfl (pgs_cons (pg_name (i := 9) sc_law.nd rfl (.inl rfl)) (pgs_cons (pg_name (i := 10) sc_law.nd rfl (.inl rfl)) (pgs_cons (pg_name (i := 11) sc_law.nd rfl (.inl rfl)) pgs_nil)))) (pg_unl rfl (pgs_cons (pg_name (i := 9) sc_law.nd rfl (.inl rfl)) (pgs_cons (pg_name (i := 10) sc_law.nd rfl (.inl rfl)) (pgs_cons (pg_name (i := 11) sc_law.nd rfl (.inl rfl)) pgs_nil)))))) (fun _ _ _ _ _ => pts_nil) (fun _ _ _ _ _ => pe_tupF (pa_cons (pv 10) (pa_cons (pv 9) (pa_cons (pv 11) pa_nil))))) pa_nil)) (pa_cons (pe_ix ix_seq (pv 3) pe_int (fun _ _ => rfl)) (pa_cons (pe_ix ix_seq (pv 3) pe_int (fun _ _ => rfl)) pa_nil)))))
      (pss_cons (ps_set (i := 6) sc_law.nd rfl (.inl rfl) (pe_g c_turned_fair hr (by decide) hG (by rfl) (pa_cons (pv 3) pa_nil)))
      (pss_cons (ps_if (PW.pt (pw_or (pt_not (pt_val (pe_g c__law_same hr (by decide) hG (by rfl) (pa_cons (pv 6) (pa_cons (pv 5) pa_nil))))) (pw_or (pt_not (pt_val (pe_g c__law_same hr (by decide) hG (by rfl) (pa_cons (pe_g c_turned_fair hr (by decide) hG (by rfl) (pa_cons (pv 6) pa_nil)) (pa_cons (pv 3) pa_nil))))) (pw_or1 (pt_cmpR op_notU (pe_g c_is_fair hr (by decide) hG (by rfl) (pa_cons (pv 6) pa_nil)) pe_bl (nomark _)))))) (pss_one (ps_ret pe_bl)) pss_nil)
      (pss_cons (ps_for PassesOwn.never rfl (pi_range1 (by rfl) B.n_range (pa_cons pe_int pa_nil)) (pg_name (i := 7) sc_law.nd rfl (.inl rfl)) (pss_cons (ps_set (i := 8) sc_law.nd rfl (.inl rfl) (pe_g c__law_sharing hr (by decide) hG (by rfl) (pa_cons (pv 1) (pa_cons (pv 3) pa_nil))))
      (pss_cons (ps_if (PW.pt (pw_or (pt_cmpR op_notU (pe_g c_is_sharing hr (by decide) hG (by rfl) (pa_cons (pv 6) (pa_cons (pv 8) pa_nil))) pe_bl (nomark _)) (pw_or1 (pt_cmpR (op_neD hr.units) (pe_g c_in_all hr (by decide) hG (by rfl) (pa_cons (pv 6) (pa_cons (pv 8) pa_nil))) (pe_back (pe_g c_in_all hr (by decide) hG (by rfl) (pa_cons (pv 3) (pa_cons (pv 8) pa_nil)))) (nomark _))))) (pss_one (ps_ret pe_bl)) pss_nil)
      (pss_one (ps_if (pt_not (pt_val (pe_g c__law_same hr (by decide) hG (by rfl) (pa_cons (pe_g c_loose hr (by decide) hG (by rfl) (pa_cons (pv 6) (pa_cons (pv 8) pa_nil))) (pa_cons (pe_g c_loose hr (by decide) hG (by rfl) (pa_cons (pv 3) (pa_cons (pv 8) pa_nil))) pa_nil))))) (pss_one (ps_ret pe_bl)) pss_nil)))))
      (pss_one (ps_if (pt_cmpR (op_neD hr.units) (pe_callB (cr_repr hG (u65 hr)) (by rfl) B.n_repr (by decide +kernel) (pa_cons (pv 3) pa_nil)) (pv 4) (nomark _)) (pss_one (ps_ret pe_bl)) pss_nil)))))))))
      (pss_one (ps_ret pe_bl)))
end
theorem all_mk {l : PySem.W.OpenLaw} {w : World} {K : PySem.W.Frag} {h : Heap} {mg : Str → Option Value} {fa : Addr} (X : K.In h) (G : h.Ns mainGlobals mg) (hfa : mg "law" = some (.ref fa))
    {f0 : Addr} {od0 an0 : Option Addr} {sl0 : Array (Option Value)} {oc0 kV0 dc0 pm0 cd0 ct0 : Value}
    {f1 : Addr} {od1 an1 : Option Addr} {sl1 : Array (Option Value)} {oc1 kV1 dc1 pm1 cd1 ct1 : Value}
    {f2 : Addr} {od2 an2 : Option Addr} {sl2 : Array (Option Value)} {oc2 kV2 dc2 pm2 cd2 ct2 : Value}
    {f3 : Addr} {od3 an3 : Option Addr} {sl3 : Array (Option Value)} {oc3 kV3 dc3 pm3 cd3 ct3 : Value}
    {f4 : Addr} {od4 an4 : Option Addr} {sl4 : Array (Option Value)} {oc4 kV4 dc4 pm4 cd4 ct4 : Value}
    {f5 : Addr} {od5 an5 : Option Addr} {sl5 : Array (Option Value)} {oc5 kV5 dc5 pm5 cd5 ct5 : Value}
    {f6 : Addr} {od6 an6 : Option Addr} {sl6 : Array (Option Value)} {oc6 kV6 dc6 pm6 cd6 ct6 : Value}
    {f7 : Addr} {od7 an7 : Option Addr} {sl7 : Array (Option Value)} {oc7 kV7 dc7 pm7 cd7 ct7 : Value}
    {f8 : Addr} {od8 an8 : Option Addr} {sl8 : Array (Option Value)} {oc8 kV8 dc8 pm8 cd8 ct8 : Value}
    {f9 : Addr} {od9 an9 : Option Addr} {sl9 : Array (Option Value)} {oc9 kV9 dc9 pm9 cd9 ct9 : Value}
    {f10 : Addr} {od10 an10 : Option Addr} {sl10 : Array (Option Value)} {oc10 kV10 dc10 pm10 cd10 ct10 : Value}
    {f11 : Addr} {od11 an11 : Option Addr} {sl11 : Array (Option Value)} {oc11 kV11 dc11 pm11 cd11 ct11 : Value}
    {f12 : Addr} {od12 an12 : Option Addr} {sl12 : Array (Option Value)} {oc12 kV12 dc12 pm12 cd12 ct12 : Value}
    {f13 : Addr} {od13 an13 : Option Addr} {sl13 : Array (Option Value)} {oc13 kV13 dc13 pm13 cd13 ct13 : Value}
    {f14 : Addr} {od14 an14 : Option Addr} {sl14 : Array (Option Value)} {oc14 kV14 dc14 pm14 cd14 ct14 : Value}
    {f15 : Addr} {od15 an15 : Option Addr} {sl15 : Array (Option Value)} {oc15 kV15 dc15 pm15 cd15 ct15 : Value}
    {f16 : Addr} {od16 an16 : Option Addr} {sl16 : Array (Option Value)} {oc16 kV16 dc16 pm16 cd16 ct16 : Value}
    {f17 : Addr} {od17 an17 : Option Addr} {sl17 : Array (Option Value)} {oc17 kV17 dc17 pm17 cd17 ct17 : Value}
    {f18 : Addr} {od18 an18 : Option Addr} {sl18 : Array (Option Value)} {oc18 kV18 dc18 pm18 cd18 ct18 : Value}
    {f19 : Addr} {od19 an19 : Option Addr} {sl19 : Array (Option Value)} {oc19 kV19 dc19 pm19 cd19 ct19 : Value}
    {f20 : Addr} {od20 an20 : Option Addr} {sl20 : Array (Option Value)} {oc20 kV20 dc20 pm20 cd20 ct20 : Value}
    {f21 : Addr} {od21 an21 : Option Addr} {sl21 : Array (Option Value)} {oc21 kV21 dc21 pm21 cd21 ct21 : Value}
    {f22 : Addr} {od22 an22 : Option Addr} {sl22 : Array (Option Value)} {oc22 kV22 dc22 pm22 cd22 ct22 : Value}
    {f23 : Addr} {od23 an23 : Option Addr} {sl23 : Array (Option Value)} {oc23 kV23 dc23 pm23 cd23 ct23 : Value}
    {f24 : Addr} {od24 an24 : Option Addr} {sl24 : Array (Option Value)} {oc24 kV24 dc24 pm24 cd24 ct24 : Value}
    {t_FAR : Tok}
    {t_SEATS : Tok}
    {t_TIES : Tok}
    (a0 : PySem.W.nsIn K mainGlobals "_law_deck" = some (some (.ref f0))) (l0 : K.lookup f0 = some ⟨oc0, od0, .func (PySem.W.fnOf "_law_deck" "_law_deck" (defArgs s__law_deck) (defBody s__law_deck) (defScope s__law_deck) .none kV0 dc0 pm0 an0 cd0 ct0), sl0⟩) (c0 : PySem.W.codeIn K cd0 "_law_deck" = true) (k0 : PySem.W.keepIn K (.ref f0) = true)
    (a1 : PySem.W.nsIn K mainGlobals "_law_draw" = some (some (.ref f1))) (l1 : K.lookup f1 = some ⟨oc1, od1, .func (PySem.W.fnOf "_law_draw" "_law_draw" (defArgs s__law_draw) (defBody s__law_draw) (defScope s__law_draw) .none kV1 dc1 pm1 an1 cd1 ct1), sl1⟩) (c1 : PySem.W.codeIn K cd1 "_law_draw" = true) (k1 : PySem.W.keepIn K (.ref f1) = true)
    (a2 : PySem.W.nsIn K mainGlobals "_law_amount" = some (some (.ref f2))) (l2 : K.lookup f2 = some ⟨oc2, od2, .func (PySem.W.fnOf "_law_amount" "_law_amount" (defArgs s__law_amount) (defBody s__law_amount) (defScope s__law_amount) .none kV2 dc2 pm2 an2 cd2 ct2), sl2⟩) (c2 : PySem.W.codeIn K cd2 "_law_amount" = true) (k2 : PySem.W.keepIn K (.ref f2) = true)
    (a3 : PySem.W.nsIn K mainGlobals "_law_order" = some (some (.ref f3))) (l3 : K.lookup f3 = some ⟨oc3, od3, .func (PySem.W.fnOf "_law_order" "_law_order" (defArgs s__law_order) (defBody s__law_order) (defScope s__law_order) .none kV3 dc3 pm3 an3 cd3 ct3), sl3⟩) (c3 : PySem.W.codeIn K cd3 "_law_order" = true) (k3 : PySem.W.keepIn K (.ref f3) = true)
    (a4 : PySem.W.nsIn K mainGlobals "_law_fair" = some (some (.ref f4))) (l4 : K.lookup f4 = some ⟨oc4, od4, .func (PySem.W.fnOf "_law_fair" "_law_fair" (defArgs s__law_fair) (defBody s__law_fair) (defScope s__law_fair) .none kV4 dc4 pm4 an4 cd4 ct4), sl4⟩) (c4 : PySem.W.codeIn K cd4 "_law_fair" = true) (k4 : PySem.W.keepIn K (.ref f4) = true)
    (a5 : PySem.W.nsIn K mainGlobals "_law_same" = some (some (.ref f5))) (l5 : K.lookup f5 = some ⟨oc5, od5, .func (PySem.W.fnOf "_law_same" "_law_same" (defArgs s__law_same) (defBody s__law_same) (defScope s__law_same) .none kV5 dc5 pm5 an5 cd5 ct5), sl5⟩) (c5 : PySem.W.codeIn K cd5 "_law_same" = true) (k5 : PySem.W.keepIn K (.ref f5) = true)
    (a6 : PySem.W.nsIn K mainGlobals "_law_sharing" = some (some (.ref f6))) (l6 : K.lookup f6 = some ⟨oc6, od6, .func (PySem.W.fnOf "_law_sharing" "_law_sharing" (defArgs s__law_sharing) (defBody s__law_sharing) (defScope s__law_sharing) .none kV6 dc6 pm6 an6 cd6 ct6), sl6⟩) (c6 : PySem.W.codeIn K cd6 "_law_sharing" = true) (k6 : PySem.W.keepIn K (.ref f6) = true)
    (a7 : PySem.W.nsIn K mainGlobals "borne" = some (some (.ref f7))) (l7 : K.lookup f7 = some ⟨oc7, od7, .func (PySem.W.fnOf "borne" "borne" (defArgs s_borne) (defBody s_borne) (defScope s_borne) .none kV7 dc7 pm7 an7 cd7 ct7), sl7⟩) (c7 : PySem.W.codeIn K cd7 "borne" = true) (k7 : PySem.W.keepIn K (.ref f7) = true)
    (a8 : PySem.W.nsIn K mainGlobals "side_in_all" = some (some (.ref f8))) (l8 : K.lookup f8 = some ⟨oc8, od8, .func (PySem.W.fnOf "side_in_all" "side_in_all" (defArgs s_side_in_all) (defBody s_side_in_all) (defScope s_side_in_all) .none kV8 dc8 pm8 an8 cd8 ct8), sl8⟩) (c8 : PySem.W.codeIn K cd8 "side_in_all" = true) (k8 : PySem.W.keepIn K (.ref f8) = true)
    (a9 : PySem.W.nsIn K mainGlobals "in_all" = some (some (.ref f9))) (l9 : K.lookup f9 = some ⟨oc9, od9, .func (PySem.W.fnOf "in_all" "in_all" (defArgs s_in_all) (defBody s_in_all) (defScope s_in_all) .none kV9 dc9 pm9 an9 cd9 ct9), sl9⟩) (c9 : PySem.W.codeIn K cd9 "in_all" = true) (k9 : PySem.W.keepIn K (.ref f9) = true)
    (a10 : PySem.W.nsIn K mainGlobals "is_number" = some (some (.ref f10))) (l10 : K.lookup f10 = some ⟨oc10, od10, .func (PySem.W.fnOf "is_number" "is_number" (defArgs s_is_number) (defBody s_is_number) (defScope s_is_number) .none kV10 dc10 pm10 an10 cd10 ct10), sl10⟩) (c10 : PySem.W.codeIn K cd10 "is_number" = true) (k10 : PySem.W.keepIn K (.ref f10) = true)
    (a11 : PySem.W.nsIn K mainGlobals "is_number_to" = some (some (.ref f11))) (l11 : K.lookup f11 = some ⟨oc11, od11, .func (PySem.W.fnOf "is_number_to" "is_number_to" (defArgs s_is_number_to) (defBody s_is_number_to) (defScope s_is_number_to) .none kV11 dc11 pm11 an11 cd11 ct11), sl11⟩) (c11 : PySem.W.codeIn K cd11 "is_number_to" = true) (k11 : PySem.W.keepIn K (.ref f11) = true)
    (a12 : PySem.W.nsIn K mainGlobals "is_order" = some (some (.ref f12))) (l12 : K.lookup f12 = some ⟨oc12, od12, .func (PySem.W.fnOf "is_order" "is_order" (defArgs s_is_order) (defBody s_is_order) (defScope s_is_order) .none kV12 dc12 pm12 an12 cd12 ct12), sl12⟩) (c12 : PySem.W.codeIn K cd12 "is_order" = true) (k12 : PySem.W.keepIn K (.ref f12) = true)
    (a13 : PySem.W.nsIn K mainGlobals "is_tuple_of" = some (some (.ref f13))) (l13 : K.lookup f13 = some ⟨oc13, od13, .func (PySem.W.fnOf "is_tuple_of" "is_tuple_of" (defArgs s_is_tuple_of) (defBody s_is_tuple_of) (defScope s_is_tuple_of) .none kV13 dc13 pm13 an13 cd13 ct13), sl13⟩) (c13 : PySem.W.codeIn K cd13 "is_tuple_of" = true) (k13 : PySem.W.keepIn K (.ref f13) = true)
    (a14 : PySem.W.nsIn K mainGlobals "is_seat" = some (some (.ref f14))) (l14 : K.lookup f14 = some ⟨oc14, od14, .func (PySem.W.fnOf "is_seat" "is_seat" (defArgs s_is_seat) (defBody s_is_seat) (defScope s_is_seat) .none kV14 dc14 pm14 an14 cd14 ct14), sl14⟩) (c14 : PySem.W.codeIn K cd14 "is_seat" = true) (k14 : PySem.W.keepIn K (.ref f14) = true)
    (a15 : PySem.W.nsIn K mainGlobals "are_seats" = some (some (.ref f15))) (l15 : K.lookup f15 = some ⟨oc15, od15, .func (PySem.W.fnOf "are_seats" "are_seats" (defArgs s_are_seats) (defBody s_are_seats) (defScope s_are_seats) .none kV15 dc15 pm15 an15 cd15 ct15), sl15⟩) (c15 : PySem.W.codeIn K cd15 "are_seats" = true) (k15 : PySem.W.keepIn K (.ref f15) = true)
    (a16 : PySem.W.nsIn K mainGlobals "is_tie" = some (some (.ref f16))) (l16 : K.lookup f16 = some ⟨oc16, od16, .func (PySem.W.fnOf "is_tie" "is_tie" (defArgs s_is_tie) (defBody s_is_tie) (defScope s_is_tie) .none kV16 dc16 pm16 an16 cd16 ct16), sl16⟩) (c16 : PySem.W.codeIn K cd16 "is_tie" = true) (k16 : PySem.W.keepIn K (.ref f16) = true)
    (a17 : PySem.W.nsIn K mainGlobals "is_fair" = some (some (.ref f17))) (l17 : K.lookup f17 = some ⟨oc17, od17, .func (PySem.W.fnOf "is_fair" "is_fair" (defArgs s_is_fair) (defBody s_is_fair) (defScope s_is_fair) .none kV17 dc17 pm17 an17 cd17 ct17), sl17⟩) (c17 : PySem.W.codeIn K cd17 "is_fair" = true) (k17 : PySem.W.keepIn K (.ref f17) = true)
    (a18 : PySem.W.nsIn K mainGlobals "spare" = some (some (.ref f18))) (l18 : K.lookup f18 = some ⟨oc18, od18, .func (PySem.W.fnOf "spare" "spare" (defArgs s_spare) (defBody s_spare) (defScope s_spare) .none kV18 dc18 pm18 an18 cd18 ct18), sl18⟩) (c18 : PySem.W.codeIn K cd18 "spare" = true) (k18 : PySem.W.keepIn K (.ref f18) = true)
    (a19 : PySem.W.nsIn K mainGlobals "is_sharing" = some (some (.ref f19))) (l19 : K.lookup f19 = some ⟨oc19, od19, .func (PySem.W.fnOf "is_sharing" "is_sharing" (defArgs s_is_sharing) (defBody s_is_sharing) (defScope s_is_sharing) .none kV19 dc19 pm19 an19 cd19 ct19), sl19⟩) (c19 : PySem.W.codeIn K cd19 "is_sharing" = true) (k19 : PySem.W.keepIn K (.ref f19) = true)
    (a20 : PySem.W.nsIn K mainGlobals "has_less_liked" = some (some (.ref f20))) (l20 : K.lookup f20 = some ⟨oc20, od20, .func (PySem.W.fnOf "has_less_liked" "has_less_liked" (defArgs s_has_less_liked) (defBody s_has_less_liked) (defScope s_has_less_liked) .none kV20 dc20 pm20 an20 cd20 ct20), sl20⟩) (c20 : PySem.W.codeIn K cd20 "has_less_liked" = true) (k20 : PySem.W.keepIn K (.ref f20) = true)
    (a21 : PySem.W.nsIn K mainGlobals "would_have" = some (some (.ref f21))) (l21 : K.lookup f21 = some ⟨oc21, od21, .func (PySem.W.fnOf "would_have" "would_have" (defArgs s_would_have) (defBody s_would_have) (defScope s_would_have) .none kV21 dc21 pm21 an21 cd21 ct21), sl21⟩) (c21 : PySem.W.codeIn K cd21 "would_have" = true) (k21 : PySem.W.keepIn K (.ref f21) = true)
    (a22 : PySem.W.nsIn K mainGlobals "loose" = some (some (.ref f22))) (l22 : K.lookup f22 = some ⟨oc22, od22, .func (PySem.W.fnOf "loose" "loose" (defArgs s_loose) (defBody s_loose) (defScope s_loose) .none kV22 dc22 pm22 an22 cd22 ct22), sl22⟩) (c22 : PySem.W.codeIn K cd22 "loose" = true) (k22 : PySem.W.keepIn K (.ref f22) = true)
    (a23 : PySem.W.nsIn K mainGlobals "turned_fair" = some (some (.ref f23))) (l23 : K.lookup f23 = some ⟨oc23, od23, .func (PySem.W.fnOf "turned_fair" "turned_fair" (defArgs s_turned_fair) (defBody s_turned_fair) (defScope s_turned_fair) .none kV23 dc23 pm23 an23 cd23 ct23), sl23⟩) (c23 : PySem.W.codeIn K cd23 "turned_fair" = true) (k23 : PySem.W.keepIn K (.ref f23) = true)
    (a24 : PySem.W.nsIn K mainGlobals "law" = some (some (.ref f24))) (l24 : K.lookup f24 = some ⟨oc24, od24, .func (PySem.W.fnOf "law" "law" (defArgs s_law) (defBody s_law) (defScope s_law) .none kV24 dc24 pm24 an24 cd24 ct24), sl24⟩) (c24 : PySem.W.codeIn K cd24 "law" = true) (k24 : PySem.W.keepIn K (.ref f24) = true)
    (v_FAR : PySem.W.nsIn K mainGlobals "FAR" = some (some (.int 1000000000000000 t_FAR)))
    (v_SEATS : PySem.W.nsIn K mainGlobals "SEATS" = some (some (.int 28 t_SEATS)))
    (v_TIES : PySem.W.nsIn K mainGlobals "TIES" = some (some (.int 36 t_TIES)))
    (z_all : PySem.W.nsIn K mainGlobals "all" = some none)
    (z_bool : PySem.W.nsIn K mainGlobals "bool" = some none)
    (z_enumerate : PySem.W.nsIn K mainGlobals "enumerate" = some none)
    (z_int : PySem.W.nsIn K mainGlobals "int" = some none)
    (z_isinstance : PySem.W.nsIn K mainGlobals "isinstance" = some none)
    (z_len : PySem.W.nsIn K mainGlobals "len" = some none)
    (z_list : PySem.W.nsIn K mainGlobals "list" = some none)
    (z_min : PySem.W.nsIn K mainGlobals "min" = some none)
    (z_range : PySem.W.nsIn K mainGlobals "range" = some none)
    (z_repr : PySem.W.nsIn K mainGlobals "repr" = some none)
    (z_sorted : PySem.W.nsIn K mainGlobals "sorted" = some none)
    (z_sum : PySem.W.nsIn K mainGlobals "sum" = some none)
    (z_tuple : PySem.W.nsIn K mainGlobals "tuple" = some none)
    (z_zip : PySem.W.nsIn K mainGlobals "zip" = some none) :
    ∃ fd : FuncData, (∀ (s : Shared) (v : Value), BindsTo s fd ⟨[v], []⟩ [("_law_script", v)]) ∧ ∀ base : Heap, K.In base → base.Ns mainGlobals mg → FnG l.prog w K mg base 10 fa fd ["_law_script"] (@spF ⟨K⟩ F_law_z27) := by
  letI : KK := ⟨K⟩
  have e := hfa.symm.trans (PySem.W.mg_of X G a24)
  cases e
  have B : Bm mg := ⟨PySem.W.mg_none_of X G z_all, PySem.W.mg_none_of X G z_bool, PySem.W.mg_none_of X G z_enumerate, PySem.W.mg_none_of X G z_int, PySem.W.mg_none_of X G z_isinstance, PySem.W.mg_none_of X G z_len, PySem.W.mg_none_of X G z_list, PySem.W.mg_none_of X G z_min, PySem.W.mg_none_of X G z_range, PySem.W.mg_none_of X G z_repr, PySem.W.mg_none_of X G z_sorted, PySem.W.mg_none_of X G z_sum, PySem.W.mg_none_of X G z_tuple, PySem.W.mg_none_of X G z_zip⟩
  have D0 : Dfn K mg "_law_deck" s__law_deck ["_law_script"] := dfn_mk X G a0 l0 c0 k0 fun _ _ _ _ _ _ us hl => match us, hl with | [_], _ => rfl
  have D1 : Dfn K mg "_law_draw" s__law_draw ["_law_deck_here", "_law_many"] := dfn_mk X G a1 l1 c1 k1 fun _ _ _ _ _ _ us hl => match us, hl with | [_, _], _ => rfl
  have D2 : Dfn K mg "_law_amount" s__law_amount ["_law_deck_here", "_law_far"] := dfn_mk X G a2 l2 c2 k2 fun _ _ _ _ _ _ us hl => match us, hl with | [_, _], _ => rfl
  have D3 : Dfn K mg "_law_order" s__law_order ["_law_deck_here", "_law_numbers"] := dfn_mk X G a3 l3 c3 k3 fun _ _ _ _ _ _ us hl => match us, hl with | [_, _], _ => rfl
  have D4 : Dfn K mg "_law_fair" s__law_fair ["_law_deck_here", "_law_seats", "_law_most", "_law_far"] := dfn_mk X G a4 l4 c4 k4 fun _ _ _ _ _ _ us hl => match us, hl with | [_, _, _, _], _ => rfl
  have D5 : Dfn K mg "_law_same" s__law_same ["_law_found", "_law_due"] := dfn_mk X G a5 l5 c5 k5 fun _ _ _ _ _ _ us hl => match us, hl with | [_, _], _ => rfl
  have D6 : Dfn K mg "_law_sharing" s__law_sharing ["_law_deck_here", "_law_fair_here"] := dfn_mk X G a6 l6 c6 k6 fun _ _ _ _ _ _ us hl => match us, hl with | [_, _], _ => rfl
  have D7 : Dfn K mg "borne" s_borne ["bears", "numbers"] := dfn_mk X G a7 l7 c7 k7 fun _ _ _ _ _ _ us hl => match us, hl with | [_, _], _ => rfl
  have D8 : Dfn K mg "side_in_all" s_side_in_all ["seats", "sharing"] := dfn_mk X G a8 l8 c8 k8 fun _ _ _ _ _ _ us hl => match us, hl with | [_, _], _ => rfl
  have D9 : Dfn K mg "in_all" s_in_all ["fair", "sharing"] := dfn_mk X G a9 l9 c9 k9 fun _ _ _ _ _ _ us hl => match us, hl with | [_, _], _ => rfl
  have D10 : Dfn K mg "is_number" s_is_number ["thing"] := dfn_mk X G a10 l10 c10 k10 fun _ _ _ _ _ _ us hl => match us, hl with | [_], _ => rfl
  have D11 : Dfn K mg "is_number_to" s_is_number_to ["thing", "most"] := dfn_mk X G a11 l11 c11 k11 fun _ _ _ _ _ _ us hl => match us, hl with | [_, _], _ => rfl
  have D12 : Dfn K mg "is_order" s_is_order ["thing", "numbers"] := dfn_mk X G a12 l12 c12 k12 fun _ _ _ _ _ _ us hl => match us, hl with | [_, _], _ => rfl
  have D13 : Dfn K mg "is_tuple_of" s_is_tuple_of ["thing", "least", "most"] := dfn_mk X G a13 l13 c13 k13 fun _ _ _ _ _ _ us hl => match us, hl with | [_, _, _], _ => rfl
  have D14 : Dfn K mg "is_seat" s_is_seat ["thing", "ties"] := dfn_mk X G a14 l14 c14 k14 fun _ _ _ _ _ _ us hl => match us, hl with | [_, _], _ => rfl
  have D15 : Dfn K mg "are_seats" s_are_seats ["seats", "sitting"] := dfn_mk X G a15 l15 c15 k15 fun _ _ _ _ _ _ us hl => match us, hl with | [_, _], _ => rfl
  have D16 : Dfn K mg "is_tie" s_is_tie ["thing", "givers", "takers"] := dfn_mk X G a16 l16 c16 k16 fun _ _ _ _ _ _ us hl => match us, hl with | [_, _, _], _ => rfl
  have D17 : Dfn K mg "is_fair" s_is_fair ["thing"] := dfn_mk X G a17 l17 c17 k17 fun _ _ _ _ _ _ us hl => match us, hl with | [_], _ => rfl
  have D18 : Dfn K mg "spare" s_spare ["seat", "sharing"] := dfn_mk X G a18 l18 c18 k18 fun _ _ _ _ _ _ us hl => match us, hl with | [_, _], _ => rfl
  have D19 : Dfn K mg "is_sharing" s_is_sharing ["fair", "thing"] := dfn_mk X G a19 l19 c19 k19 fun _ _ _ _ _ _ us hl => match us, hl with | [_, _], _ => rfl
  have D20 : Dfn K mg "has_less_liked" s_has_less_liked ["bears", "order", "number"] := dfn_mk X G a20 l20 c20 k20 fun _ _ _ _ _ _ us hl => match us, hl with | [_, _, _], _ => rfl
  have D21 : Dfn K mg "would_have" s_would_have ["seat", "sharing", "tie"] := dfn_mk X G a21 l21 c21 k21 fun _ _ _ _ _ _ us hl => match us, hl with | [_, _, _], _ => rfl
  have D22 : Dfn K mg "loose" s_loose ["fair", "sharing"] := dfn_mk X G a22 l22 c22 k22 fun _ _ _ _ _ _ us hl => match us, hl with | [_, _], _ => rfl
  have D23 : Dfn K mg "turned_fair" s_turned_fair ["fair"] := dfn_mk X G a23 l23 c23 k23 fun _ _ _ _ _ _ us hl => match us, hl with | [_], _ => rfl
  refine ⟨PySem.W.fnOf "law" "law" (defArgs s_law) (defBody s_law) (defScope s_law) .none kV24 dc24 pm24 an24 cd24 ct24, fun s v => .of_eq rfl, fun base _ _ => ?_⟩
  have C__law_deck := c__law_deck (P := l.prog) (w := w) (base := base) D0 B 
  have C__law_draw := c__law_draw (P := l.prog) (w := w) (base := base) D1 B 
  have C__law_amount := c__law_amount (P := l.prog) (w := w) (base := base) D2 B C__law_draw
  have C__law_order := c__law_order (P := l.prog) (w := w) (base := base) D3 B C__law_draw
  have C__law_fair := c__law_fair (P := l.prog) (w := w) (base := base) D4 B C__law_amount C__law_draw C__law_order
  have C__law_same := c__law_same (P := l.prog) (w := w) (base := base) D5 B  9
  have C__law_sharing := c__law_sharing (P := l.prog) (w := w) (base := base) D6 B C__law_draw C__law_order
  have C_borne := c_borne (P := l.prog) (w := w) (base := base) D7 B 
  have C_side_in_all := c_side_in_all (P := l.prog) (w := w) (base := base) D8 B C_borne
  have C_in_all := c_in_all (P := l.prog) (w := w) (base := base) D9 B C_side_in_all
  have C_is_number := c_is_number (P := l.prog) (w := w) (base := base) D10 B 
  have C_is_number_to := c_is_number_to (P := l.prog) (w := w) (base := base) D11 B C_is_number
  have C_is_order := c_is_order (P := l.prog) (w := w) (base := base) D12 B C_is_number
  have C_is_tuple_of := c_is_tuple_of (P := l.prog) (w := w) (base := base) D13 B 
  have C_is_seat := c_is_seat (P := l.prog) (w := w) (base := base) D14 B (PySem.W.mg_of X G v_FAR) C_is_number_to C_is_order C_is_tuple_of
  have C_are_seats := c_are_seats (P := l.prog) (w := w) (base := base) D15 B C_is_seat
  have C_is_tie := c_is_tie (P := l.prog) (w := w) (base := base) D16 B (PySem.W.mg_of X G v_FAR) C_is_number_to C_is_tuple_of
  have C_is_fair := c_is_fair (P := l.prog) (w := w) (base := base) D17 B (PySem.W.mg_of X G v_SEATS) (PySem.W.mg_of X G v_TIES) C_are_seats C_is_tie C_is_tuple_of
  have C_spare := c_spare (P := l.prog) (w := w) (base := base) D18 B C_borne
  have C_is_sharing := c_is_sharing (P := l.prog) (w := w) (base := base) D19 B C_is_number_to C_is_tuple_of C_spare
  have C_has_less_liked := c_has_less_liked (P := l.prog) (w := w) (base := base) D20 B C_borne
  have C_would_have := c_would_have (P := l.prog) (w := w) (base := base) D21 B C_has_less_liked C_spare
  have C_loose := c_loose (P := l.prog) (w := w) (base := base) D22 B C_would_have
  have C_turned_fair := c_turned_fair (P := l.prog) (w := w) (base := base) D23 B 
  exact ok_law (fun_mk (st := s_law) l24 c24 k24) B C__law_deck C__law_draw C__law_fair C__law_same C__law_sharing C_in_all C_is_fair C_is_sharing C_loose C_turned_fair
end Row
open PySem PySem.W PyProof.Rows
set_option maxHeartbeats 0 in
theorem PySem.Challenge.cw_unturned_k28_fairs_turned_holds : PySem.Challenge.rw_unturned_k28_fairs_turned.Holds := by
  w_on; o_law; k_head; (case hw => w_witness2)
  k_fill
  refine Uv.walk_v (l := PySem.Challenge.rw_unturned_k28_fairs_turned) (n := 63) (k := 10) (x := "_law_script") (f := Fn.F_law_z27) rfl (by decide) rfl ⟨rfl, by decide, by decide⟩ (fun w h Y => PySem.W.kIn_of Y) ?F Fn.k28
  case F =>
    intro w mg fa h KX G hmg
    refine' Row.all_mk KX G hmg ?a0 ?l0 ?c0 ?k0 ?a1 ?l1 ?c1 ?k1 ?a2 ?l2 ?c2 ?k2 ?a3 ?l3 ?c3 ?k3 ?a4 ?l4 ?c4 ?k4 ?a5 ?l5 ?c5 ?k5 ?a6 ?l6 ?c6 ?k6 ?a7 ?l7 ?c7 ?k7 ?a8 ?l8 ?c8 ?k8 ?a9 ?l9 ?c9 ?k9 ?a10 ?l10 ?c10 ?k10 ?a11 ?l11 ?c11 ?k11 ?a12 ?l12 ?c12 ?k12 ?a13 ?l13 ?c13 ?k13 ?a14 ?l14 ?c14 ?k14 ?a15 ?l15 ?c15 ?k15 ?a16 ?l16 ?c16 ?k16 ?a17 ?l17 ?c17 ?k17 ?a18 ?l18 ?c18 ?k18 ?a19 ?l19 ?c19 ?k19 ?a20 ?l20 ?c20 ?k20 ?a21 ?l21 ?c21 ?k21 ?a22 ?l22 ?c22 ?k22 ?a23 ?l23 ?c23 ?k23 ?a24 ?l24 ?c24 ?k24 ?v_FAR ?v_SEATS ?v_TIES ?z_all ?z_bool ?z_enumerate ?z_int ?z_isinstance ?z_len ?z_list ?z_min ?z_range ?z_repr ?z_sorted ?z_sum ?z_tuple ?z_zip
    (case a0 => k_is); (case l0 => k_is); (case c0 => k_is); (case k0 => k_is); (case a1 => k_is); (case l1 => k_is); (case c1 => k_is); (case k1 => k_is); (case a2 => k_is); (case l2 => k_is); (case c2 => k_is); (case k2 => k_is); (case a3 => k_is); (case l3 => k_is); (case c3 => k_is); (case k3 => k_is); (case a4 => k_is); (case l4 => k_is); (case c4 => k_is); (case k4 => k_is); (case a5 => k_is); (case l5 => k_is); (case c5 => k_is); (case k5 => k_is); (case a6 => k_is); (case l6 => k_is); (case c6 => k_is); (case k6 => k_is); (case a7 => k_is); (case l7 => k_is); (case c7 => k_is); (case k7 => k_is); (case a8 => k_is); (case l8 => k_is); (case c8 => k_is); (case k8 => k_is); (case a9 => k_is); (case l9 => k_is); (case c9 => k_is); (case k9 => k_is); (case a10 => k_is); (case l10 => k_is); (case c10 => k_is); (case k10 => k_is); (case a11 => k_is); (case l11 => k_is); (case c11 => k_is); (case k11 => k_is); (case a12 => k_is); (case l12 => k_is); (case c12 => k_is); (case k12 => k_is); (case a13 => k_is); (case l13 => k_is); (case c13 => k_is); (case k13 => k_is); (case a14 => k_is); (case l14 => k_is); (case c14 => k_is); (case k14 => k_is); (case a15 => k_is); (case l15 => k_is); (case c15 => k_is); (case k15 => k_is); (case a16 => k_is); (case l16 => k_is); (case c16 => k_is); (case k16 => k_is); (case a17 => k_is); (case l17 => k_is); (case c17 => k_is); (case k17 => k_is); (case a18 => k_is); (case l18 => k_is); (case c18 => k_is); (case k18 => k_is); (case a19 => k_is); (case l19 => k_is); (case c19 => k_is); (case k19 => k_is); (case a20 => k_is); (case l20 => k_is); (case c20 => k_is); (case k20 => k_is); (case a21 => k_is); (case l21 => k_is); (case c21 => k_is); (case k21 => k_is); (case a22 => k_is); (case l22 => k_is); (case c22 => k_is); (case k22 => k_is); (case a23 => k_is); (case l23 => k_is); (case c23 => k_is); (case k23 => k_is); (case a24 => k_is); (case l24 => k_is); (case c24 => k_is); (case k24 => k_is); (case v_FAR => k_is); (case v_SEATS => k_is); (case v_TIES => k_is); (case z_all => k_is); (case z_bool => k_is); (case z_enumerate => k_is); (case z_int => k_is); (case z_isinstance => k_is); (case z_len => k_is); (case z_list => k_is); (case z_min => k_is); (case z_range => k_is); (case z_repr => k_is); (case z_sorted => k_is); (case z_sum => k_is); (case z_tuple => k_is); (case z_zip => k_is)
