import PyProof.Rows.All
import Wide.All
import OpenK.AllK
import Wide.FinOn
import HandS.Iter
import KE.GoesEnum
import PyProof.ReprRoads
import HandS.Dict
import PyProof.EqKinds
import PyProof.FactsAll.dict_1
import HandS.ForMost
import HandS.Evl
import HandS.Walk
import HandS.IsInst
import HandS.Wide
import HandS.NoneIn
import HandS.EndBits
import HandS.Codes
import HandS.TupAny
import HandS.TupMul
import HandS.Deep
import PyProof.TupleOfSeq
import PyProof.SeqIndex
import KE.DatumIndex
import PyProof.CallFns
import HandS.SortInts
import HandS.Zip
import HandS.Star
import HandS.Conv
import KE.KRevSl
import HandS.Flt
import KE.DataCmp
import HandS.Zip0
import HandS.Strs
import HandS.SetFor
import HandS.DictComp
import HandS.Call
import HandS.RaiseMore
import KE.KDictPairs
import PyProof.Rows.IntBool
import KE.DatumOrd
import HandS.TryOnly
import HandS.ExcOwn
import HandS.Small
import HandS.ExcIs
import HandS.HotCalls
import HandS.Defaults
import KE.KMinKey
import PyProof.Rows.SetFrom
import HandS.TupSets
import HandS.SetBool
import KE.SortData
import HandS.Text
import HandS.StrMore
import HandS.FStr
import HandS.Flow
import HandS.ExcInit
import HandS.ExcField
import KE.KExcIs
import HandS.ReplaceLit
import HandS.Steps
import HandS.Style
import PyProof.SliceStr2
import PySem.Challenge.RW_unturned_k79_texts_of_no_streams
set_option Elab.async false
set_option linter.all false
set_option maxRecDepth 100000
set_option maxHeartbeats 8000000
namespace Un
open PySem PySem.Spec PyProof.Rows L2
theorem meets_enumB {u : Value} {ob : Obj} {Hh : Heap → Prop} (B : Begins u ob Hh) :
    Meets (Builtin.«enumerate.__new__» ⟨[.type "enumerate", u], []⟩) (fun _ R st => Hh st.heap ∧
      R (.ok (.ret (.ref (st.heap.push ob).objs.size))) { st with heap := (st.heap.push ob).push { cls := .type "enumerate", data := .fields #[.none, .bool false, .ref st.heap.objs.size, rawInt 0, .none, .none] } }) :=
  .of_wp fun prog w A R st hh => by
    obtain ⟨hp, gn, dr, tk, os⟩ := st
    obtain ⟨hu, hh⟩ := hh
    have hsub := sub_enumerate
    have it1 : ∀ {A' : Around} {E : Value → Shared → Prop} {Q : Value → Shared → Prop}, Q (.ref hp.objs.size) ⟨hp.push ob, gn, dr, tk, os⟩ → wpAny (model prog w) A' (pyIter u) Q E ⟨hp, gn, dr, tk, os⟩ :=
      fun q => B.iter prog w _ _ ⟨hp, gn, dr, tk, os⟩ _ hu q
    wp_walk using it1
    refine wpAny_stack_any fun stk => wpAny_pure ?_
    split
    · rename_i cc _ _ _ _ _
      cases (cc == Value.type "enumerate") <;> (wp_walk using it1; exact ⟨_, rfl, hh⟩)
    · wp_walk using it1
      exact ⟨_, rfl, hh⟩
section
variable {prog : Program} {w : World} {A : Around} {E : Value → Shared → Prop} {s : Shared}
theorem call_enumT {l : Addr} {its : Array Value} {Q : Value → Shared → Prop} (hT : s.heap.IsTuple l its)
    (k : ∀ h', IsEnum h' (s.heap.objs.size + 1) s.heap.objs.size 0 .none → h'.IsTupleIter s.heap.objs.size l 0 →
      (∀ b o, s.heap.get? b = some o → h'.get? b = some o) → Q (.ref (s.heap.objs.size + 1)) { s with heap := h' }) :
    wpAny (model prog w) A (call (.type "enumerate") [.ref l]) Q E s := by
  refine callType_new F.called_enumerate (by decide) (F.typeCall_enumerate_1 _) (F.newCall_enumerate_1 _) (fun obj => F.args_object_init_2 obj _) F.entry_enumerate_new
    (meets_enumB (begins_tuple l its)) ⟨hT, ?_⟩
  have sz : (s.heap.push { cls := .type "tuple_iterator", data := .fields #[.ref l, .int 0 0] }).objs.size = s.heap.objs.size + 1 := Heap.size_push ..
  show _ ∧ _
  rw [sz]
  have en : IsEnum ((s.heap.push { cls := .type "tuple_iterator", data := .fields #[.ref l, .int 0 0] }).push
      { cls := .type "enumerate", data := .fields #[.none, .bool false, .ref s.heap.objs.size, rawInt 0, .none, .none] }) (s.heap.objs.size + 1) s.heap.objs.size 0 .none := by
    have g := Heap.get?_push_size (s.heap.push { cls := .type "tuple_iterator", data := .fields #[.ref l, .int 0 0] })
      (o := { cls := .type "enumerate", data := .fields #[.none, .bool false, .ref s.heap.objs.size, rawInt 0, .none, .none] }) rfl
    rw [sz] at g
    exact g
  exact ⟨⟨_, en, rfl⟩, k _ en ⟨_, Heap.get?_push_of_some _ (Heap.get?_push_size _ rfl), rfl, rfl⟩ fun b o x => Heap.get?_push_of_some _ (Heap.get?_push_of_some _ x)⟩
end
def IteT (K : PySem.W.Frag) (a : Addr) : It :=
  ⟨fun i H => ∃ (xs : List V) (x : V), SqT K H a xs ∧ xs[i]? = some x,
   fun i H v H' => ∃ T x, v = .ref T ∧ H T = none ∧ H' = upd H T (.tup [.int (i : Nat), x]) ∧ ∀ xs, SqT K H a xs → xs[i]? = some x,
   fun i H => ∃ xs : List V, SqT K H a xs ∧ xs.length = i⟩
theorem turn_enumT {P : Program} {w : World} {K : PySem.W.Frag} {elts : List Expr} {kk : Nat} {tpos : Pos} (a e it : Addr) (hai : a ≠ it) (hae : a ≠ e) :
    Turn P w K (.Tuple elts kk tpos) (IteT K a) [e, it] e (fun i h => (∃ old, IsEnum h e it ((i : Nat) : Int) old) ∧ h.IsTupleIter it a i ∧ e ≠ it) where
  mem := by simp
  obj := fun i h st b hb => by
    obtain ⟨⟨old, he⟩, ⟨o, ho, hc, hd⟩, _⟩ := st
    have eb : b = e ∨ b = it := by simpa using hb
    rcases eb with z | z
    · subst z
      exact ⟨_, he, fun v q => nomatch q⟩
    · subst z
      exact ⟨o, ho, fun v q => by rw [hd] at q; cases q⟩
  keep := fun i h h' st k => let ⟨⟨old, he⟩, ⟨o, ho, r⟩, hne⟩ := st; ⟨⟨old, k e (by simp) _ he⟩, ⟨o, k it (by simp) o ho, r⟩, hne⟩
  item := by
    intro X hP hw hK hc i pins s σ H E I hf st hg
    subst hP hw hK
    obtain ⟨⟨old, he⟩, hit, hne⟩ := st
    obtain ⟨xs, x, hq, hx⟩ := hg
    obtain ⟨its, rv, p, hz⟩ := I.tuple hq
    obtain ⟨u, hu, ru⟩ := rv.get hx
    have hlt : i < its.toArray.size := by
      have z := (List.getElem?_eq_some_iff.mp hu).1
      simpa using z
    have hel : e < s.heap.objs.size := Heap.lt_size he
    have hil : it < s.heap.objs.size := by
      obtain ⟨_, q, _⟩ := hit
      exact Heap.lt_size q
    have D := Draws.tuple (prog := X.prog) (w := X.w) (A := X.A.in1) (I.ok.hd hc) it a hai its.toArray
    refine wpAny_pyNext_enum_itemC D he ⟨hit, p⟩ hlt hne (by
      intro z
      have z' : e = it ∨ e = a := by simpa using z
      rcases z' with z1 | z1
      · exact hne z1
      · exact hae z1.symm) fun y h' tk hy ho hst' hT hsz hk => ?_
    have eu : y = u := by
      have z : its.toArray[i]? = some y := hy
      have z2 : its[i]? = some y := by simpa using z
      exact Option.some.inj (z2.symm.trans hu)
    subst eu
    refine ⟨_, rfl, wpAny_letOwnedTupleGo_enum (s := { s with heap := h', toks := tk + 1 }) ho fun h'' he' sb => ?_⟩
    have hT2 : h''.get? s.heap.objs.size = some { cls := .type "tuple", data := .seq #[.int i tk, y] } := (sb.2 _ (Nat.ne_of_gt hel)).trans hT
    have new : ObjOk X.prog X.w (upd H s.heap.objs.size (.tup [.int (i : Nat), x])) h'' s.heap.objs.size (.tup [.int (i : Nat), x]) :=
      ⟨by show 2 ≤ sizeLine; decide, [.int i tk, y], .cons ⟨_, rfl⟩ (.cons ru .nil), ⟨_, hT2, rfl, _, rfl⟩⟩
    have I1 : Inv X pins σ (upd H s.heap.objs.size (.tup [.int (i : Nat), x])) { s with heap := h'', toks := tk + 1 } :=
      I.turnedNew (ch := [e, it]) (fun b ob hb q => (sb.2 b (fun z => hb (by simp [z]))).trans (hk b ob (fun z => hb (by simp [z])) (fun z => hb (by simp [z])) q)) hf (Nat.le_refl _) new
    refine ⟨.ref s.heap.objs.size, _, I1, rfl, ⟨_, x, rfl, I.hok.fresh (Nat.le_refl _), rfl, fun ys hy => by rw [I.tuple_inj hy hq]; exact hx⟩, ⟨⟨y, ?_⟩, ?_, hne⟩, fun b hb => ?_⟩
    · have e1 : ((i + 1 : Nat) : Int) = (i : Int) + 1 := by omega
      rw [e1]
      exact he'
    · obtain ⟨⟨o, q, r⟩, _⟩ := hst'
      exact ⟨o, (sb.2 it (Ne.symm hne)).trans q, r⟩
    · have hb' : b < s.heap.objs.size := by
        have eb : b = e ∨ b = it := by simpa using hb
        rcases eb with z | z
        · rw [z]; exact hel
        · rw [z]; exact hil
      rw [upd_ne (Nat.ne_of_lt hb')]
      exact (hf b hb).1
  done := by
    intro X hP hw hK hc i pins s σ H E I hf st hg
    subst hP hw hK
    obtain ⟨⟨old, he⟩, hit, hne⟩ := st
    obtain ⟨xs, hq, hx⟩ := hg
    obtain ⟨its, rv, p, hz⟩ := I.tuple hq
    have hl := rv.length
    have D := Draws.tuple (prog := X.prog) (w := X.w) (A := X.A.in1) (I.ok.hd hc) it a hai its.toArray
    have en : its.toArray.size = i := by
      simp
      omega
    obtain ⟨f0, f1, f2, f3, f4, f5⟩ := hf it (by simp)
    refine wpAny_pyNext_enum_endD D he (en.symm ▸ ⟨hit, p⟩) fun h' eb => ⟨rfl, I.turned (t' := s.toks) (fun b o hb q => eb b o hb q) f0 f1 f3 f4 f5⟩
  self := fun A i s Q E st h => let ⟨⟨_, he⟩, _⟩ := st; wpAny_pyIter_enum he h
def iEnumT (K : PySem.W.Frag) (ta : TA) : TI := fun σ H R => ta σ H fun vs H1 => ∃ a xs, vs = [.ref a] ∧ SqT K H1 a xs ∧ R (IteT K a) H1
theorem pi_enumT {X : Cx} {e : Expr} {ta : TA} {p pos tpos : Pos} {elts : List Expr} {kk : Nat} (hg : Gl X "enumerate") (hm : X.mg "enumerate" = none) (ha : PA X [e] ta)
    (hs : starEach [e] X.env = [(false, eval e X.env)] := by rfl) : PI X (.Tuple elts kk tpos) (.Call (.Name "enumerate" p) [e] [] pos) (iEnumT X.K ta) := by
  refine ⟨fun pins s σ H R I h => ?_⟩
  refine Call_ (ld_blt I hg hm boot_enumerate (PyProof.Rows.callWith_type1 (thn (ha.run pos pins s σ H _ I h) fun us s1 ⟨vs, H1, I1, r1, q1⟩ => ?_) hs rfl))
  obtain ⟨a, xs, ex, hq, q⟩ := q1
  subst ex
  cases r1 with
  | cons r rr =>
    cases rr
    cases r
    obtain ⟨its, rv, pt, hz⟩ := I1.tuple hq
    have hal : a < s1.heap.objs.size := by
      obtain ⟨o, ho, _⟩ := (show s1.heap.IsTuple a its.toArray from pt)
      exact Heap.lt_size ho
    refine call_enumT pt fun h' he hit hk => wpAny_pyIter_enum he ?_
    have I2 : Inv X pins σ H1 { s1 with heap := h' } := I1.kept (t' := s1.toks) hk
    refine ⟨s1.heap.objs.size + 1, [s1.heap.objs.size + 1, s1.heap.objs.size], _, _, H1, rfl, I2,
      turn_enumT a (s1.heap.objs.size + 1) s1.heap.objs.size (Nat.ne_of_lt hal) (Nat.ne_of_lt (Nat.lt_succ_of_lt hal)), ⟨⟨.none, he⟩, hit, Nat.succ_ne_self _⟩, fun b hb => ?_, q⟩
    have hle : s1.heap.objs.size ≤ b := by
      have e' : b = s1.heap.objs.size + 1 ∨ b = s1.heap.objs.size := by simpa using hb
      rcases e' with z | z
      · rw [z]; exact Nat.le_add_right _ _
      · rw [z]; exact Nat.le_refl _
    exact I1.fpOk hle (I1.hok.fresh hle)
end Un

namespace Uv
open PySem PySem.Spec PyProof.Rows L2
mutual
inductive Rm (h : Heap) : Value → PyData → Prop
  | non : Rm h .none .none
  | bl (b : Bool) : Rm h (.bool b) (.bool b)
  | int (i t) : Rm h (.int i t) (.int i)
  | str (x t) : Rm h (.str x t) (.str x)
  | lst {a o vs n xs} : h.get? a = some o → o.cls = .type "list" → o.data = .seq vs n → Rms h vs.toList xs → Rm h (.ref a) (.list xs)
  | tup {a o vs n xs} : h.get? a = some o → o.cls = .type "tuple" → o.data = .seq vs n → Rms h vs.toList xs → Rm h (.ref a) (.tuple xs)
  | dct {a o es n kvs} : h.get? a = some o → o.cls = .type "dict" → o.data = .dict es n → (a == sysModules) = false → Rms h (es.toList.map (·.key)) (kvs.map (·.1)) → Rms h (es.toList.map (·.val)) (kvs.map (·.2)) → Rm h (.ref a) (.dict kvs)
inductive Rms (h : Heap) : List Value → List PyData → Prop
  | nil : Rms h [] []
  | cons {v vs d ds} : Rm h v d → Rms h vs ds → Rms h (v :: vs) (d :: ds)
end
section
variable {P : Program} {w : World} {g : Heap}
mutual
theorem Rm.rd : ∀ {v : Value} {d : PyData}, Rm g v d → ∃ as, Reads g v d as
  | _, _, .non => ⟨_, .none⟩
  | _, _, .bl b => ⟨_, .bool b⟩
  | _, _, .int i t => ⟨_, .int i t⟩
  | _, _, .str x t => ⟨_, .str x t⟩
  | _, _, .lst a b c r => let ⟨_, q⟩ := Rms.rd r; ⟨_, .list a b c q⟩
  | _, _, .tup a b c r => let ⟨_, q⟩ := Rms.rd r; ⟨_, .tuple a b c q⟩
  | _, _, .dct a b c _ r s => let ⟨_, q⟩ := Rms.rd r; let ⟨_, t⟩ := Rms.rd s; ⟨_, .dict a b c q t⟩
theorem Rms.rd : ∀ {vs : List Value} {ds : List PyData}, Rms g vs ds → ∃ as, ReadsAll g vs ds as
  | _, _, .nil => ⟨_, .nil⟩
  | _, _, .cons r s => let ⟨_, q⟩ := Rm.rd r; let ⟨_, t⟩ := Rms.rd s; ⟨_, .cons q t⟩
end
mutual
theorem Rm.rk : ∀ {v : Value} {d : PyData}, Rm g v d → d.showable = true → d.shown.length ≤ sizeLine → ∃ l, ReadAtMost g d.depth l ∧ ReprK P w l g d.depth v d.shown
  | _, _, .non, _, _ => ⟨[], nofun, by rw [PyData.shown]; exact .of_is ReprIs.none _ _ _⟩
  | _, _, .bl b, _, _ => ⟨[], nofun, by rw [PyData.shown]; exact .of_is (ReprIs.bool b) _ _ _⟩
  | _, _, .int i t, e, _ => ⟨[], nofun, by rw [PyData.shown]; exact .of_is (ReprIs.int t (by simpa [PyData.showable] using e)) _ _ _⟩
  | _, _, .str x t, _, z => ⟨[], nofun, by rw [PyData.shown] at z ⊢; exact .of_is (ReprIs.str x t z) _ _ _⟩
  | _, _, .lst (a := p) (vs := vs) (xs := ds) o1 o2 o3 q, e, z => by
    rw [PyData.shown] at z
    obtain ⟨_, full⟩ := Rm.rd (.lst o1 o2 o3 q)
    obtain ⟨l, l1, l2⟩ := Rms.rk q (by simpa [PyData.showable] using e) fun t m => Nat.le_trans (listText_mem_le m) z
    have off : p ∉ l := not_mem_of_deeper full (by rw [PyData.depth]; omega) l1
    refine ⟨p :: l, l1.cons full (by rw [PyData.depth]; omega), ?_⟩
    rw [PyData.depth, PyData.shown]
    obtain ⟨v⟩ := vs
    cases v with
    | cons x v => exact ReprK.list o1 o2 o3 off (by simpa using l2.length_eq) fun i y m => l2.item i y (by simpa using m)
    | nil =>
      have q' : Rms g [] ds := q
      cases q'
      rw [PyData.shownAll, listText_nil]
      exact ReprK.listEmpty o1 o2 o3
  | _, _, .tup (a := p) (xs := ds) o1 o2 o3 q, e, z => by
    rw [PyData.shown] at z
    obtain ⟨_, full⟩ := Rm.rd (.tup o1 o2 o3 q)
    obtain ⟨l, l1, l2⟩ := Rms.rk q (by simpa [PyData.showable] using e) fun t m => Nat.le_trans (tupleText_mem_le m) z
    have off : p ∉ l := not_mem_of_deeper full (by rw [PyData.depth]; omega) l1
    refine ⟨p :: l, l1.cons full (by rw [PyData.depth]; omega), ?_⟩
    rw [PyData.depth, PyData.shown]
    exact ReprK.tuple o1 o2 o3 off l2
  | _, _, .dct (a := p) (es := es) (kvs := ps) o1 o2 o3 o4 q1 q2, e, z => by
    rw [PyData.shown] at z
    obtain ⟨_, full⟩ := Rm.rd (.dct o1 o2 o3 o4 q1 q2)
    obtain ⟨e1, e2⟩ := PyData.showableKv_split ps (by simpa [PyData.showable] using e)
    obtain ⟨l, l1, l2⟩ := Rms.rk q1 e1 fun t m => let ⟨_, u1, u2⟩ := PyData.shownKv_key_le ps t m; Nat.le_trans u2 (Nat.le_trans (dictText_mem_le u1) z)
    obtain ⟨k, k1, k2⟩ := Rms.rk q2 e2 fun t m => let ⟨_, u1, u2⟩ := PyData.shownKv_val_le ps t m; Nat.le_trans u2 (Nat.le_trans (dictText_mem_le u1) z)
    have lk : ReadAtMost g (PyData.depthKv ps) (l ++ k) := (l1.mono (PyData.depthAll_keys_le ps)).append (k1.mono (PyData.depthAll_vals_le ps))
    have off : p ∉ l ++ k := not_mem_of_deeper full (by rw [PyData.depth]; omega) lk
    refine ⟨p :: (l ++ k), lk.cons full (by rw [PyData.depth]; omega), ?_⟩
    rw [PyData.depth, PyData.shown, PyData.shownKv_eq]
    exact ReprK.dict o1 o2 o3 o4 off (ReprEntriesK.of_two es.toList _ _ (l2.more_le (fun _ => List.mem_append_left _) (PyData.depthAll_keys_le ps)) (k2.more_le (fun _ => List.mem_append_right _) (PyData.depthAll_vals_le ps)))
theorem Rms.rk : ∀ {vs : List Value} {ds : List PyData}, Rms g vs ds → PyData.showableAll ds = true → (∀ t ∈ PyData.shownAll ds, t.length ≤ sizeLine) → ∃ l, ReadAtMost g (PyData.depthAll ds) l ∧ ReprAllK P w l g (PyData.depthAll ds) vs (PyData.shownAll ds)
  | _, _, .nil, _, _ => ⟨[], nofun, by rw [PyData.shownAll]; exact .nil⟩
  | _, _, .cons (d := d) (ds := ds) q r, e, z => by
    obtain ⟨e1, e2⟩ : d.showable = true ∧ PyData.showableAll ds = true := by simpa [PyData.showableAll] using e
    rw [PyData.shownAll] at z
    obtain ⟨l, l1, l2⟩ := Rm.rk q e1 (z _ (List.mem_cons_self ..))
    obtain ⟨k, k1, k2⟩ := Rms.rk r e2 fun t m => z t (List.mem_cons_of_mem _ m)
    rw [PyData.depthAll, PyData.shownAll]
    exact ⟨l ++ k, (l1.mono (Nat.le_max_left _ _)).append (k1.mono (Nat.le_max_right _ _)), .cons ((l2.more fun _ => List.mem_append_left _).level_le (Nat.le_max_left _ _)) (k2.more_le (fun _ => List.mem_append_right _) (Nat.le_max_right _ _))⟩
end
theorem Rm.shows {a : Addr} {d : PyData} (r : Rm g (.ref a) d) (e : d.showable = true) (z : d.shown.length ≤ sizeLine) : ∃ T i, ShowsBy P w g a d T i := by
  obtain ⟨_, full⟩ := r.rd
  cases r with
  | lst o1 o2 o3 q =>
    rename_i o vs n ds
    rw [PyData.shown] at z
    obtain ⟨l, l1, l2⟩ := Rms.rk (P := P) (w := w) q (by simpa [PyData.showable] using e) fun t m => Nat.le_trans (listText_mem_le m) z
    have off : a ∉ l := not_mem_of_deeper full (by rw [PyData.depth]; omega) l1
    refine ⟨"list", "list.__repr__", F.slot_list_repr.toG, F.slot_list_str, F.slot_list_format, fun s k => ⟨o, k _ _ o1, o2⟩, fun A E s Q ag au k hq => ?_⟩
    rw [PyData.depth] at au
    rw [PyData.shown] at hq
    obtain ⟨v⟩ := vs
    cases v with
    | cons x v => exact call_list_reprK o1 o2 o3 off (by simpa using l2.length_eq) (fun i y m => l2.item i y (by simpa using m)) ag (fun b _ => Clear.nil b) au k hq z
    | nil =>
      have q' : Rms g [] ds := q
      cases q'
      rw [PyData.shownAll, listText_nil] at hq
      exact call_list_repr_empty ⟨o, k _ _ o1, o2⟩ (k _ _ o1) o3 (hq s.heap _ _ fun _ _ y => y)
  | tup o1 o2 o3 q =>
    rename_i o vs n ds
    rw [PyData.shown] at z
    obtain ⟨l, l1, l2⟩ := Rms.rk (P := P) (w := w) q (by simpa [PyData.showable] using e) fun t m => Nat.le_trans (tupleText_mem_le m) z
    have off : a ∉ l := not_mem_of_deeper full (by rw [PyData.depth]; omega) l1
    refine ⟨"tuple", "tuple.__repr__", F.slot_tuple_repr, F.slot_tuple_str, F.slot_tuple_format, fun s k => ⟨o, k _ _ o1, o2⟩, fun A E s Q ag au k hq => ?_⟩
    rw [PyData.depth] at au
    rw [PyData.shown] at hq
    exact call_tuple_reprK o1 o2 o3 off l2 ag (fun b _ => Clear.nil b) au k hq z
  | dct o1 o2 o3 o4 q1 q2 =>
    rename_i o es n ps
    rw [PyData.shown] at z
    obtain ⟨e1, e2⟩ := PyData.showableKv_split ps (by simpa [PyData.showable] using e)
    obtain ⟨l, l1, l2⟩ := Rms.rk (P := P) (w := w) q1 e1 fun t m => let ⟨_, u1, u2⟩ := PyData.shownKv_key_le ps t m; Nat.le_trans u2 (Nat.le_trans (dictText_mem_le u1) z)
    obtain ⟨k, k1, k2⟩ := Rms.rk (P := P) (w := w) q2 e2 fun t m => let ⟨_, u1, u2⟩ := PyData.shownKv_val_le ps t m; Nat.le_trans u2 (Nat.le_trans (dictText_mem_le u1) z)
    have lk : ReadAtMost g (PyData.depthKv ps) (l ++ k) := (l1.mono (PyData.depthAll_keys_le ps)).append (k1.mono (PyData.depthAll_vals_le ps))
    have off : a ∉ l ++ k := not_mem_of_deeper full (by rw [PyData.depth]; omega) lk
    refine ⟨"dict", "dict.__repr__", F.slot_dict_repr, F.slot_dict_str, F.slot_dict_format, fun s k => ⟨o, k _ _ o1, o2⟩, fun A E s Q ag au kk hq => ?_⟩
    rw [PyData.depth] at au
    rw [PyData.shown, PyData.shownKv_eq] at hq
    exact call_dict_reprK o1 o2 o3 o4 off (ReprEntriesK.of_two es.toList _ _ (l2.more_le (fun _ => List.mem_append_left _) (PyData.depthAll_keys_le ps)) (k2.more_le (fun _ => List.mem_append_right _) (PyData.depthAll_vals_le ps))) ag (fun b _ => Clear.nil b) au kk hq (by rw [← PyData.shownKv_eq]; exact z)
theorem Rm.repr {A : Around} {E : Value → Shared → Prop} {s : Shared} {Q : Value → Shared → Prop} {a : Addr} {d : PyData} (r : Rm s.heap (.ref a) d) (e : d.showable = true) (ag : A.guards = some []) (au : A.units + (d.depth + 1) < cLine) (hq : ∀ h' u tk, (∀ b o, s.heap.get? b = some o → h'.get? b = some o) → Q (.str d.shown u) { s with heap := h', toks := tk }) (z : d.shown.length ≤ sizeLine) : wpAny (model P w) A (call (.builtin "repr") [.ref a]) Q E s := by
  obtain ⟨T, i, S⟩ := r.shows (P := P) (w := w) e z
  have k0 : ∀ (b : Addr) (o : Obj), s.heap.get? b = some o → s.heap.get? b = some o := fun _ _ y => y
  exact call_repr_slot (by omega) (S.typeIs s k0) S.slotRepr (S.call A.in1 E s _ ag (by show A.units + 1 + d.depth < cLine; omega) k0 fun h' u tk k => ⟨_, _, rfl, hq h' u tk k⟩)
end
end Uv

namespace Uv
open PySem PySem.Spec PyProof.Rows L2
theorem dct_no (a : Addr) (es : Array DictEntry) (n : Nat) (p : Option Addr) (c : Array (Option Value)) (x : Str) (t : Tok) : Meets (Builtin.«dict.__eq__» ⟨[.ref a, .str x t], []⟩) (fun _ R s => s.heap.get? a = some { cls := .type "dict", dict := p, data := .dict es n, slots := c } ∧ R (.ok (.ret .notImplemented)) s) :=
  .of_wp fun pr w A R s h => by
    obtain ⟨hp, g, d, tk, os⟩ := s
    obtain ⟨ho, h⟩ := h
    have no := F.sub_str_dict
    wp_walk using wpAny_loadPart' ho
    exact ⟨_, rfl, h⟩
theorem str_no (a : Addr) (k : Value) (es : Array DictEntry) (n : Nat) (p : Option Addr) (c : Array (Option Value)) (x : Str) (t : Tok) : Meets (Builtin.«str.__eq__» ⟨[.str x t, .ref a], []⟩) (fun _ R s => s.heap.get? a = some { cls := k, dict := p, data := .dict es n, slots := c } ∧ R (.ok (.ret .notImplemented)) s) :=
  .of_wp fun pr w A R s h => by
    obtain ⟨hp, g, d, tk, os⟩ := s
    obtain ⟨ho, h⟩ := h
    wp_walk using wpAny_loadPart' ho, wpAny_load ho
    exact ⟨_, rfl, h⟩
theorem dct_str {A : Around} {s : Shared} {a : Addr} {es : Array DictEntry} {n : Nat} {p : Option Addr} {c : Array (Option Value)} (x : Str) (t : Tok) (ho : s.heap.get? a = some { cls := .type "dict", dict := p, data := .dict es n, slots := c }) (hu : A.units < cLine) : SeqAt.RcAt A s (.ref a) (.str x t) false := fun pr w E Q h =>
  SeqAt.rc_eq_decline_or (k := false) ⟨_, ho, rfl⟩ (typeIs_str s x t) (by decide) F.sub_str_dict F.slot_dict_eq F.slot_str_eq_refl
    (fun _ q => call_meets F.slot_dict_eq ⟨_, ho, rfl⟩ F.entry_dict_eq (F.args_dict_eq_2 _ _) (dct_no a es n p c x t) ⟨ho, q⟩)
    (fun _ q => call_meets F.slot_str_eq_refl (typeIs_str s x t) F.entry_str_eq (F.args_str_eq_2 _ _) (str_no a (.type "dict") es n p c x t) ⟨ho, q⟩)
    (fun _ q => wpAny_of_eq (rfl : isSame (.ref a) (.str x t) = pure false) q) (.inr hu) h
end Uv

namespace Uv
open PySem PySem.Spec PyProof.Rows L2
open Evl (Ex)
def Plain (o : Obj) : Prop := o.cls = .type "tuple" ∧ o.dict = none
abbrev fz (o : Obj) (xs : List V) : HO := .frz o (.tup xs)
def tTupF (t : TA) : TE := fun σ H Q => t σ H fun xs H1 => xs.length ≤ sizeLine ∧ ∀ p o, H1 p = none → Plain o → Q (.ref p) (upd H1 p (fz o xs))
theorem pe_tupF {X : Cx} {es : List Expr} {t : TA} {pos : Pos} {x1} (h : PA X es t) : PE X (.Tuple es x1 pos) (tTupF t) := by
  refine ⟨fun pins s σ H Q I hq => ?_⟩
  refine wpAny_Tuple_spliced (thn (h.run pos pins s σ H _ I hq) fun us s1 ⟨xs, H1, I1, r, z, q⟩ => ⟨by rw [← r.length]; exact z, ?_⟩)
  have I2 : Inv X pins σ (upd H1 s1.heap.objs.size (fz { cls := .type "tuple", data := .seq us.toArray } xs)) { s1 with heap := s1.heap.push { cls := .type "tuple", data := .seq us.toArray }, toks := s1.toks } :=
    I1.laid (t' := s1.toks) (fun b u e => Heap.get?_push_of_some _ e) (Nat.le_refl _) (show ObjOk X.prog X.w _ _ _ (.frz _ (.tup xs)) from ⟨Heap.get?_push_size _ rfl, z, us, r, IsTup.new _ _⟩)
  exact ⟨.ref s1.heap.objs.size, _, I2, rfl, q _ _ (I1.hok.fresh (Nat.le_refl _)) ⟨rfl, rfl⟩⟩
def rTupF (K : PySem.W.Frag) : List V → Hp → VK → Prop := fun xs H Q => ∃ p ys, xs = [.ref p] ∧ ((SqL K H p ys ∧ ∀ l o, H l = none → Plain o → Q (.ref l) (upd H l (fz o ys))) ∨ (SqT K H p ys ∧ Q (.ref p) H))
theorem cr_tupF {X : Cx} : CallR X (.type "tuple") (rTupF X.K) := by
  intro pins s σ H xs us Q I r h
  obtain ⟨p, ys, rfl, h⟩ := h
  rcases h with ⟨hq, q⟩ | ⟨ht, q⟩
  · obtain ⟨u, rfl, rx⟩ := vals1 r
    cases rx
    obtain ⟨its, r', pl, hz⟩ := I.list hq
    have hlen := r'.length
    refine call_tuple_list pl.isList (fun h' kp => ?_) (by simp only [List.size_toArray] <;> omega)
    have I1 : Inv X pins σ H { s with heap := h' } := I.kept (t' := s.toks) kp
    have I2 : Inv X pins σ (upd H h'.objs.size (fz { cls := .type "tuple", data := .seq its.toArray } ys)) { s with heap := h'.push { cls := .type "tuple", data := .seq its.toArray } } :=
      I1.laid (t' := s.toks) (fun b o e => Heap.get?_push_of_some _ e) (Nat.le_refl _) (show ObjOk X.prog X.w _ _ _ (.frz _ (.tup ys)) from ⟨Heap.get?_push_size _ rfl, hz, its, r', IsTup.new _ _⟩)
    exact ⟨.ref h'.objs.size, _, I2, rfl, q _ _ (I1.hok.fresh (Nat.le_refl _)) ⟨rfl, rfl⟩⟩
  · exact call_tupleT pins s σ H _ us Q I r ⟨p, ys, rfl, ht, q⟩
def rCatF (K : PySem.W.Frag) : R2 := fun x y H Q => ∃ a b xs ys, x = .ref a ∧ y = .ref b ∧ SqT K H a xs ∧ SqT K H b ys ∧ xs.length + ys.length ≤ sizeLine ∧
  (xs = [] → Q (.ref b) H) ∧ (xs ≠ [] → ys = [] → Q (.ref a) H) ∧ (xs ≠ [] → ys ≠ [] → ∀ p o, H p = none → Plain o → Q (.ref p) (upd H p (fz o (xs ++ ys))))
theorem op_catF {X : Cx} : OpR X (binaryOp .Add) (rCatF X.K) := by
  intro pins s σ H x y v u Q I rx ry h
  obtain ⟨a, b, xs, ys, rfl, rfl, ha, hb, hz, q0, q1, q2⟩ := h
  cases rx
  cases ry
  obtain ⟨its, r1, p1, _⟩ := I.tuple ha
  obtain ⟨its2, r2, p2, _⟩ := I.tuple hb
  by_cases hx : xs = []
  · subst hx
    cases r1
    exact cat_tup0 p1 p2 ⟨.ref b, H, I, rfl, q0 rfl⟩
  · refine HT.cat_tup p1 p2 (fun z => hx (r1.nil_iff.mp z)) (fun z => ⟨.ref a, H, I, rfl, q1 hx (r2.nil_iff.mp z)⟩) (fun z => ?_) (by rw [← r1.length, ← r2.length]; exact hz)
    have hy : ys ≠ [] := fun w => z (r2.nil_iff.mpr w)
    have ok := I.laid (t' := s.toks) (o := fz _ (xs ++ ys)) (fun b ob q => Heap.get?_push_of_some _ q) (Nat.le_refl _) (show ObjOk X.prog X.w _ _ _ (.frz _ (.tup (xs ++ ys))) from ⟨Heap.get?_push_size _ rfl, by rw [List.length_append]; exact hz, _, r1.append r2, IsTup.new _ _⟩)
    exact ⟨.ref s.heap.objs.size, _, ok, rfl, q2 hx hy _ _ (I.hok.fresh (Nat.le_refl _)) ⟨rfl, rfl⟩⟩
def rSlF (K : PySem.W.Frag) : V → Option Int → Option Int → Hp → VK → Prop := fun x lo hi H Q => ∃ a xs, x = .ref a ∧ SqT K H a xs ∧
  (HT.sIx xs.length 0 lo = 0 ∧ HT.sIx xs.length xs.length hi = xs.length → Q (.ref a) H) ∧ (¬ (HT.sIx xs.length 0 lo = 0 ∧ HT.sIx xs.length xs.length hi = xs.length) → ∀ p o, H p = none → Plain o → Q (.ref p) (upd H p (fz o (cutV xs lo hi))))
theorem sl_tupF {X : Cx} : SlR X (rSlF X.K) := by
  intro pins s σ H x v vl vu lo hi sl Q I rx hs pl pu h
  obtain ⟨a, xs, rfl, hx, q1, q2⟩ := h
  cases rx
  obtain ⟨its, r, ht, hz⟩ := I.tuple hx
  have hlen : its.toArray.size = xs.length := by rw [List.size_toArray]; exact r.length.symm
  refine ⟨"tuple", _, PyProof.Rows.slot_tuple_getitem.lookup, ht.typeIs, ?_⟩
  by_cases hw : HT.sIx xs.length 0 lo = 0 ∧ HT.sIx xs.length xs.length hi = xs.length
  · exact getItem_tuple_whole ht hs pl pu (by rw [hlen]; exact hw) ⟨.ref a, H, I, rfl, q1 hw⟩
  · refine HT.getItem_tuple_cut ht hs pl pu (by rw [hlen]; exact hw) ?_ (by rw [hlen]; exact hz)
    rw [hlen]
    have ok := I.laid (t' := s.toks) (o := fz _ (cutV xs lo hi)) (fun b ob q => Heap.get?_push_of_some _ q) (Nat.le_refl _) (show ObjOk X.prog X.w _ _ _ (.frz _ (.tup (cutV xs lo hi))) from ⟨Heap.get?_push_size _ rfl, Nat.le_trans (cutV_length xs lo hi) hz, _, (r.drop (HT.sIx xs.length 0 lo)).take (HT.sIx xs.length xs.length hi - HT.sIx xs.length 0 lo), IsTup.new _ _⟩)
    exact ⟨.ref s.heap.objs.size, _, ok, rfl, q2 hw _ _ (I.hok.fresh (Nat.le_refl _)) ⟨rfl, rfl⟩⟩
def rIndexF (K : PySem.W.Frag) : V → List V → Hp → VK → Prop := fun x xs H Q => ∃ (a : Addr) (ns : List Int) (m : Int), x = .ref a ∧ xs = [.int m] ∧ SqT K H a (ns.map V.int) ∧ m ∈ ns ∧ Q (.int (ns.idxOf m : Nat)) H
theorem mt_indexF {X : Cx} (hu : X.A.units + 65 < cLine) : MtR X "tuple.index" (rIndexF X.K) := by
  intro pins s σ H x xs v us Q I rx rxs h
  obtain ⟨a, ns, m, rfl, rfl, hs, hm, q⟩ := h
  cases rx
  obtain ⟨u, rfl, t, rfl⟩ := vals1 rxs
  obtain ⟨its, rv, p, _⟩ := I.tuple hs
  refine PySem.W.index_tuple_datum (xs := ns) (x := m) p ⟨[], rv.ints.reads s.heap⟩ ⟨[], .int m t⟩ (by show X.A.units + 1 + 0 < cLine; omega) hm ?_
  exact ⟨.int _, H, I.tok _, ⟨_, rfl⟩, q⟩
def tBMF (r : V → List V → Hp → VK → Prop) (to : TE) (t : TA) : TE := fun σ H Q => to σ H fun x H1 => (∃ p o u, x = .ref p ∧ H1 p = some (.frz o u) ∧ Plain o) ∧ t σ H1 fun xs H2 => r x xs H2 Q
theorem pe_bmF {X : Cx} {o e : Expr} {es : List Expr} {to : TE} {t : TA} {name : Str} {apos cpos : Pos} {id : String} {r : V → List V → Hp → VK → Prop} (slot : Slot "tuple" name id) (hty : typeOf (.builtin id) = pure (.type "method_descriptor")) (hm : MtR X id r) (ho : PE X o to) (ha : PA X (e :: es) t)
    (hbase : attributeBase o name X.env (eval o X.env) = eval o X.env := by rfl)
    (hfew : ((backTo cpos (starEach (e :: es) X.env)).all (fun x => !x.1) && (backToKw cpos (keywordEach [] X.env)).all (fun x => x.1.isSome)
      && decide ((e :: es).length + ([] : List Keyword).length + (if ([] : List Keyword).isEmpty then 0 else 1) < 30)) = true := by rfl)
    (hline : (apos.endLine == cpos.line) = true := by rfl) (hs : starEach (e :: es) X.env = (false, eval e X.env) :: starEach es X.env := by rfl) (hplain : (backTo cpos (starEach es X.env)).any (·.1) = false := by rfl) :
    PE X (.Call (.Attribute o name apos) (e :: es) [] cpos) (tBMF r to t) := by
  refine ⟨fun pins s σ H Q I h => wpAny_Call_method_late hbase hfew hline rfl (thn (ho.run pins s σ H _ I h) fun v s1 ⟨x, H1, I1, r1, ty, q1⟩ => ?_)⟩
  obtain ⟨p, ob, u, rfl, hp, hc, hd⟩ := ty
  cases r1
  have hg := (I1.hok p _ hp).1
  refine ⟨"tuple", id, PySem.F.plainAttrs_tuple, slot, hty, ⟨ob, hg, hc⟩, fun a e => by cases e; exact ⟨ob, hg, hd⟩, ?_⟩
  have hA := ha.run cpos pins s1 σ H1 _ I1 q1
  rw [hs] at hA ⊢
  refine Calls.callWith_builtin (by show (false || (backTo cpos (starEach es X.env)).any (·.1)) = false; rw [hplain] <;> rfl) (Calls.evalArgs_plain ?_)
  exact thn hA fun us s2 ⟨vs, H2, I2, r2, q2⟩ => hm pins s2 σ H2 (.ref p) vs (.ref p) us Q I2 (show L2.RelV (.ref p) (.ref p) from rfl) r2 q2
theorem u65 {k : Nat} {A : Around} (r : Room k A) : A.units + 65 < cLine := by have := r.un; omega
end Uv

namespace Uv
open PySem PySem.Spec PyProof.Rows L2
open Evl (Ex)
class KK where
  fr : PySem.W.Frag
abbrev K [kk : KK] : PySem.W.Frag := kk.fr
variable [kk : KK]
abbrev PD := PyData
abbrev scrD (ds : List PD) : PD := .dict [(.none, .list ds)]
theorem sqx {K : PySem.W.Frag} {H H' : Hp} {a : Addr} {xs : List V} (e : Ex H H') (h : SqL K H a xs) : SqL K H' a xs := h.elim (fun r => .inl (r.elim (fun r => .inl (e _ _ r)) fun ⟨o, r⟩ => .inr ⟨o, e _ _ r⟩)) .inr
abbrev Hs := Addr → Prop
open Classical in
noncomputable def hid (S : Hs) (H : Hp) : Hp := fun x => if S x then none else H x
section
variable {S S' : Hs} {H H' : Hp} {x p : Addr} {o : HO}
theorem hid_in (h : S x) : hid S H x = none := by unfold hid; rw [if_pos h]
theorem hid_out (h : ¬ S x) : hid S H x = H x := by unfold hid; rw [if_neg h]
theorem hid_some (h : hid S H x = some o) : ¬ S x ∧ H x = some o := by
  by_cases c : S x
  · rw [hid_in c] at h; cases h
  · rw [hid_out c] at h; exact ⟨c, h⟩
theorem hid_ex (e : Ex H H') : Ex (hid S H) (hid S H') := fun x o h => by
  obtain ⟨c, h⟩ := hid_some h
  rw [hid_out c]; exact e x o h
theorem hid_le : Ex (hid S H) H := fun x o h => (hid_some h).2
theorem hid_sub (h : ∀ x, S' x → S x) : Ex (hid S H) (hid S' H) := fun x o q => by
  obtain ⟨c, q⟩ := hid_some q
  rw [hid_out fun z => c (h x z)]; exact q
theorem hid_eq (h : ∀ x, S x ↔ S' x) : hid S H = hid S' H := by
  funext x
  by_cases c : S x
  · rw [hid_in c, hid_in ((h x).mp c)]
  · rw [hid_out c, hid_out fun z => c ((h x).mpr z)]
def Al (S : Hs) (H : Hp) : Prop := ∀ x, S x → H x ≠ none
theorem Al.ex (a : Al S H) (e : Ex H H') : Al S H' := fun x hx z => by
  cases q : H x with
  | none => exact a x hx q
  | some o => rw [e x o q] at z; cases z
theorem Al.new (a : Al S H) (hp : H p = none) : ¬ S p := fun z => a p z hp
theorem new_ok (al : Al S H) (hp : H p = none) : hid S (upd H p o) p = some o := by rw [hid_out (al.new hp), upd_same]
theorem hid_cons (e : Ex H H') (hp : H p = none) : Ex (hid S H) (hid (fun x => x = p ∨ S x) H') := fun x o h => by
  obtain ⟨c, h⟩ := hid_some h
  have n : ¬ (x = p ∨ S x) := fun z => z.elim (fun z => by subst z; rw [hp] at h; cases h) c
  rw [hid_out n]; exact e x o h
end
abbrev dciD (ks : List Int) (ds : List PD) : PD := .dict [(.bool true, .list [.list (ks.map PyData.int), .list ds])]
mutual
inductive Rp (H : Hp) : V → PD → Prop
  | non : Rp H .non .none
  | bl (b : Bool) : Rp H (.bl b) (.bool b)
  | int (i : Int) : Rp H (.int i) (.int i)
  | str (x : Str) : Rp H (.str x) (.str x)
  | lst {a : Addr} {xs : List V} {ds : List PD} : H a = some (.lst xs) → RpAll H xs ds → Rp H (.ref a) (.list ds)
  | tup {a : Addr} {o : Obj} {xs : List V} {ds : List PD} : H a = some (fz o xs) → Plain o → RpAll H xs ds → Rp H (.ref a) (.tuple ds)
  | dct {a : Addr} {ks : List Str} {xs : List V} {ds : List PD} {ps : List (PD × PD)} : H a = some (.dK ((ks.map Sum.inr).zip xs)) → ks.length = xs.length → ps = (ks.map PyData.str).zip ds → RpAll H xs ds → Rp H (.ref a) (.dict ps)
  | dci {a : Addr} {ks : List Int} {xs : List V} {ds : List PD} : H a = some (.dK ((ks.map Sum.inl).zip xs)) → ks.length = xs.length → RpAll H xs ds → Rp H (.ref a) (dciD ks ds)
  | scr {a : Addr} {xs : List V} {ds : List PD} : SqL K H a xs → RpAll H xs ds → Rp H (.ref a) (scrD ds)
inductive RpAll (H : Hp) : List V → List PD → Prop
  | nil : RpAll H [] []
  | cons {v : V} {vs : List V} {d : PD} {ds : List PD} : Rp H v d → RpAll H vs ds → RpAll H (v :: vs) (d :: ds)
end
mutual
theorem Rp.ex {H H' : Hp} (e : Ex H H') : ∀ {v : V} {d : PD}, Rp H v d → Rp H' v d
  | _, _, .non => .non
  | _, _, .bl b => .bl b
  | _, _, .int i => .int i
  | _, _, .str x => .str x
  | _, _, .lst h r => .lst (e _ _ h) (RpAll.ex e r)
  | _, _, .tup h p r => .tup (e _ _ h) p (RpAll.ex e r)
  | _, _, .dct h l q r => .dct (e _ _ h) l q (RpAll.ex e r)
  | _, _, .dci h l r => .dci (e _ _ h) l (RpAll.ex e r)
  | _, _, .scr h r => .scr (sqx e h) (RpAll.ex e r)
theorem RpAll.ex {H H' : Hp} (e : Ex H H') : ∀ {vs : List V} {ds : List PD}, RpAll H vs ds → RpAll H' vs ds
  | _, _, .nil => .nil
  | _, _, .cons h r => .cons (Rp.ex e h) (RpAll.ex e r)
end
mutual
theorem Rp.dp {H : Hp} : ∀ {v : V} {d : PD}, Rp H v d → d.hasDict = false → Dp K H v d
  | _, _, .non, _ => .non
  | _, _, .bl b, _ => .bl b
  | _, _, .int i, _ => .int i
  | _, _, .str x, _ => .str x
  | _, _, .lst h r, n => .lst (.inl (.inl h)) (RpAll.dp r (by simpa [PyData.hasDict] using n))
  | _, _, .tup h _ r, n => .tup (.inl (.inr ⟨_, h⟩)) (RpAll.dp r (by simpa [PyData.hasDict] using n))
  | _, _, .dct h _ _ _, n => by simp [PyData.hasDict] at n
  | _, _, .dci h _ _, n => by simp [PyData.hasDict] at n
  | _, _, .scr h r, n => by simp [PyData.hasDict] at n
theorem RpAll.dp {H : Hp} : ∀ {vs : List V} {ds : List PD}, RpAll H vs ds → PyData.hasDictAll ds = false → DpAll K H vs ds
  | _, _, .nil, _ => .nil
  | _, _, .cons h r, n => by
    simp only [PyData.hasDictAll, Bool.or_eq_false_iff] at n
    exact .cons (Rp.dp h n.1) (RpAll.dp r n.2)
end
section
variable {H : Hp}
theorem RpAll.length : ∀ {vs : List V} {ds : List PD}, RpAll H vs ds → vs.length = ds.length
  | _, _, .nil => rfl
  | _, _, .cons _ r => by rw [List.length_cons, List.length_cons, RpAll.length r]
theorem RpAll.get : ∀ {vs : List V} {ds : List PD} {i : Nat} {d : PD}, RpAll H vs ds → ds[i]? = some d → ∃ v, vs[i]? = some v ∧ Rp H v d
  | _, _, _, _, .nil, e => by simp at e
  | _, _, 0, _, .cons h _, e => by
    simp at e
    subst e
    exact ⟨_, rfl, h⟩
  | _, _, i + 1, d, .cons _ r, e => by
    obtain ⟨v, h1, h2⟩ := RpAll.get (i := i) (d := d) r (by simpa using e)
    exact ⟨v, by simpa using h1, h2⟩
theorem RpAll.append : ∀ {vs ws : List V} {ds es : List PD}, RpAll H vs ds → RpAll H ws es → RpAll H (vs ++ ws) (ds ++ es)
  | _, _, _, _, .nil, s => s
  | _, _, _, _, .cons h r, s => .cons h (RpAll.append r s)
theorem RpAll.drop : ∀ {vs : List V} {ds : List PD} (n : Nat), RpAll H vs ds → RpAll H (vs.drop n) (ds.drop n)
  | _, _, 0, r => by simpa using r
  | _, _, n + 1, .nil => by simpa using RpAll.nil
  | _, _, n + 1, .cons _ r => by simpa using RpAll.drop n r
theorem RpAll.take : ∀ {vs : List V} {ds : List PD} (n : Nat), RpAll H vs ds → RpAll H (vs.take n) (ds.take n)
  | _, _, 0, r => by simpa using RpAll.nil
  | _, _, n + 1, .nil => by simpa using RpAll.nil
  | _, _, n + 1, .cons h r => by simpa using RpAll.cons h (RpAll.take n r)
theorem RpAll.at {vs : List V} {ds : List PD} {i : Int} {d : PD} (r : RpAll H vs ds) (h : atI ds i = some d) : ∃ v, atI vs i = some v ∧ Rp H v d := by
  unfold atI at h ⊢
  rw [r.length]
  cases e : ixN ds.length i with
  | none => rw [e] at h; cases h
  | some j =>
    rw [e] at h
    exact r.get (i := j) h
theorem RpAll.set : ∀ {vs : List V} {ds : List PD} {v : V} {d : PD} (n : Nat), RpAll H vs ds → Rp H v d → RpAll H (vs.set n v) (ds.set n d)
  | _, _, _, _, _, .nil, _ => by simpa using RpAll.nil
  | _, _, _, _, 0, .cons _ r, h => by simpa using RpAll.cons h r
  | _, _, _, _, n + 1, .cons h0 r, h => by simpa using RpAll.cons h0 (RpAll.set n r h)
theorem RpAll.rep {vs : List V} {ds : List PD} (r : RpAll H vs ds) : ∀ n, RpAll H (List.replicate n vs).flatten (List.replicate n ds).flatten
  | 0 => .nil
  | n + 1 => by
    rw [List.replicate_succ, List.replicate_succ, List.flatten_cons, List.flatten_cons]
    exact r.append (RpAll.rep r n)
def unI : List PD → Option (List Int)
  | [] => some []
  | .int i :: r => (unI r).map (i :: ·)
  | _ => none
def unB : List PD → Option (List Bool)
  | [] => some []
  | .bool b :: r => (unB r).map (b :: ·)
  | _ => none
theorem unI_map : ∀ ns : List Int, unI (ns.map PyData.int) = some ns
  | [] => rfl
  | n :: ns => by rw [List.map_cons, unI, unI_map ns]; rfl
theorem unB_map : ∀ ns : List Bool, unB (ns.map PyData.bool) = some ns
  | [] => rfl
  | n :: ns => by rw [List.map_cons, unB, unB_map ns]; rfl
theorem unI_eq : ∀ {ds : List PD} {ns : List Int}, unI ds = some ns → ds = ns.map PyData.int
  | [], ns, h => by cases h; rfl
  | .int i :: r, ns, h => by
    unfold unI at h
    cases q : unI r with
    | none => rw [q] at h; cases h
    | some ms =>
      rw [q] at h
      cases h
      rw [unI_eq q]
      rfl
  | .none :: _, _, h => by cases h
  | .bool _ :: _, _, h => by cases h
  | .str _ :: _, _, h => by cases h
  | .list _ :: _, _, h => by cases h
  | .tuple _ :: _, _, h => by cases h
  | .dict _ :: _, _, h => by cases h
theorem unB_eq : ∀ {ds : List PD} {ns : List Bool}, unB ds = some ns → ds = ns.map PyData.bool
  | [], ns, h => by cases h; rfl
  | .bool i :: r, ns, h => by
    unfold unB at h
    cases q : unB r with
    | none => rw [q] at h; cases h
    | some ms =>
      rw [q] at h
      cases h
      rw [unB_eq q]
      rfl
  | .none :: _, _, h => by cases h
  | .int _ :: _, _, h => by cases h
  | .str _ :: _, _, h => by cases h
  | .list _ :: _, _, h => by cases h
  | .tuple _ :: _, _, h => by cases h
  | .dict _ :: _, _, h => by cases h
theorem RpAll.ints : ∀ {vs : List V} {ns : List Int}, RpAll H vs (ns.map PyData.int) → vs = ns.map V.int
  | _, [], .nil => rfl
  | _, n :: ns, .cons (.int _) r => by rw [RpAll.ints r]; rfl
theorem RpAll.bools : ∀ {vs : List V} {bs : List Bool}, RpAll H vs (bs.map PyData.bool) → vs = bs.map V.bl
  | _, [], .nil => rfl
  | _, n :: ns, .cons (.bl _) r => by rw [RpAll.bools r]; rfl
theorem RpAll.ofInts : ∀ (ns : List Int), RpAll H (ns.map V.int) (ns.map PyData.int)
  | [] => .nil
  | n :: ns => .cons (.int n) (RpAll.ofInts ns)
end
omit kk in
theorem zip_str {ks : List Str} {ds : List PD} {ps : List (PD × PD)} (h : ps = (ks.map PyData.str).zip ds) : ps = [] ∨ ∃ k d r, ps = (PyData.str k, d) :: r := by
  subst h
  cases ks with
  | nil => exact .inl rfl
  | cons k ks => cases ds with
    | nil => exact .inl rfl
    | cons d ds => exact .inr ⟨k, d, _, rfl⟩
mutual
def scrF : PD → Bool
  | .none | .bool _ | .int _ | .str _ => true
  | .list xs | .tuple xs => scrFs xs
  | .dict kvs => scrFk kvs
def scrFs : List PD → Bool
  | [] => true
  | x :: xs => scrF x && scrFs xs
def scrFk : List (PD × PD) → Bool
  | [] => true
  | (k, v) :: r => (match k with | .str _ => true | _ => false) && scrF v && scrFk r
end
theorem scrFk_zip : ∀ {ks : List Str} {ds : List PD}, ks.length = ds.length → scrFk ((ks.map PyData.str).zip ds) = scrFs ds
  | [], [], _ => rfl
  | k :: ks, d :: ds, h => by
    show (true && scrF d && scrFk ((ks.map PyData.str).zip ds)) = (scrF d && scrFs ds)
    rw [scrFk_zip (by simpa using h), Bool.true_and]
section
variable {X : Cx} {pins : List (Addr × Obj)} {σ : L2.St} {H : Hp} {s : Shared}
theorem rm_keys {P : Program} {w : World} {g : Heap} : ∀ {ks : List Str} {xs : List V} {vs : List (Key × Value)} {es : List DictEntry}, ks.length = xs.length → KV ((ks.map Sum.inr).zip xs) vs → Pairs (mixKind P w) es vs → Rms g (es.map (·.key)) (ks.map PyData.str) ∧ Vals xs (es.map (·.val))
  | [], [], _, _, _, r, p => by
    cases r
    cases p
    exact ⟨.nil, .nil⟩
  | k :: ks, x :: xs, _, _, hl, r, p => by
    have r : KV ((Sum.inr k, x) :: (ks.map Sum.inr).zip xs) _ := r
    cases r with
    | cons h t =>
      cases p with
      | cons p1 p2 p3 =>
        obtain ⟨h1, h2⟩ := h
        obtain ⟨q1, q2⟩ := rm_keys (g := g) (by simpa using hl) t p3
        rcases keyIs_shape p1 with ⟨i, u, e, _⟩ | ⟨y, u, e, e2⟩
        · rw [← h1] at e; exact nomatch e
        · rw [← h1] at e
          have e : k = y := Sum.inr.inj e
          subst e
          refine ⟨?_, ?_⟩
          · refine Rms.cons (ds := ks.map PyData.str) ?_ q1
            show Rm g _ (PyData.str k)
            have z := Rm.str (h := g) k u
            rw [← e2] at z
            exact z
          · refine Paired.cons ?_ q2
            show RelV x _
            have z : RelV x _ := h2
            rw [← p2] at z
            exact z
mutual
theorem Rp.rm (I : L2.Inv X pins σ H s) : ∀ {v : V} {d : PD}, Rp H v d → scrF d = true → ∀ {u : Value}, RelV v u → Rm s.heap u d
  | _, _, .non, _, _, r => by cases r; exact .non
  | _, _, .bl b, _, _, r => by cases r; exact .bl b
  | _, _, .int i, _, _, r => by obtain ⟨t, rfl⟩ := r; exact .int i t
  | _, _, .str x, _, _, r => by obtain ⟨t, rfl⟩ := r; exact .str x t
  | _, _, .lst h ra, f, _, r => by
    cases r
    obtain ⟨its, rv, ⟨o, n, ho, hc, _, hd⟩, _⟩ := I.list (show SqL X.K H _ _ from .inl (.inl h))
    exact .lst ho hc hd (RpAll.rm I ra (by simpa [scrF] using f) rv)
  | _, _, .tup h _ ra, f, _, r => by
    cases r
    obtain ⟨its, rv, ⟨o, ho, hc, n, hd⟩, _⟩ := I.tuple (show SqT X.K H _ _ from .inl (.inr ⟨_, h⟩))
    exact .tup ho hc hd (RpAll.rm I ra (by simpa [scrF] using f) rv)
  | _, _, .dct (ks := ks) (xs := xs) (ds := ds) h hl hp ra, f, _, r => by
    cases r
    subst hp
    have ld : xs.length = ds.length := ra.length
    obtain ⟨_, sm, vs, rel, o, es, ep, h1, h2, h3, _, h5, _⟩ := dk_of I.hok h
    obtain ⟨k1, k2⟩ := rm_keys (g := s.heap) hl rel h5
    refine .dct h1 h2.1 h3 sm ?_ ?_
    · rw [List.map_fst_zip (by simp; omega)]; exact k1
    · rw [List.map_snd_zip (by simp; omega)]
      refine RpAll.rm I ra ?_ k2
      rw [← scrFk_zip (ks := ks) (by omega)]
      simpa [scrF] using f
  | _, _, .scr _ _, f, _, _ => by simp [scrF, scrFk] at f
  | _, _, .dci _ _ _, f, _, _ => by simp [scrF, scrFk] at f
theorem RpAll.rm (I : L2.Inv X pins σ H s) : ∀ {vs : List V} {ds : List PD}, RpAll H vs ds → scrFs ds = true → ∀ {us : List Value}, Vals vs us → Rms s.heap us ds
  | _, _, .nil, _, _, r => by cases r; exact .nil
  | _, _, .cons h t, f, _, r => by
    simp only [scrFs, Bool.and_eq_true] at f
    cases r with
    | cons r1 r2 => exact .cons (Rp.rm I h f.1 r1) (RpAll.rm I t f.2 r2)
end
end
abbrev VE := List (Option PD)
def En (H : Hp) (σ : L2.St) (ρ : VE) : Prop := σ.length = ρ.length ∧ ∀ (i : Nat) (d : PD), ρ[i]? = some (some d) → ∃ v, σ[i]? = some (some v) ∧ Rp H v d
section
variable {H H' : Hp} {σ : L2.St} {ρ : VE}
theorem En.ex (h : En H σ ρ) (e : Ex H H') : En H' σ ρ := ⟨h.1, fun i d hi => let ⟨v, h1, h2⟩ := h.2 i d hi; ⟨v, h1, h2.ex e⟩⟩
theorem En.set (h : En H σ ρ) (j : Nat) {v : V} {d : PD} (hr : Rp H v d) : En H (σ.set j (some v)) (ρ.set j (some d)) := by
  refine ⟨by rw [List.length_set, List.length_set]; exact h.1, fun i q hi => ?_⟩
  by_cases c : j = i
  · subst c
    have hl : j < ρ.length := by
      have := (List.getElem?_eq_some_iff.mp hi).1
      simpa using this
    rw [List.getElem?_set_self hl] at hi
    cases hi
    exact ⟨v, List.getElem?_set_self (by rw [h.1]; exact hl), hr⟩
  · rw [List.getElem?_set_ne c] at hi
    rw [List.getElem?_set_ne c]
    exact h.2 i q hi
theorem En.clear (h : En H σ ρ) (j : Nat) (o : Option V) : En H (σ.set j o) (ρ.set j none) := by
  refine ⟨by rw [List.length_set, List.length_set]; exact h.1, fun i q hi => ?_⟩
  by_cases c : j = i
  · subst c
    have hl : j < ρ.length := by
      have := (List.getElem?_eq_some_iff.mp hi).1
      simpa using this
    rw [List.getElem?_set_self hl] at hi
    cases hi
  · rw [List.getElem?_set_ne c] at hi
    rw [List.getElem?_set_ne c]
    exact h.2 i q hi
end
def Ed (te : TE) (ρ : VE) (d : PD) : Prop := ∀ S σ H, Al S H → En (hid S H) σ ρ → ∀ Q : VK, (∀ v H2, Ex H H2 → Rp (hid S H2) v d → Q v H2) → te σ H Q
def Et (tt : TT) (ρ : VE) (b : Bool) : Prop := ∀ S σ H, Al S H → En (hid S H) σ ρ → ∀ Q : Bool → Hp → Prop, (∀ H2, Ex H H2 → Q b H2) → tt σ H Q
def Ea (ta : TA) (ρ : VE) (ds : List PD) : Prop := ∀ S σ H, Al S H → En (hid S H) σ ρ → ∀ Q : List V → Hp → Prop, (∀ vs H2, Ex H H2 → RpAll (hid S H2) vs ds → Q vs H2) → ta σ H Q
def Ro (r : R2) (x y z : PD) : Prop := ∀ S H vx vy, Al S H → Rp (hid S H) vx x → Rp (hid S H) vy y → ∀ Q : VK, (∀ v H2, Ex H H2 → Rp (hid S H2) v z → Q v H2) → r vx vy H Q
def Ru (r : V → Hp → VK → Prop) (x z : PD) : Prop := ∀ S H vx, Al S H → Rp (hid S H) vx x → ∀ Q : VK, (∀ v H2, Ex H H2 → Rp (hid S H2) v z → Q v H2) → r vx H Q
def Rc (r : List V → Hp → VK → Prop) (xs : List PD) (z : PD) : Prop := ∀ S H vs, Al S H → RpAll (hid S H) vs xs → ∀ Q : VK, (∀ v H2, Ex H H2 → Rp (hid S H2) v z → Q v H2) → r vs H Q
abbrev XE := VE → Option PD
abbrev XT := VE → Option Bool
abbrev XA := VE → Option (List PD)
def SE (te : TE) (x : XE) : Prop := ∀ ρ d, x ρ = some d → Ed te ρ d
def ST (tt : TT) (x : XT) : Prop := ∀ ρ b, x ρ = some b → Et tt ρ b
def SA (ta : TA) (x : XA) : Prop := ∀ ρ ds, x ρ = some ds → Ea ta ρ ds
def SO (r : R2) (f : PD → PD → Option PD) : Prop := ∀ x y z, f x y = some z → Ro r x y z
def SU (r : V → Hp → VK → Prop) (f : PD → Option PD) : Prop := ∀ x z, f x = some z → Ru r x z
def SC (r : List V → Hp → VK → Prop) (f : List PD → Option PD) : Prop := ∀ xs z, f xs = some z → Rc r xs z
theorem bind_some {α β : Type} {a : Option α} {f : α → Option β} {z : β} (h : a.bind f = some z) : ∃ x, a = some x ∧ f x = some z := by
  cases a with
  | none => cases h
  | some x => exact ⟨x, rfl, h⟩
def xVar (i : Nat) : XE := fun ρ => (ρ[i]?).bind id
def xC (d : PD) : XE := fun _ => some d
def xOp (f : PD → PD → Option PD) (a b : XE) : XE := fun ρ => (a ρ).bind fun x => (b ρ).bind fun y => f x y
def xUn (f : PD → Option PD) (a : XE) : XE := fun ρ => (a ρ).bind f
def xNil : XA := fun _ => some []
def xCons (a : XE) (as : XA) : XA := fun ρ => (a ρ).bind fun x => (as ρ).bind fun xs => some (x :: xs)
def xTup (as : XA) : XE := fun ρ => (as ρ).bind fun ds => if ds.length ≤ 100000 then some (.tuple ds) else none
def xLst (as : XA) : XE := fun ρ => (as ρ).bind fun ds => if ds.length ≤ 100000 then some (.list ds) else none
def xCB (f : List PD → Option PD) (as : XA) : XE := fun ρ => (as ρ).bind f
def isB : PD → Option Bool
  | .bool b => some b
  | _ => none
theorem isB_eq {d : PD} {b : Bool} (h : isB d = some b) : d = .bool b := by
  cases d with
  | bool c => cases h; rfl
  | _ => cases h
def xB (a : XE) : XT := fun ρ => (a ρ).bind isB
def xTAnd (a b : XT) : XT := fun ρ => (a ρ).bind fun c => if c = true then b ρ else some false
def xTOr (a b : XT) : XT := fun ρ => (a ρ).bind fun c => if c = true then some true else b ρ
def xTNot (a : XT) : XT := fun ρ => (a ρ).bind fun c => some (!c)
def xYes : XT := fun _ => some true
def xAnd (a b : XE) : XE := fun ρ => ((a ρ).bind isB).bind fun c => if c = true then b ρ else some (.bool false)
def xOr (a b : XE) : XE := fun ρ => ((a ρ).bind isB).bind fun c => if c = true then some (.bool true) else b ρ
def xNot (a : XE) : XE := fun ρ => ((a ρ).bind isB).bind fun c => some (.bool (!c))
def xIf (c : XT) (a b : XE) : XE := fun ρ => (c ρ).bind fun k => if k = true then a ρ else b ρ
def xChain (f g : PD → PD → Option PD) (a b c : XE) : XE := fun ρ => (a ρ).bind fun x => (b ρ).bind fun y => ((f x y).bind isB).bind fun k => if k = true then (c ρ).bind fun z => g y z else some (.bool false)
section
variable {ta tb tc te : TE} {t u : TT} {ts : TA} {a b c x : XE} {p q : XT} {as : XA} {r r' : R2} {f g : PD → PD → Option PD}
theorem se_var {i : Nat} : SE (tVar i) (xVar i) := fun ρ d h S σ H _ en Q q => by
  obtain ⟨o, h1, h2⟩ := bind_some h
  cases h2
  obtain ⟨v, e, rv⟩ := en.2 i d h1
  exact ⟨v, e, q v H (Ex.refl H) rv⟩
theorem se_int {i : Int} : SE (tC (.int i)) (xC (.int i)) := fun ρ d h S σ H _ _ Q q => by cases h; exact q _ H (Ex.refl H) (.int i)
theorem se_bl {b : Bool} : SE (tC (.bl b)) (xC (.bool b)) := fun ρ d h S σ H _ _ Q q => by cases h; exact q _ H (Ex.refl H) (.bl b)
theorem se_non : SE (tC .non) (xC .none) := fun ρ d h S σ H _ _ Q q => by cases h; exact q _ H (Ex.refl H) .non
theorem se_str {s : Str} : SE (tC (.str s)) (xC (.str s)) := fun ρ d h S σ H _ _ Q q => by cases h; exact q _ H (Ex.refl H) (.str s)
theorem se_d0 : SE tDNewK (xC (.dict [])) := fun ρ d h S σ H al _ Q q => by
  cases h
  intro p hp
  exact q _ _ (Ex.new hp) (.dct (ks := []) (xs := []) (ds := []) (new_ok al hp) rfl rfl .nil)
def xD1 (k : Str) (a : XE) : XE := fun ρ => (a ρ).bind fun d => some (.dict [(.str k, d)])
theorem se_op (hr : SO r f) (ha : SE ta a) (hb : SE tb b) : SE (tOp r ta tb) (xOp f a b) := fun ρ d h S σ H al en Q q => by
  obtain ⟨x, h1, h⟩ := bind_some h
  obtain ⟨y, h2, h⟩ := bind_some h
  exact ha ρ x h1 S σ H al en _ fun vx H1 e1 rx => hb ρ y h2 S σ H1 (al.ex e1) (en.ex (hid_ex e1)) _ fun vy H2 e2 ry =>
    hr x y d h S H2 vx vy ((al.ex e1).ex e2) (rx.ex (hid_ex e2)) ry Q fun v H3 e3 rv => q v H3 ((e1.trans e2).trans e3) rv
theorem se_un {r : V → Hp → VK → Prop} {f : PD → Option PD} (hr : SU r f) (ha : SE ta a) : SE (tUn r ta) (xUn f a) := fun ρ d h S σ H al en Q q => by
  obtain ⟨x, h1, h⟩ := bind_some h
  exact ha ρ x h1 S σ H al en _ fun vx H1 e1 rx => hr x d h S H1 vx (al.ex e1) rx Q fun v H3 e3 rv => q v H3 (e1.trans e3) rv
theorem sa_nil : SA tNil xNil := fun ρ ds h S σ H _ _ Q q => by cases h; exact q [] H (Ex.refl H) .nil
theorem sa_cons (ha : SE ta a) (hs : SA ts as) : SA (tCons ta ts) (xCons a as) := fun ρ ds h S σ H al en Q q => by
  obtain ⟨x, h1, h⟩ := bind_some h
  obtain ⟨xs, h2, h⟩ := bind_some h
  cases h
  exact ha ρ x h1 S σ H al en _ fun v H1 e1 rv => hs ρ xs h2 S σ H1 (al.ex e1) (en.ex (hid_ex e1)) _ fun vs H2 e2 rs => q (v :: vs) H2 (e1.trans e2) (.cons (rv.ex (hid_ex e2)) rs)
theorem se_tup (hs : SA ts as) : SE (tTupF ts) (xTup as) := fun ρ d h S σ H al en Q q => by
  obtain ⟨ds, h1, h⟩ := bind_some h
  by_cases hl : ds.length ≤ 100000
  · rw [if_pos hl] at h
    cases h
    refine hs ρ ds h1 S σ H al en _ fun vs H1 e1 ra => ⟨by rw [ra.length]; exact Evl.sz_of hl, fun p o hp pl => q _ _ (e1.trans (Ex.new hp)) (.tup (new_ok (al.ex e1) hp) pl (ra.ex (hid_ex (Ex.new hp))))⟩
  · rw [if_neg hl] at h; cases h
theorem se_cb {r : List V → Hp → VK → Prop} {f : List PD → Option PD} (hr : SC r f) (hs : SA ts as) : SE (tCB r ts) (xCB f as) := fun ρ d h S σ H al en Q q => by
  obtain ⟨ds, h1, h⟩ := bind_some h
  exact hs ρ ds h1 S σ H al en _ fun vs H1 e1 rv => hr ds d h S H1 vs (al.ex e1) rv Q fun v H2 e2 r2 => q v H2 (e1.trans e2) r2
theorem st_B (ha : SE ta a) : ST (tB ta) (xB a) := fun ρ b h S σ H al en Q q => by
  obtain ⟨x, h1, h⟩ := bind_some h
  have e := isB_eq h
  subst e
  exact ha ρ _ h1 S σ H al en _ fun v H1 e1 rv => by cases rv; exact ⟨b, rfl, q H1 e1⟩
theorem st_test (ha : SE ta a) : ST (tTest ta) (xB a) := fun ρ b h S σ H al en Q q => by
  obtain ⟨x, h1, h⟩ := bind_some h
  have e := isB_eq h
  subst e
  exact ha ρ _ h1 S σ H al en _ fun v H1 e1 rv => by cases rv; exact ⟨b, rfl, q H1 e1⟩
theorem st_yes : ST tYes xYes := fun ρ b h S σ H al en Q q => by cases h; exact q H (Ex.refl H)
theorem st_not (ht : ST t p) : ST (tNot t) (xTNot p) := fun ρ b h S σ H al en Q q => by
  obtain ⟨c, h1, h⟩ := bind_some h
  cases h
  exact ht ρ c h1 S σ H al en _ fun H1 e1 => q H1 e1
theorem st_and (ht : ST t p) (hu : ST u q) : ST (tAnd t u) (xTAnd p q) := fun ρ b h S σ H al en Q k => by
  obtain ⟨c, h1, h⟩ := bind_some h
  refine ht ρ c h1 S σ H al en _ fun H1 e1 => ?_
  cases c with
  | true => exact hu ρ b h S σ H1 (al.ex e1) (en.ex (hid_ex e1)) Q fun H2 e2 => k H2 (e1.trans e2)
  | false => cases h; exact k H1 e1
theorem st_or (ht : ST t p) (hu : ST u q) : ST (tOr t u) (xTOr p q) := fun ρ b h S σ H al en Q k => by
  obtain ⟨c, h1, h⟩ := bind_some h
  refine ht ρ c h1 S σ H al en _ fun H1 e1 => ?_
  cases c with
  | true => cases h; exact k H1 e1
  | false => exact hu ρ b h S σ H1 (al.ex e1) (en.ex (hid_ex e1)) Q fun H2 e2 => k H2 (e1.trans e2)
theorem se_and (ha : SE ta a) (hb : SE tb b) : SE (tAndV ta tb) (xAnd a b) := fun ρ d h S σ H al en Q q => by
  obtain ⟨c, h1, h⟩ := bind_some h
  obtain ⟨x, h0, h1⟩ := bind_some h1
  have e := isB_eq h1
  subst e
  refine ha ρ _ h0 S σ H al en _ fun v H1 e1 rv => ?_
  cases rv
  refine ⟨c, rfl, ?_⟩
  cases c with
  | true => exact hb ρ d h S σ H1 (al.ex e1) (en.ex (hid_ex e1)) Q fun v H2 e2 r2 => q v H2 (e1.trans e2) r2
  | false => cases h; exact q _ H1 e1 (.bl false)
theorem se_not (ha : SE ta a) : SE (tNotV ta) (xNot a) := fun ρ d h S σ H al en Q q => by
  obtain ⟨c, h1, h⟩ := bind_some h
  obtain ⟨x, h0, h1⟩ := bind_some h1
  have e := isB_eq h1
  subst e
  cases h
  refine ha ρ _ h0 S σ H al en _ fun v H1 e1 rv => ?_
  cases rv
  exact ⟨c, rfl, q _ H1 e1 (.bl _)⟩
theorem se_chain (hr : SO r f) (hr' : SO r' g) (ha : SE ta a) (hb : SE tb b) (hc : SE tc c) : SE (tChain r r' ta tb tc) (xChain f g a b c) := fun ρ d h S σ H al en Q q => by
  obtain ⟨x, h1, h⟩ := bind_some h
  obtain ⟨y, h2, h⟩ := bind_some h
  obtain ⟨k, h3, h⟩ := bind_some h
  obtain ⟨w, h3, h4⟩ := bind_some h3
  have e := isB_eq h4
  subst e
  refine ha ρ x h1 S σ H al en _ fun vx H1 e1 rx => hb ρ y h2 S σ H1 (al.ex e1) (en.ex (hid_ex e1)) _ fun vy H2 e2 ry => hr x y _ h3 S H2 vx vy ((al.ex e1).ex e2) (rx.ex (hid_ex e2)) ry _ fun v H3 e3 rv => ?_
  cases rv
  refine ⟨k, rfl, ?_⟩
  have e13 := (e1.trans e2).trans e3
  cases k with
  | true =>
    obtain ⟨z, h5, h⟩ := bind_some h
    refine iteT (hc ρ z h5 S σ H3 (al.ex e13) (en.ex (hid_ex e13)) _ fun vz H4 e4 rz => ?_)
    exact hr' y z d h S H4 vy vz ((al.ex e13).ex e4) (ry.ex ((hid_ex e3).trans (hid_ex e4))) rz Q fun w H5 e5 rw' => q w H5 ((e13.trans e4).trans e5) rw'
  | false => cases h; exact iteF (q _ H3 e13 (.bl false))
end
end Uv

namespace Uv
open PySem PySem.Spec PyProof.Rows L2
open Evl (Ex)
variable [kk : KK]
theorem OpR.or {X : Cx} {f : Value → Value → Sem Value} {r r' : R2} (h : OpR X f r) (h' : OpR X f r') : OpR X f (fun x y H Q => r x y H Q ∨ r' x y H Q) := fun pins s σ H x y v u Q I rx ry q =>
  q.elim (h pins s σ H x y v u Q I rx ry) (h' pins s σ H x y v u Q I rx ry)
theorem CallR.or {X : Cx} {f : Value} {r r' : List V → Hp → VK → Prop} (h : CallR X f r) (h' : CallR X f r') : CallR X f (fun xs H Q => r xs H Q ∨ r' xs H Q) := fun pins s σ H xs us Q I rx q =>
  q.elim (h pins s σ H xs us Q I rx) (h' pins s σ H xs us Q I rx)
theorem SlR.or {X : Cx} {r r' : V → Option Int → Option Int → Hp → VK → Prop} (h : SlR X r) (h' : SlR X r') : SlR X (fun x lo hi H Q => r x lo hi H Q ∨ r' x lo hi H Q) := fun pins s σ H x v vl vu lo hi sl Q I rx hs pl pu q =>
  q.elim (h pins s σ H x v vl vu lo hi sl Q I rx hs pl pu) (h' pins s σ H x v vl vu lo hi sl Q I rx hs pl pu)
theorem PE.or {X : Cx} {e : Expr} {t u : TE} (h : PE X e t) (h' : PE X e u) : PE X e (fun σ H Q => t σ H Q ∨ u σ H Q) := ⟨fun pins s σ H Q I q => q.elim (h.run pins s σ H Q I) (h'.run pins s σ H Q I)⟩
theorem PI.or {X : Cx} {tg e : Expr} {t u : TI} (h : PI X tg e t) (h' : PI X tg e u) : PI X tg e (fun σ H Q => t σ H Q ∨ u σ H Q) := ⟨fun pins s σ H Q I q => q.elim (h.run pins s σ H Q I) (h'.run pins s σ H Q I)⟩
abbrev oSub : R2 := rI0 fun i j => .int (i - j)
abbrev oDivW : R2 := rI CDivW fun i j => .int (i / j)
abbrev oMod : R2 := rI (fun _ j => 0 < j) fun i j => .int (i % j)
abbrev oPow : R2 := rI CPow fun i j => .int (i ^ j.toNat)
abbrev oLt : R2 := rI0 fun i j => .bl (decide (i < j))
abbrev oLe : R2 := rI0 fun i j => .bl (decide (i ≤ j))
abbrev oGt : R2 := rI0 fun i j => .bl (decide (j < i))
abbrev oGe : R2 := rI0 fun i j => .bl (decide (j ≤ i))
abbrev oIsN : R2 := fun x y H Q => y = .non ∧ Q (.bl (decide (x = .non))) H
abbrev oNotN : R2 := fun x y H Q => y = .non ∧ Q (.bl (!decide (x = .non))) H
abbrev oNeg : V → Hp → VK → Prop := rU fun i => .int (-i)
abbrev rAbsQ : List V → Hp → VK → Prop := fun xs H Q => ∃ i, xs = [.int i] ∧ Q (.int (if i < 0 then -i else i)) H
abbrev rIntQ : List V → Hp → VK → Prop := fun xs H Q => (∃ i, xs = [.int i] ∧ Q (.int i) H) ∨ ∃ k, xs = [.bl k] ∧ Q (.int (if k then 1 else 0)) H
section
def addP : PD → PD → Option PD
  | .int i, .int j => some (.int (i + j))
  | .list xs, .list ys => if xs.length + ys.length ≤ 100000 then some (.list (xs ++ ys)) else none
  | .tuple xs, .tuple ys => if xs.length + ys.length ≤ 100000 then some (.tuple (xs ++ ys)) else none
  | _, _ => none
def rAddU (K : PySem.W.Frag) : R2 := fun x y H Q => rI0 (fun i j => .int (i + j)) x y H Q ∨ (rCat x y H Q ∨ rCatF K x y H Q)
theorem op_addU {X : Cx} : OpR X (binaryOp .Add) (rAddU X.K) := OpR.or op_add (OpR.or op_cat op_catF)
theorem so_add : SO (rAddU K) addP := fun x y z h S H vx vy al rx ry Q q => by
  cases rx with
  | int i =>
    cases ry with
    | int j =>
      cases h
      exact .inl ⟨i, j, rfl, rfl, q _ H (Ex.refl H) (.int _)⟩
    | _ => cases h
  | @lst a xs ds ha ra =>
    cases ry with
    | @lst b ys es hb rb =>
      have h : (if ds.length + es.length ≤ 100000 then some (PyData.list (ds ++ es)) else none) = some z := h
      by_cases c : ds.length + es.length ≤ 100000
      · rw [if_pos c] at h
        cases h
        refine .inr (.inl ⟨a, b, xs, ys, rfl, rfl, hid_le _ _ ha, hid_le _ _ hb, by rw [ra.length, rb.length]; exact Evl.sz_of c, fun p hp => q _ _ (Ex.new hp) (.lst (new_ok al hp) ((ra.append rb).ex (hid_ex (Ex.new hp))))⟩)
      · rw [if_neg c] at h; cases h
    | _ => cases h
  | @tup a o xs ds ha pa ra =>
    cases ry with
    | @tup b o' ys es hb pb rb =>
      have h : (if ds.length + es.length ≤ 100000 then some (PyData.tuple (ds ++ es)) else none) = some z := h
      by_cases c : ds.length + es.length ≤ 100000
      · rw [if_pos c] at h
        cases h
        refine .inr (.inr ⟨a, b, xs, ys, rfl, rfl, .inl (.inr ⟨_, hid_le _ _ ha⟩), .inl (.inr ⟨_, hid_le _ _ hb⟩), by rw [ra.length, rb.length]; exact Evl.sz_of c, fun e => ?_, fun _ e => ?_, fun _ _ p o hp pl => q _ _ (Ex.new hp) (.tup (new_ok al hp) pl ((ra.append rb).ex (hid_ex (Ex.new hp))))⟩)
        · subst e
          cases ra
          exact q _ H (Ex.refl H) (.tup hb pb rb)
        · subst e
          cases rb
          exact q _ H (Ex.refl H) (by rw [List.append_nil]; exact .tup ha pa ra)
      · rw [if_neg c] at h; cases h
    | _ => cases h
  | _ => cases h
def intF (f : Int → Int → Option PD) : PD → PD → Option PD
  | .int i, .int j => f i j
  | _, _ => none
theorem intF_eq {f : Int → Int → Option PD} {x y z : PD} (h : intF f x y = some z) : ∃ i j, x = .int i ∧ y = .int j ∧ f i j = some z := by
  cases x with
  | int i =>
    cases y with
    | int j => exact ⟨i, j, rfl, rfl, h⟩
    | _ => cases h
  | _ => cases h
theorem so_rI {C : Int → Int → Prop} {g : Int → Int → Int} {f : Int → Int → Option PD} (hf : ∀ i j z, f i j = some z → C i j ∧ z = .int (g i j)) : SO (rI C fun i j => .int (g i j)) (intF f) := fun x y z h S H vx vy al rx ry Q q => by
  obtain ⟨i, j, rfl, rfl, h⟩ := intF_eq h
  obtain ⟨h1, rfl⟩ := hf i j z h
  cases rx; cases ry
  exact ⟨i, j, rfl, rfl, h1, q _ H (Ex.refl H) (.int _)⟩
theorem so_rI0 {g : Int → Int → Int} : SO (rI0 fun i j => .int (g i j)) (intF fun i j => some (.int (g i j))) := fun x y z h S H vx vy al rx ry Q q => by
  obtain ⟨i, j, rfl, rfl, h⟩ := intF_eq h
  cases h
  cases rx; cases ry
  exact ⟨i, j, rfl, rfl, q _ H (Ex.refl H) (.int _)⟩
theorem so_rIb {g : Int → Int → Bool} : SO (rI0 fun i j => .bl (g i j)) (intF fun i j => some (.bool (g i j))) := fun x y z h S H vx vy al rx ry Q q => by
  obtain ⟨i, j, rfl, rfl, h⟩ := intF_eq h
  cases h
  cases rx; cases ry
  exact ⟨i, j, rfl, rfl, q _ H (Ex.refl H) (.bl _)⟩
def subP : PD → PD → Option PD := intF fun i j => some (.int (i - j))
def divP : PD → PD → Option PD := intF fun i j => if 0 < j ∧ j < 2 ^ 64 then some (.int (i / j)) else none
def modP : PD → PD → Option PD := intF fun i j => if 0 < j then some (.int (i % j)) else none
def powP : PD → PD → Option PD := intF fun i j => if 0 ≤ j ∧ j ≤ 1000 ∧ -(2 ^ 63) < i ∧ i < 2 ^ 63 then some (.int (i ^ j.toNat)) else none
def ltP : PD → PD → Option PD := intF fun i j => some (.bool (decide (i < j)))
def leP : PD → PD → Option PD := intF fun i j => some (.bool (decide (i ≤ j)))
def gtP : PD → PD → Option PD := intF fun i j => some (.bool (decide (j < i)))
def geP : PD → PD → Option PD := intF fun i j => some (.bool (decide (j ≤ i)))
theorem so_sub : SO oSub subP := so_rI0
theorem so_lt : SO oLt ltP := so_rIb
theorem so_le : SO oLe leP := so_rIb
theorem so_ge : SO oGe geP := so_rIb
theorem so_div : SO oDivW divP := so_rI fun i j z h => by
  by_cases c : 0 < j ∧ j < 2 ^ 64
  · rw [if_pos c] at h
    cases h
    exact ⟨⟨c.1, Nat.lt_of_lt_of_le (PySem.Flt.log2_lt_of (k := 64) (by decide) (by omega)) (by decide)⟩, rfl⟩
  · rw [if_neg c] at h; cases h
theorem so_mod : SO oMod modP := so_rI fun i j z h => by
  by_cases c : 0 < j
  · rw [if_pos c] at h
    cases h
    exact ⟨c, rfl⟩
  · rw [if_neg c] at h; cases h
theorem so_pow : SO oPow powP := so_rI fun i j z h => by
  by_cases c : 0 ≤ j ∧ j ≤ 1000 ∧ -(2 ^ 63) < i ∧ i < 2 ^ 63
  · rw [if_pos c] at h
    cases h
    exact ⟨⟨c.1, by omega, by omega⟩, rfl⟩
  · rw [if_neg c] at h; cases h
def mulP : PD → PD → Option PD
  | .int i, .int j => if (-(2 ^ 64) < i ∧ i < 2 ^ 64) ∨ (-(2 ^ 64) < j ∧ j < 2 ^ 64) then some (.int (i * j)) else none
  | .list xs, .int j => if 0 ≤ j ∧ j ≤ 100000 ∧ xs.length * j.toNat ≤ 100000 then some (.list (List.replicate j.toNat xs).flatten) else none
  | _, _ => none
def rMulU : R2 := fun x y H Q => rI CMul (fun i j => .int (i * j)) x y H Q ∨ rRep x y H Q
theorem op_mulU {X : Cx} : OpR X (binaryOp .Mult) rMulU := OpR.or op_mul op_rep
theorem so_mul : SO rMulU mulP := fun x y z h S H vx vy al rx ry Q q => by
  cases rx with
  | int i =>
    cases ry with
    | int j =>
      have h : (if (-(2 ^ 64) < i ∧ i < 2 ^ 64) ∨ (-(2 ^ 64) < j ∧ j < 2 ^ 64) then some (PyData.int (i * j)) else none) = some z := h
      by_cases c : (-(2 ^ 64) < i ∧ i < 2 ^ 64) ∨ (-(2 ^ 64) < j ∧ j < 2 ^ 64)
      · rw [if_pos c] at h
        cases h
        exact .inl ⟨i, j, rfl, rfl, c, q _ H (Ex.refl H) (.int _)⟩
      · rw [if_neg c] at h; cases h
    | _ => cases h
  | @lst a xs ds ha ra =>
    cases ry with
    | int j =>
      have h : (if 0 ≤ j ∧ j ≤ 100000 ∧ ds.length * j.toNat ≤ 100000 then some (PyData.list (List.replicate j.toNat ds).flatten) else none) = some z := h
      by_cases c : 0 ≤ j ∧ j ≤ 100000 ∧ ds.length * j.toNat ≤ 100000
      · rw [if_pos c] at h
        cases h
        refine .inr ⟨_, _, _, rfl, rfl, hid_le _ _ ha, by omega, by omega, ?_, fun p hp => q _ _ (Ex.new hp) (.lst (new_ok al hp) ((ra.rep j.toNat).ex (hid_ex (Ex.new hp))))⟩
        rw [ra.length]
        exact Evl.sz_of c.2.2
      · rw [if_neg c] at h; cases h
    | _ => cases h
  | _ => cases h
def negP : PD → Option PD
  | .int i => some (.int (-i))
  | _ => none
theorem su_neg : SU oNeg negP := fun x z h S H vx al rx Q q => by
  cases rx with
  | int i => cases h; exact ⟨i, rfl, q _ H (Ex.refl H) (.int _)⟩
  | _ => cases h
def eqE : PD → PD → Option PD
  | .tuple ds, .tuple [] => some (.bool ds.isEmpty)
  | .dict [], .str _ => some (.bool false)
  | .dict ((.str _, _) :: _), .str _ => some (.bool false)
  | _, _ => none
def eqP (x y : PD) : Option PD := if SeqAt.shaped x = true ∧ SeqAt.shaped y = true then some (.bool (PyData.eqv x y)) else eqE x y
def rEqX (K : PySem.W.Frag) : R2 := fun x y H Q => rEqD K x y H Q ∨ (∃ a b xs, x = .ref a ∧ y = .ref b ∧ SqT K H a xs ∧ SqT K H b [] ∧ Q (.bl xs.isEmpty) H) ∨ ∃ a kvs t, x = .ref a ∧ y = .str t ∧ H a = some (.dK kvs) ∧ Q (.bl false) H
theorem op_eqX {X : Cx} (hu : X.A.units + 64 < cLine) : OpR X (compareOp .Eq) (rEqX X.K) := by
  intro pins s σ H x y v u Q I rx ry h
  rcases h with h | ⟨a, b, xs, rfl, rfl, ha, hb, q⟩ | ⟨a, kvs, t, rfl, rfl, ha, q⟩
  · exact op_eqD hu pins s σ H x y v u Q I rx ry h
  · cases rx
    cases ry
    obtain ⟨its, rv, ht, _⟩ := I.tuple ha
    obtain ⟨its2, rv2, ht2, _⟩ := I.tuple hb
    cases rv2
    refine SeqAt.RcAt.tuples (e := fun _ => true) ht ht2 (by omega) (fun j _ h2 => absurd h2 (by simp)) X.prog X.w X.xe _ ⟨.bl _, H, I, ?_, q⟩
    show Value.bool _ = Value.bool _
    cases rv with
    | nil => rfl
    | cons h t => simp
  · cases rx
    obtain ⟨tk, rfl⟩ := ry
    obtain ⟨_, _, vs, _, o, es, ep, h1, h2, h3, _⟩ := dk_of I.hok ha
    obtain ⟨cls, dd, data, sl⟩ := o
    obtain ⟨c1, c2, c3⟩ := h2
    simp only at c1 h3
    subst c1 h3
    exact dct_str t tk h1 (by omega) X.prog X.w X.xe _ ⟨.bl false, H, I, rfl, q⟩
def neP (x y : PD) : Option PD := if SeqAt.shaped x = true ∧ SeqAt.shaped y = true then some (.bool (!PyData.eqv x y)) else none
theorem nodict {d : PD} (h : SeqAt.shaped d = true) : d.hasDict = false := by
  unfold SeqAt.shaped at h
  rw [Bool.and_eq_true] at h
  exact PyData.hasDict_of_canLay d h.1
theorem so_eq : SO (rEqX K) eqP := fun x y z h S H vx vy al rx ry Q q => by
  unfold eqP at h
  by_cases c : SeqAt.shaped x = true ∧ SeqAt.shaped y = true
  · rw [if_pos c] at h
    cases h
    exact .inl ⟨x, y, (rx.ex hid_le).dp (nodict c.1), (ry.ex hid_le).dp (nodict c.2), c.1, c.2, q _ H (Ex.refl H) (.bl _)⟩
  · rw [if_neg c] at h
    unfold eqE at h
    split at h
    · cases h
      cases rx with
      | @tup a o xs _ hx _ ra =>
        cases ry with
        | @tup b o2 ys ds2 hy _ rb =>
          cases rb
          have qq := q (.bl xs.isEmpty) H (Ex.refl H)
          refine .inr (.inl ⟨a, b, xs, rfl, rfl, .inl (.inr ⟨_, hid_le _ _ hx⟩), .inl (.inr ⟨_, hid_le _ _ hy⟩), qq ?_⟩)
          cases ra with
          | nil => exact .bl _
          | cons _ _ => exact .bl _
    · cases h
      cases ry
      cases rx with
      | dct hx _ _ _ => exact .inr (.inr ⟨_, _, _, rfl, rfl, hid_le _ _ hx, q _ H (Ex.refl H) (.bl _)⟩)
    · cases h
      cases ry
      cases rx with
      | dct hx _ _ _ => exact .inr (.inr ⟨_, _, _, rfl, rfl, hid_le _ _ hx, q _ H (Ex.refl H) (.bl _)⟩)
    · cases h
theorem so_ne : SO (rNeD K) neP := fun x y z h S H vx vy al rx ry Q q => by
  unfold neP at h
  by_cases c : SeqAt.shaped x = true ∧ SeqAt.shaped y = true
  · rw [if_pos c] at h
    cases h
    exact ⟨x, y, (rx.ex hid_le).dp (nodict c.1), (ry.ex hid_le).dp (nodict c.2), c.1, c.2, q _ H (Ex.refl H) (.bl _)⟩
  · rw [if_neg c] at h; cases h
def isNone : PD → Bool
  | .none => true
  | _ => false
theorem isNone_of {H : Hp} {v : V} {d : PD} (r : Rp H v d) : decide (v = .non) = isNone d := by cases r <;> rfl
def rInTu (K : PySem.W.Frag) : R2 := fun x y H Q => ∃ d ds, Dp K H x d ∧ Dp K H y (.tuple ds) ∧ SeqAt.shaped d = true ∧ SeqAt.shaped (.tuple ds) = true ∧ Q (.bl (ds.any fun z => PyData.eqv z d)) H
theorem op_inTu {X : Cx} (hu : X.A.units + 65 < cLine) : OpR X (compareOp .In) (rInTu X.K) := by
  intro pins s σ H x y v u Q I rx ry h
  obtain ⟨d, ds, h1, h2, s1, s2, q⟩ := h
  obtain ⟨as, r1⟩ := Dp.reads I d x v h1 rx
  obtain ⟨bs, r2⟩ := Dp.reads I (.tuple ds) y u h2 ry
  exact SeqAt.in_tuple_reads r2 r1 (SeqAt.canLay_of_shaped s2) (SeqAt.canLay_of_shaped s1) (room_in_shaped s1 hu) ⟨.bl _, H, I, rfl, q⟩
def rNotInTu (K : PySem.W.Frag) : R2 := fun x y H Q => ∃ d ds, Dp K H x d ∧ Dp K H y (.tuple ds) ∧ SeqAt.shaped d = true ∧ SeqAt.shaped (.tuple ds) = true ∧ Q (.bl (!ds.any fun z => PyData.eqv z d)) H
def rInU (K : PySem.W.Frag) : R2 := fun x y H Q => rInD K x y H Q ∨ rInTu K x y H Q
theorem op_inU {X : Cx} (hu : X.A.units + 65 < cLine) : OpR X (compareOp .In) (rInU X.K) := OpR.or (op_inD hu) (op_inTu hu)
def inP (x y : PD) : Option PD := if SeqAt.shaped x = true ∧ SeqAt.shaped y = true then match y with
  | .list ds => some (.bool (ds.any fun z => PyData.eqv z x))
  | .tuple ds => some (.bool (ds.any fun z => PyData.eqv z x))
  | _ => none else none
theorem so_in : SO (rInU K) inP := fun x y z h S H vx vy al rx ry Q q => by
  unfold inP at h
  by_cases c : SeqAt.shaped x = true ∧ SeqAt.shaped y = true
  · rw [if_pos c] at h
    cases y with
    | list ds =>
      cases h
      exact .inl ⟨x, ds, (rx.ex hid_le).dp (nodict c.1), (ry.ex hid_le).dp (nodict c.2), c.1, c.2, q _ H (Ex.refl H) (.bl _)⟩
    | tuple ds =>
      cases h
      exact .inr ⟨x, ds, (rx.ex hid_le).dp (nodict c.1), (ry.ex hid_le).dp (nodict c.2), c.1, c.2, q _ H (Ex.refl H) (.bl _)⟩
    | _ => cases h
  · rw [if_neg c] at h; cases h
def ixP : PD → PD → Option PD
  | .tuple ds, .int i => atI ds i
  | .list ds, .int i => atI ds i
  | .dict [(.none, .list ds)], .int i => atI ds i
  | _, _ => none
theorem so_ix : SO (rIx K) ixP := fun x y z h S H vx vy al rx ry Q q => by
  cases rx with
  | lst ha ra =>
    cases ry with
    | int i =>
      obtain ⟨v, h1, h2⟩ := ra.at h
      exact .inl ⟨_, _, i, v, rfl, rfl, .inl (.inl (hid_le _ _ ha)), h1, q v H (Ex.refl H) h2⟩
    | _ => cases h
  | tup ha _ ra =>
    cases ry with
    | int i =>
      obtain ⟨v, h1, h2⟩ := ra.at h
      exact .inr (.inl ⟨_, _, i, v, rfl, rfl, .inl (.inr ⟨_, hid_le _ _ ha⟩), h1, q v H (Ex.refl H) h2⟩)
    | _ => cases h
  | scr hs ra =>
    cases ry with
    | int i =>
      obtain ⟨v, h1, h2⟩ := ra.at h
      exact .inl ⟨_, _, i, v, rfl, rfl, sqx hid_le hs, h1, q v H (Ex.refl H) h2⟩
    | _ => cases h
  | dct _ _ hp _ => rcases zip_str hp with e | ⟨k, d, r, e⟩ <;> (subst e; cases h)
  | _ => cases h
abbrev XO := VE → Option (Option Int)
def Eo (to : TO) (ρ : VE) (o : Option Int) : Prop := ∀ S σ H, Al S H → En (hid S H) σ ρ → ∀ Q : Option Int → Hp → Prop, (∀ H2, Ex H H2 → Q o H2) → to σ H Q
def SP (to : TO) (x : XO) : Prop := ∀ ρ o, x ρ = some o → Eo to ρ o
def xNoPart : XO := fun _ => some none
def xPart (a : XE) : XO := fun ρ => (a ρ).bind fun d => match d with
  | .int i => some (some i)
  | _ => none
theorem sp_none : SP tNoPart xNoPart := fun ρ o h S σ H al en Q q => by cases h; exact q H (Ex.refl H)
theorem sp_some {ta : TE} {a : XE} (ha : SE ta a) : SP (tPart ta) (xPart a) := fun ρ o h S σ H al en Q q => by
  obtain ⟨d, h1, h⟩ := bind_some h
  cases d with
  | int i =>
    cases h
    exact ha ρ _ h1 S σ H al en _ fun v H1 e1 rv => by cases rv; exact ⟨i, rfl, q H1 e1⟩
  | _ => cases h
def cutD (ds : List PD) (lo hi : Option Int) : List PD := (ds.drop (HT.sIx ds.length 0 lo)).take (HT.sIx ds.length ds.length hi - HT.sIx ds.length 0 lo)
def slP : PD → Option Int → Option Int → Option PD
  | .list ds, lo, hi => some (.list (cutD ds lo hi))
  | .tuple ds, lo, hi => some (.tuple (cutD ds lo hi))
  | .dict [(.none, .list ds)], lo, hi => some (.list (cutD ds lo hi))
  | _, _, _ => none
def rSlU (K : PySem.W.Frag) : V → Option Int → Option Int → Hp → VK → Prop := fun x lo hi H Q => rSlL K x lo hi H Q ∨ rSlF K x lo hi H Q
theorem sl_U {X : Cx} : SlR X (rSlU X.K) := SlR.or sl_list sl_tupF
def xSl (a : XE) (lo hi : XO) : XE := fun ρ => (a ρ).bind fun d => (lo ρ).bind fun l => (hi ρ).bind fun h => slP d l h
theorem RpAll.cut {H : Hp} {vs : List V} {ds : List PD} (r : RpAll H vs ds) (lo hi : Option Int) : RpAll H (cutV vs lo hi) (cutD ds lo hi) := by
  unfold cutV cutD
  rw [r.length]
  exact (r.drop _).take _
end
end Uv

namespace Uv
open PySem PySem.Spec PyProof.Rows L2
open Evl (Ex)
variable [kk : KK]
theorem op_notInTu {X : Cx} (hu : X.A.units + 65 < cLine) : OpR X (compareOp .NotIn) (rNotInTu X.K) := by
  intro pins s σ H x y v u Q I rx ry ⟨d, ds, h1, h2, s1, s2, q⟩
  obtain ⟨as, r1⟩ := Dp.reads I d x v h1 rx
  obtain ⟨bs, r2⟩ := Dp.reads I (.tuple ds) y u h2 ry
  exact SeqAt.notIn_tuple_reads r2 r1 (SeqAt.canLay_of_shaped s2) (SeqAt.canLay_of_shaped s1) (room_in_shaped s1 hu) ⟨.bl _, H, I, rfl, q⟩
def rNotInU (K : PySem.W.Frag) : R2 := fun x y H Q => rNotInD K x y H Q ∨ rNotInTu K x y H Q
theorem op_notInU {X : Cx} (hu : X.A.units + 65 < cLine) : OpR X (compareOp .NotIn) (rNotInU X.K) := OpR.or (op_notInD hu) (op_notInTu hu)
def notinP (x y : PD) : Option PD := if SeqAt.shaped x = true ∧ SeqAt.shaped y = true then match y with
  | .list ds => some (.bool (!ds.any fun z => PyData.eqv z x))
  | .tuple ds => some (.bool (!ds.any fun z => PyData.eqv z x))
  | _ => none else none
section
theorem so_notin : SO (rNotInU K) notinP := fun x y z h S H vx vy al rx ry Q q => by
  unfold notinP at h
  by_cases c : SeqAt.shaped x = true ∧ SeqAt.shaped y = true
  · rw [if_pos c] at h
    cases y with
    | list ds =>
      cases h
      exact .inl ⟨x, ds, (rx.ex hid_le).dp (nodict c.1), (ry.ex hid_le).dp (nodict c.2), c.1, c.2, q _ H (Ex.refl H) (.bl _)⟩
    | tuple ds =>
      cases h
      exact .inr ⟨x, ds, (rx.ex hid_le).dp (nodict c.1), (ry.ex hid_le).dp (nodict c.2), c.1, c.2, q _ H (Ex.refl H) (.bl _)⟩
    | _ => cases h
  · rw [if_neg c] at h; cases h
def on1 (f : PD → Option PD) : List PD → Option PD
  | [x] => f x
  | _ => none
def on2 (f : PD → PD → Option PD) : List PD → Option PD
  | [x, y] => f x y
  | _ => none
theorem on1_eq {f : PD → Option PD} {xs : List PD} {z : PD} (h : on1 f xs = some z) : ∃ x, xs = [x] ∧ f x = some z := by
  match xs, h with
  | [x], h => exact ⟨x, rfl, h⟩
  | [], h => cases h
  | _ :: _ :: _, h => cases h
theorem sc_on1 {r : List V → Hp → VK → Prop} {f : PD → Option PD} (hf : ∀ x z, f x = some z → ∀ S H v, Al S H → Rp (hid S H) v x → ∀ Q : VK, (∀ v H2, Ex H H2 → Rp (hid S H2) v z → Q v H2) → r [v] H Q) : SC r (on1 f) := fun xs z h S H vs al rv Q q => by
  obtain ⟨x, rfl, h⟩ := on1_eq h
  cases rv with
  | cons h1 t => cases t; exact hf x z h S H _ al h1 Q q
def rLenQ (K : PySem.W.Frag) : List V → Hp → VK → Prop := fun xs H Q => ∃ p ys, xs = [.ref p] ∧ (SqL K H p ys ∨ SqT K H p ys) ∧ Q (.int ys.length) H
def lenP : PD → Option PD
  | .list ds => some (.int (ds.length : Nat))
  | .tuple ds => some (.int (ds.length : Nat))
  | .dict [(.none, .list ds)] => some (.int (ds.length : Nat))
  | _ => none
theorem sc_len : SC (rLenQ K) (on1 lenP) := sc_on1 fun x z h S H v al rv Q q => by
  cases rv with
  | lst ha ra => cases h; exact ⟨_, _, rfl, .inl (.inl (.inl (hid_le _ _ ha))), q _ H (Ex.refl H) (ra.length ▸ .int _)⟩
  | tup ha _ ra => cases h; exact ⟨_, _, rfl, .inr (.inl (.inr ⟨_, hid_le _ _ ha⟩)), q _ H (Ex.refl H) (ra.length ▸ .int _)⟩
  | scr hs ra => cases h; exact ⟨_, _, rfl, .inl (sqx hid_le hs), q _ H (Ex.refl H) (ra.length ▸ .int _)⟩
  | dct _ _ hp _ => rcases zip_str hp with e | ⟨k, d, r, e⟩ <;> (subst e; cases h)
  | _ => cases h
def absP : PD → Option PD
  | .int i => some (.int (if i < 0 then -i else i))
  | _ => none
theorem sc_abs : SC rAbsQ (on1 absP) := sc_on1 fun x z h S H v al rv Q q => by
  cases rv with
  | int i => cases h; exact ⟨i, rfl, q _ H (Ex.refl H) (.int _)⟩
  | _ => cases h
def toIntP : PD → Option PD
  | .int i => some (.int i)
  | .bool b => some (.int (if b then 1 else 0))
  | _ => none
theorem sc_int : SC rIntQ (on1 toIntP) := sc_on1 fun x z h S H v al rv Q q => by
  cases rv with
  | int i => cases h; exact .inl ⟨i, rfl, q _ H (Ex.refl H) (.int _)⟩
  | bl b => cases h; exact .inr ⟨b, rfl, q _ H (Ex.refl H) (.int _)⟩
  | _ => cases h
def intsP (f : List Int → Option PD) : PD → Option PD
  | .list ds => (unI ds).bind f
  | _ => none
def boolsP (f : List Bool → PD) : PD → Option PD
  | .list ds => (unB ds).bind fun bs => some (f bs)
  | _ => none
def sumP : PD → Option PD := intsP fun ns => some (.int ns.sum)
theorem sc_sum : SC (rSum K) (on1 sumP) := sc_on1 fun x z h S H v al rv Q q => by
  cases rv with
  | lst ha ra =>
    obtain ⟨ns, h1, h2⟩ := bind_some h
    have e := unI_eq h1
    subst e
    have e := ra.ints
    subst e
    cases h2
    exact ⟨_, ns, rfl, .inl (.inl (hid_le _ _ ha)), q _ H (Ex.refl H) (.int _)⟩
  | _ => cases h
def allP : PD → Option PD := boolsP fun bs => .bool (bs.all id)
theorem sc_all : SC (rAll K) (on1 allP) := sc_on1 fun x z h S H v al rv Q q => by
  cases rv with
  | lst ha ra =>
    obtain ⟨ns, h1, h2⟩ := bind_some h
    have e := unB_eq h1
    subst e
    have e := ra.bools
    subst e
    cases h2
    exact ⟨_, ns, rfl, .inl (.inl (hid_le _ _ ha)), q _ H (Ex.refl H) (.bl _)⟩
  | _ => cases h
def leastI : Int → List Int → Int
  | x, [] => x
  | x, y :: ys => leastI (if y < x then y else x) ys
def mostI : Int → List Int → Int
  | x, [] => x
  | x, y :: ys => mostI (if y > x then y else x) ys
theorem leastI_mem : ∀ (ys : List Int) (x : Int), leastI x ys ∈ x :: ys
  | [], x => List.mem_cons_self ..
  | y :: ys, x => by
    have z := leastI_mem ys (if y < x then y else x)
    unfold leastI
    by_cases c : y < x
    · rw [if_pos c] at z ⊢
      exact List.mem_cons_of_mem _ z
    · rw [if_neg c] at z ⊢
      rcases List.mem_cons.mp z with e | e
      · rw [e]; exact List.mem_cons_self ..
      · exact List.mem_cons_of_mem _ (List.mem_cons_of_mem _ e)
theorem leastI_le : ∀ (ys : List Int) (x : Int), ∀ y ∈ x :: ys, leastI x ys ≤ y
  | [], x, y, h => by
    have e : y = x := by simpa using h
    rw [e]
    exact Int.le_refl _
  | z :: ys, x, y, h => by
    unfold leastI
    have ih := leastI_le ys (if z < x then z else x)
    have i0 := ih _ (List.mem_cons_self ..)
    rcases List.mem_cons.mp h with e | h
    · subst e
      refine Int.le_trans i0 ?_
      split <;> omega
    · rcases List.mem_cons.mp h with e | h
      · subst e
        refine Int.le_trans i0 ?_
        split <;> omega
      · exact ih y (List.mem_cons_of_mem _ h)
def minL : List Int → Option PD
  | x :: xs => some (.int (leastI x xs))
  | [] => none
def maxL : List Int → Option PD
  | x :: xs => some (.int (mostI x xs))
  | [] => none
def minP : List PD → Option PD
  | [.list ds] => (unI ds).bind minL
  | [.int i, .int j] => some (.int (if j < i then j else i))
  | _ => none
def maxP : List PD → Option PD
  | [.list ds] => (unI ds).bind maxL
  | [.int i, .int j] => some (.int (if j > i then j else i))
  | _ => none
def rMinU (K : PySem.W.Frag) : List V → Hp → VK → Prop := fun xs H Q => rMin K xs H Q ∨ ∃ i j, xs = [.int i, .int j] ∧ Q (.int (if j < i then j else i)) H
theorem cr_minU {X : Cx} (hc : X.calm = true) : CallR X (.builtin "min") (rMinU X.K) := CallR.or (cr_min hc) (call_min2 hc)
theorem sc_min : SC (rMinU K) minP := fun xs z h S H vs al rv Q q => by
  unfold minP at h
  split at h
  · cases rv with
    | cons h1 t =>
      cases t
      cases h1 with
      | lst ha ra =>
        obtain ⟨ns, h1, h2⟩ := bind_some h
        have e := unI_eq h1
        subst e
        have e := ra.ints
        subst e
        cases ns with
        | nil => cases h2
        | cons n ns =>
          cases h2
          refine .inl ⟨_, n :: ns, rfl, .inl (.inl (hid_le _ _ ha)), Nat.succ_pos _, fun m m1 m2 => ?_⟩
          have e : m = leastI n ns := Int.le_antisymm (m2 _ (leastI_mem ns n)) (leastI_le ns n m m1)
          rw [e]
          exact q _ H (Ex.refl H) (.int _)
  · cases rv with
    | cons h1 t =>
      cases t with
      | cons h2 t =>
        cases t
        cases h1; cases h2; cases h
        exact .inr ⟨_, _, rfl, q _ H (Ex.refl H) (.int _)⟩
  · cases h
def tupP : PD → Option PD
  | .list ds => some (.tuple ds)
  | .tuple ds => some (.tuple ds)
  | _ => none
theorem sc_tup : SC (rTupF K) (on1 tupP) := sc_on1 fun x z h S H v al rv Q q => by
  cases rv with
  | lst ha ra => cases h; exact ⟨_, _, rfl, .inl ⟨.inl (.inl (hid_le _ _ ha)), fun l o hl pl => q _ _ (Ex.new hl) (.tup (new_ok al hl) pl (ra.ex (hid_ex (Ex.new hl))))⟩⟩
  | tup ha p ra => cases h; exact ⟨_, _, rfl, .inr ⟨.inl (.inr ⟨_, hid_le _ _ ha⟩), q _ H (Ex.refl H) (.tup ha p ra)⟩⟩
  | _ => cases h
def listP : PD → Option PD
  | .list ds => some (.list ds)
  | .tuple ds => some (.list ds)
  | _ => none
def tyN : PD → String
  | .none => "NoneType"
  | .bool _ => "bool"
  | .int _ => "int"
  | .str _ => "str"
  | .list _ => "list"
  | .tuple _ => "tuple"
  | .dict _ => "dict"
def full : PD → Bool
  | .dict ((.none, _) :: _) => true
  | _ => false
theorem Rp.ty {H : Hp} {v : V} {d : PD} (r : Rp H v d) (nf : full d = false) : TyX K H v (.type (tyN d)) := by
  cases r with
  | non => exact .base .non
  | bl b => exact .base (.bl b)
  | int i => exact .base (.int i)
  | str x => exact .base (.str x)
  | lst h _ => exact .base (.lst h)
  | tup h _ _ => exact .fTuple h
  | dct h _ _ _ => exact .base (.dK h)
  | dci h _ _ => exact .base (.dK h)
  | scr _ _ => cases nf
inductive Ty | int | bool | str | list | tuple | dict
def Ty.nm : Ty → String
  | .int => "int" | .bool => "bool" | .str => "str" | .list => "list" | .tuple => "tuple" | .dict => "dict"
def isTy : Ty → PD → Bool
  | .int, .int _ => true
  | .int, .bool _ => true
  | .bool, .bool _ => true
  | .str, .str _ => true
  | .list, .list _ => true
  | .tuple, .tuple _ => true
  | .dict, .dict _ => true
  | _, _ => false
theorem kit_c : ∀ t : Ty, kitB "NoneType" t.nm = some (isTy t .none) ∧ kitB "bool" t.nm = some (isTy t (.bool true)) ∧ kitB "int" t.nm = some (isTy t (.int 0)) ∧ kitB "str" t.nm = some (isTy t (.str (Str.ofString ""))) ∧ kitB "list" t.nm = some (isTy t (.list [])) ∧ kitB "tuple" t.nm = some (isTy t (.tuple [])) ∧ kitB "dict" t.nm = some (isTy t (.dict [])) := by
  intro t
  cases t <;> decide +kernel
theorem kit_of : ∀ (t : Ty) (d : PD), kitB (tyN d) t.nm = some (isTy t d) := by
  intro t d
  obtain ⟨h1, h2, h3, h4, h5, h6, h7⟩ := kit_c t
  cases d with
  | none => exact h1
  | bool b => exact h2.trans (by cases t <;> rfl)
  | int i => exact h3.trans (by cases t <;> rfl)
  | str x => exact h4.trans (by cases t <;> rfl)
  | list xs => exact h5.trans (by cases t <;> rfl)
  | tuple xs => exact h6.trans (by cases t <;> rfl)
  | dict xs => exact h7.trans (by cases t <;> rfl)
def xIsi (t : Ty) (a : XE) : XE := fun ρ => (a ρ).bind fun d => if full d = true then none else some (.bool (isTy t d))
theorem se_isi {ta : TE} {a : XE} {n : String} (t : Ty) (hn : t.nm = n) (ha : SE ta a) : SE (tCB (rIsi K) (tCons ta (tCons (tC (.ty n)) tNil))) (xIsi t a) := fun ρ d h S σ H al en Q q => by
  obtain ⟨x, h1, h⟩ := bind_some h
  have nf : full x = false := by
    cases q : full x with
    | true => rw [if_pos q] at h; cases h
    | false => rfl
  rw [if_neg (by rw [nf]; exact Bool.false_ne_true)] at h
  cases h
  subst hn
  exact ha ρ x h1 S σ H al en _ fun v H1 e1 rv => ⟨_, .ty t.nm, _, .type t.nm, isTy t x, rfl, .ty t.nm, (rv.ex hid_le).ty nf, kit_ty (kit_of t x), q _ H1 e1 (.bl _)⟩
def rRepr (K : PySem.W.Frag) : List V → Hp → VK → Prop := fun vs H Q => ∃ v d, vs = [v] ∧ Rp H v d ∧ d.showable = true ∧ scrF d = true ∧ d.depth ≤ 60 ∧ d.shown.length ≤ sizeLine ∧ Q (.str d.shown) H
theorem cr_repr {X : Cx} (hg : X.A.guards = some []) (hu : X.A.units + 65 < cLine) : CallR X (.builtin "repr") (rRepr X.K) := by
  intro pins s σ H vs us Q I r h
  obtain ⟨v, d, rfl, hd, sh, nd, dp, sz, q⟩ := h
  obtain ⟨u, rfl, ru⟩ : ∃ u, us = [u] ∧ RelV v u := by
    cases r with
    | cons p t => cases t; exact ⟨_, rfl, p⟩
  have rd := Rp.rm I hd nd ru
  have fin : ∀ h' tk t, (∀ b o, s.heap.get? b = some o → h'.get? b = some o) → ∃ v H', L2.Inv X pins σ H' { s with heap := h', toks := tk } ∧ RelV v (.str d.shown t) ∧ Q v H' := fun h' tk t hk => ⟨.str _, H, I.kept hk, ⟨_, rfl⟩, q⟩
  cases rd with
  | non => exact P.repr_of_none (fin s.heap _ _ fun _ _ e => e)
  | bl b => exact P.repr_of_bool (by cases b <;> exact fin s.heap _ _ fun _ _ e => e)
  | int i t => exact P.repr_of_int (by simpa [PyData.showable] using sh) (fin s.heap _ _ fun _ _ e => e)
  | str x t => exact P.repr_of_str (fin s.heap _ _ fun _ _ e => e) sz
  | lst h1 h2 h3 h4 => exact Rm.repr (.lst h1 h2 h3 h4) sh hg (by omega) (fun h' u tk hk => fin h' tk u hk) sz
  | tup h1 h2 h3 h4 => exact Rm.repr (.tup h1 h2 h3 h4) sh hg (by omega) (fun h' u tk hk => fin h' tk u hk) sz
  | dct h1 h2 h3 h4 h5 h6 => exact Rm.repr (.dct h1 h2 h3 h4 h5 h6) sh hg (by omega) (fun h' u tk hk => fin h' tk u hk) sz
def CanShow (d : PD) : Prop := d.showable = true ∧ scrF d = true ∧ d.depth ≤ 60 ∧ d.shown.length ≤ sizeLine
instance {d : PD} : Decidable (CanShow d) := inferInstanceAs (Decidable (_ ∧ _))
def reprP (d : PD) : Option PD := if CanShow d then some (.str d.shown) else none
theorem sc_repr : SC (rRepr K) (on1 reprP) := sc_on1 fun x z h S H v al rv Q q => by
  unfold reprP at h
  by_cases c : CanShow x
  · rw [if_pos c] at h
    cases h
    exact ⟨v, x, rfl, rv.ex hid_le, c.1, c.2.1, c.2.2.1, c.2.2.2, q _ H (Ex.refl H) (.str _)⟩
  · rw [if_neg c] at h; cases h
def idxP (x y : PD) : Option PD := match x, y with
  | .tuple ds, .int m => (unI ds).bind fun ns => if m ∈ ns then some (.int (ns.idxOf m : Nat)) else none
  | .list ds, y => if SeqAt.shaped (.list ds) = true ∧ SeqAt.shaped y = true then match ds.findIdx? fun z => PyData.eqv z y with
    | some j => some (.int (j : Nat))
    | none => none
    else none
  | _, _ => none
def tIdx (K : PySem.W.Frag) (to : TE) (t : TA) : TE := fun σ H Q => tBMF (rIndexF K) to t σ H Q ∨ tBM K "list" (rIndexD K) to t σ H Q
def xIdx (a b : XE) : XE := xOp idxP a b
theorem se_idx {ta tb : TE} {a b : XE} (ha : SE ta a) (hb : SE tb b) : SE (tIdx K ta (tCons tb tNil)) (xIdx a b) := fun ρ d h S σ H al en Q q => by
  obtain ⟨x, h1, h⟩ := bind_some h
  obtain ⟨y, h2, h⟩ := bind_some h
  cases x with
  | tuple ds =>
    cases y with
    | int m =>
      obtain ⟨ns, h3, h4⟩ := bind_some h
      have e := unI_eq h3
      subst e
      by_cases c : m ∈ ns
      · rw [if_pos c] at h4
        cases h4
        refine .inl (ha ρ _ h1 S σ H al en _ fun v H1 e1 rv => ?_)
        generalize ed : PyData.tuple (ns.map PyData.int) = dd at rv
        cases rv with
        | tup hx pl ra =>
          cases ed
          refine ⟨⟨_, _, _, rfl, hid_le _ _ hx, pl⟩, hb ρ _ h2 S σ H1 (al.ex e1) (en.ex (hid_ex e1)) _ fun w H2 e2 rw' => ?_⟩
          cases rw'
          have e := ra.ints
          subst e
          exact ⟨_, ns, m, rfl, rfl, .inl (.inr ⟨_, hid_le _ _ (hid_ex e2 _ _ hx)⟩), c, q _ H2 (e1.trans e2) (.int _)⟩
        | _ => cases ed
      · rw [if_neg c] at h4; cases h4
    | _ => cases h
  | list ds =>
    have h : (if SeqAt.shaped (.list ds) = true ∧ SeqAt.shaped y = true then match ds.findIdx? fun z => PyData.eqv z y with
      | some j => some (PyData.int (j : Nat))
      | none => none
      else none) = some d := by cases y <;> exact h
    by_cases c : SeqAt.shaped (.list ds) = true ∧ SeqAt.shaped y = true
    · rw [if_pos c] at h
      cases hj : ds.findIdx? fun z => PyData.eqv z y with
      | none => rw [hj] at h; cases h
      | some j =>
        rw [hj] at h
        cases h
        obtain ⟨hlt, hy, hn⟩ := List.findIdx?_eq_some_iff_getElem.mp hj
        refine .inr (ha ρ _ h1 S σ H al en _ fun v H1 e1 rv => ?_)
        cases rv with
        | lst hx ra =>
          refine ⟨.inl ⟨rfl, _, .inl (.inl (hid_le _ _ hx))⟩, hb ρ _ h2 S σ H1 (al.ex e1) (en.ex (hid_ex e1)) _ fun w H2 e2 rw' => ?_⟩
          have hx2 := hid_ex (S := S) e2 _ _ hx
          refine ⟨_, w, y, ds, j, ds[j], rfl, rfl, ((Rp.lst hx2 (ra.ex (hid_ex e2))).ex hid_le).dp (nodict c.1), (rw'.ex hid_le).dp (nodict c.2), c.1, c.2, List.getElem?_eq_getElem hlt, hy, fun m z' hm hz => ?_, q _ H2 (e1.trans e2) (.int _)⟩
          obtain ⟨hm2, ez⟩ := List.getElem?_eq_some_iff.mp hz
          have hz2 := hn m hm
          subst ez
          simpa using hz2
    · rw [if_neg c] at h; cases h
  | _ => cases h
end
end Uv

namespace Uv
open PySem PySem.Spec PyProof.Rows L2
open Evl (Ex)
variable [kk : KK]
inductive Cel | dat (d : PD) | sub (ds : List PD)
def Cel.pd : Cel → PD
  | .dat d => d
  | .sub ds => .list ds
inductive Sl | un | dat (d : PD) | own (cs : List Cel) | dic (kvs : List (Int × PD))
abbrev Env := List Sl
def Sl.vw : Sl → Option PD
  | .un => none
  | .dat d => some d
  | .own cs => some (.list (cs.map Cel.pd))
  | .dic _ => none
def Sl.mk : Sl → Option PD
  | .dat d => some d
  | _ => none
def vw (ρ : Env) : VE := ρ.map Sl.vw
def mk (ρ : Env) : VE := ρ.map Sl.mk
abbrev Trs := Nat → List Addr
def SF (F : Hs) (T : Trs) : Hs := fun x => F x ∨ ∃ i, x ∈ T i
def FL (F : Hs) (L : List Addr) : Hs := fun x => F x ∨ x ∈ L
inductive Cels (G H : Hp) : List V → List Cel → List Addr → Prop
  | nil : Cels G H [] [] []
  | dat {v : V} {d : PD} {vs : List V} {cs : List Cel} {B : List Addr} : Rp G v d → Cels G H vs cs B → Cels G H (v :: vs) (.dat d :: cs) B
  | sub {b : Addr} {ws : List V} {ds : List PD} {vs : List V} {cs : List Cel} {B : List Addr} : H b = some (.lst ws) → RpAll G ws ds → Cels G H vs cs B → Cels G H (.ref b :: vs) (.sub ds :: cs) (b :: B)
def Own (G H : Hp) (v : V) (cs : List Cel) (A : List Addr) : Prop := ∃ a vs B, v = .ref a ∧ H a = some (.lst vs) ∧ Cels G H vs cs B ∧ A = a :: B
inductive Kvs (G : Hp) : List (Key × V) → List (Int × PD) → Prop
  | nil : Kvs G [] []
  | cons {k : Int} {v : V} {d : PD} {ks : List (Key × V)} {l : List (Int × PD)} : Rp G v d → Kvs G ks l → Kvs G ((.inl k, v) :: ks) ((k, d) :: l)
theorem Kvs.ex {G G' : Hp} (e : Ex G G') : ∀ {ks : List (Key × V)} {l : List (Int × PD)}, Kvs G ks l → Kvs G' ks l
  | _, _, .nil => .nil
  | _, _, .cons r c => .cons (r.ex e) (c.ex e)
def Dc (G H : Hp) (v : V) (l : List (Int × PD)) (A : List Addr) : Prop := ∃ a ks, v = .ref a ∧ H a = some (.dK ks) ∧ Kvs G ks l ∧ A = [a]
theorem Dc.mv {G G' H H' : Hp} (e : Ex G G') {v : V} {l : List (Int × PD)} {A : List Addr} (h : ∀ x ∈ A, H' x = H x) (o : Dc G H v l A) : Dc G' H' v l A := by
  obtain ⟨a, ks, rfl, ha, c, rfl⟩ := o
  exact ⟨a, ks, rfl, (h a (List.mem_cons_self ..)).trans ha, c.ex e, rfl⟩
def SlOk (G H : Hp) (o : Option V) (s : Sl) (A : List Addr) : Prop := match s with
  | .un => A = []
  | .dat d => A = [] ∧ ∃ v, o = some v ∧ Rp G v d
  | .own cs => ∃ v, o = some v ∧ Own G H v cs A
  | .dic l => ∃ v, o = some v ∧ Dc G H v l A
structure StOk (pn : Option V) (F : Hs) (T : Trs) (H : Hp) (σ : L2.St) (ρ : Env) : Prop where
  len : σ.length = ρ.length
  al : Al F H
  off : ∀ i x, x ∈ T i → ¬ F x
  dis : ∀ i j x, x ∈ T i → x ∈ T j → i = j
  nd : ∀ i, (T i).Nodup
  out : ∀ i, ρ.length ≤ i → T i = []
  sl : ∀ i s, ρ[i]? = some s → ∃ o, σ[i]? = some o ∧ SlOk (hid (SF F T) H) H o s (T i)
  pin : ∀ v, pn = some v → σ[0]? = some (some v)
structure Stp (F : Hs) (T : Trs) (H : Hp) (T' : Trs) (H' : Hp) : Prop where
  fr : ∀ x, F x → H' x = H x
  vis : Ex (hid (SF F T) H) (hid (SF F T') H')
section
variable {pn : Option V} {F : Hs} {T T' T'' : Trs} {G G' H H' H'' : Hp} {σ : L2.St} {ρ : Env}
theorem Stp.refl : Stp F T H T H := ⟨fun _ _ => rfl, Ex.refl _⟩
theorem Stp.trans (a : Stp F T H T' H') (b : Stp F T' H' T'' H'') : Stp F T H T'' H'' := ⟨fun x h => (b.fr x h).trans (a.fr x h), a.vis.trans b.vis⟩
theorem Stp.ex (al : Al F H) (e : Ex H H') : Stp F T H T H' := ⟨fun x h => by
  cases q : H x with
  | none => exact absurd q (al x h)
  | some o => exact e x o q, hid_ex e⟩
theorem Cels.mv (e : Ex G G') : ∀ {vs : List V} {cs : List Cel} {B : List Addr}, (∀ x ∈ B, H' x = H x) → Cels G H vs cs B → Cels G' H' vs cs B
  | _, _, _, _, .nil => .nil
  | _, _, _, h, .dat r c => .dat (r.ex e) (Cels.mv e h c)
  | _, _, _, h, .sub hb r c => .sub ((h _ (List.mem_cons_self ..)).trans hb) (r.ex e) (Cels.mv e (fun x hx => h x (List.mem_cons_of_mem _ hx)) c)
theorem Own.mv (e : Ex G G') {v : V} {cs : List Cel} {A : List Addr} (h : ∀ x ∈ A, H' x = H x) (o : Own G H v cs A) : Own G' H' v cs A := by
  obtain ⟨a, vs, B, rfl, ha, c, rfl⟩ := o
  exact ⟨a, vs, B, rfl, (h a (List.mem_cons_self ..)).trans ha, c.mv e fun x hx => h x (List.mem_cons_of_mem _ hx), rfl⟩
theorem SlOk.mv (e : Ex G G') {o : Option V} {s : Sl} {A : List Addr} (h : ∀ x ∈ A, H' x = H x) (q : SlOk G H o s A) : SlOk G' H' o s A := by
  cases s with
  | un => exact q
  | dat d => obtain ⟨z, v, e1, r⟩ := q; exact ⟨z, v, e1, r.ex e⟩
  | own cs => obtain ⟨v, e1, r⟩ := q; exact ⟨v, e1, r.mv e h⟩
  | dic l => obtain ⟨v, e1, r⟩ := q; exact ⟨v, e1, r.mv e h⟩
theorem Cels.lst : ∀ {vs : List V} {cs : List Cel} {B : List Addr}, Cels G H vs cs B → ∀ x ∈ B, ∃ ws, H x = some (.lst ws)
  | _, _, _, .nil, x, h => nomatch h
  | _, _, _, .dat _ c, x, h => c.lst x h
  | _, _, _, .sub hb _ c, x, h => by
    rcases List.mem_cons.mp h with z | z
    · subst z; exact ⟨_, hb⟩
    · exact c.lst x z
theorem Own.lst {v : V} {cs : List Cel} {A : List Addr} (o : Own G H v cs A) : ∀ x ∈ A, ∃ ws, H x = some (.lst ws) := fun x h => by
  obtain ⟨a, vs, B, rfl, ha, c, rfl⟩ := o
  rcases List.mem_cons.mp h with z | z
  · subst z; exact ⟨_, ha⟩
  · exact c.lst x z
theorem Cels.length : ∀ {vs : List V} {cs : List Cel} {B : List Addr}, Cels G H vs cs B → vs.length = cs.length
  | _, _, _, .nil => rfl
  | _, _, _, .dat _ c => by rw [List.length_cons, List.length_cons, c.length]
  | _, _, _, .sub _ _ c => by rw [List.length_cons, List.length_cons, c.length]
theorem Cels.rp (e : Ex G G') (hs : ∀ x ∈ B, G' x = H x) : ∀ {vs : List V} {cs : List Cel}, Cels G H vs cs B → RpAll G' vs (cs.map Cel.pd)
  | _, _, .nil => .nil
  | _, _, .dat r c => .cons (r.ex e) (c.rp e hs)
  | _, _, .sub hb r c => .cons (.lst ((hs _ (List.mem_cons_self ..)).trans hb) (r.ex e)) (c.rp e fun x hx => hs x (List.mem_cons_of_mem _ hx))
theorem Own.rp (e : Ex G G') {v : V} {cs : List Cel} {A : List Addr} (hs : ∀ x ∈ A, G' x = H x) (o : Own G H v cs A) : Rp G' v (.list (cs.map Cel.pd)) := by
  obtain ⟨a, vs, B, rfl, ha, c, rfl⟩ := o
  exact .lst ((hs a (List.mem_cons_self ..)).trans ha) (c.rp e fun x hx => hs x (List.mem_cons_of_mem _ hx))
theorem StOk.lst (st : StOk pn F T H σ ρ) {i : Nat} {x : Addr} (h : x ∈ T i) : ∃ ob, H x = some ob ∧ ∀ o u, ob ≠ .frz o u := by
  by_cases c : i < ρ.length
  · obtain ⟨o, _, q⟩ := st.sl i _ (List.getElem?_eq_getElem c)
    cases e : ρ[i] with
    | un => rw [e] at q; rw [show T i = [] from q] at h; cases h
    | dat d => rw [e] at q; rw [q.1] at h; cases h
    | own cs => rw [e] at q; obtain ⟨v, _, q⟩ := q; obtain ⟨ws, g⟩ := q.lst x h; exact ⟨_, g, fun o u z => nomatch z⟩
    | dic l =>
      rw [e] at q
      obtain ⟨v, _, a, ks, _, ha, _, hA⟩ := q
      rw [hA] at h
      have : x = a := by simpa using h
      rw [this]
      exact ⟨_, ha, fun o u z => nomatch z⟩
  · rw [st.out i (by omega)] at h; cases h
theorem StOk.als (st : StOk pn F T H σ ρ) : Al (SF F T) H := fun x h z => h.elim (fun h => st.al x h z) fun ⟨i, h⟩ => by
  obtain ⟨vs, e, _⟩ := st.lst h
  rw [z] at e
  cases e
theorem StOk.mv (st : StOk pn F T H σ ρ) (e : Ex (hid (SF F T) H) (hid (SF F T) H')) (h : ∀ i x, x ∈ T i → H' x = H x) (al : Al F H') : StOk pn F T H' σ ρ :=
  ⟨st.len, al, st.off, st.dis, st.nd, st.out, fun i s hi => let ⟨o, h1, h2⟩ := st.sl i s hi; ⟨o, h1, h2.mv e (h i)⟩, st.pin⟩
theorem StOk.ex (st : StOk pn F T H σ ρ) (e : Ex H H') : StOk pn F T H' σ ρ := st.mv (hid_ex e) (fun i x hx => by
  obtain ⟨vs, q, _⟩ := st.lst hx
  rw [q, e x _ q]) (st.al.ex e)
theorem StOk.vw (st : StOk pn F T H σ ρ) : En (hid F H) σ (vw ρ) := by
  refine ⟨by rw [st.len]; unfold Uv.vw; rw [List.length_map], fun i d hi => ?_⟩
  unfold Uv.vw at hi
  rw [List.getElem?_map] at hi
  cases q : ρ[i]? with
  | none => rw [q] at hi; cases hi
  | some s =>
    rw [q] at hi
    have hi : s.vw = some d := Option.some.inj hi
    obtain ⟨o, h1, h2⟩ := st.sl i s q
    cases s with
    | un => cases hi
    | dat d' =>
      cases hi
      obtain ⟨_, v, rfl, r⟩ := h2
      exact ⟨v, h1, r.ex (hid_sub fun x h => .inl h)⟩
    | own cs =>
      cases hi
      obtain ⟨v, rfl, r⟩ := h2
      exact ⟨v, h1, r.rp (hid_sub fun x h => .inl h) fun x hx => hid_out (st.off i x hx)⟩
    | dic l => cases hi
theorem StOk.mkd (st : StOk pn F T H σ ρ) : En (hid (SF F T) H) σ (Uv.mk ρ) := by
  refine ⟨by rw [st.len]; unfold Uv.mk; rw [List.length_map], fun i d hi => ?_⟩
  unfold Uv.mk at hi
  rw [List.getElem?_map] at hi
  cases q : ρ[i]? with
  | none => rw [q] at hi; cases hi
  | some s =>
    rw [q] at hi
    have hi : s.mk = some d := Option.some.inj hi
    obtain ⟨o, h1, h2⟩ := st.sl i s q
    cases s with
    | dat d' =>
      cases hi
      obtain ⟨_, v, rfl, r⟩ := h2
      exact ⟨v, h1, r⟩
    | _ => cases hi
def setT (T : Trs) (i : Nat) (A : List Addr) : Trs := fun j => if j = i then A else T j
theorem setT_same {i : Nat} {A : List Addr} : setT T i A i = A := if_pos rfl
theorem setT_ne {i j : Nat} {A : List Addr} (h : j ≠ i) : setT T i A j = T j := if_neg h
theorem SF_setT_nil {i : Nat} : ∀ x, SF F (setT T i []) x → SF F T x := fun x h => h.elim .inl fun ⟨j, hj⟩ => .inr (by
  by_cases c : j = i
  · subst c; rw [setT_same] at hj; cases hj
  · rw [setT_ne c] at hj; exact ⟨j, hj⟩)
theorem StOk.drop (st : StOk pn F T H σ ρ) {i : Nat} {o : Option V} {s : Sl} (hi0 : i ≠ 0) (hs : SlOk (hid (SF F (setT T i [])) H) H o s []) : StOk pn F (setT T i []) H (σ.set i o) (ρ.set i s) ∧ Stp F T H (setT T i []) H := by
  have sub : Ex (hid (SF F T) H) (hid (SF F (setT T i [])) H) := hid_sub SF_setT_nil
  have mem : ∀ j x, x ∈ setT T i [] j → x ∈ T j ∧ j ≠ i := fun j x h => by
    by_cases c : j = i
    · subst c; rw [setT_same] at h; cases h
    · rw [setT_ne c] at h; exact ⟨h, c⟩
  refine ⟨⟨by rw [List.length_set, List.length_set]; exact st.len, st.al, fun j x h => st.off j x (mem j x h).1, fun j k x h h' => st.dis j k x (mem j x h).1 (mem k x h').1, fun j => ?_, fun j hj => ?_, fun j q hq => ?_, fun v hv => ?_⟩, ⟨fun _ _ => rfl, sub⟩⟩
  · by_cases c : j = i
    · subst c; rw [setT_same]; exact List.nodup_nil
    · rw [setT_ne c]; exact st.nd j
  · rw [List.length_set] at hj
    by_cases c : j = i
    · subst c; rw [setT_same]
    · rw [setT_ne c]; exact st.out j hj
  · by_cases c : i = j
    · subst c
      have hl : i < ρ.length := by
        have := (List.getElem?_eq_some_iff.mp hq).1
        simpa using this
      rw [List.getElem?_set_self hl] at hq
      cases hq
      rw [setT_same]
      exact ⟨o, List.getElem?_set_self (by rw [st.len]; exact hl), hs⟩
    · rw [List.getElem?_set_ne c] at hq
      obtain ⟨o', h1, h2⟩ := st.sl j q hq
      rw [List.getElem?_set_ne c, setT_ne (fun z => c z.symm)]
      exact ⟨o', h1, h2.mv sub fun _ _ => rfl⟩
  · rw [List.getElem?_set_ne hi0]
    exact st.pin v hv
theorem StOk.set (st : StOk pn F T H σ ρ) {i : Nat} (hi0 : i ≠ 0) {v : V} {d : PD} (r : Rp (hid (SF F T) H) v d) : StOk pn F (setT T i []) H (σ.set i (some v)) (ρ.set i (.dat d)) ∧ Stp F T H (setT T i []) H :=
  st.drop hi0 ⟨rfl, v, rfl, r.ex (hid_sub SF_setT_nil)⟩
theorem StOk.own {A : List Addr} (st : StOk pn (FL F A) T H σ ρ) {i : Nat} (hi0 : i ≠ 0) (hi : i < ρ.length) {v : V} {cs : List Cel} (o : Own (hid (SF (FL F A) T) H) H v cs A) (nd : A.Nodup) (off : ∀ x ∈ A, ¬ F x) :
    StOk pn F (setT T i A) H (σ.set i (some v)) (ρ.set i (.own cs)) ∧ Ex (hid (SF (FL F A) T) H) (hid (SF F (setT T i A)) H) := by
  have sub : Ex (hid (SF (FL F A) T) H) (hid (SF F (setT T i A)) H) := hid_sub fun x h => h.elim (fun h => .inl (.inl h)) fun ⟨j, hj⟩ => by
    by_cases c : j = i
    · subst c; rw [setT_same] at hj; exact .inl (.inr hj)
    · rw [setT_ne c] at hj; exact .inr ⟨j, hj⟩
  have mem : ∀ j x, x ∈ setT T i A j → (j = i ∧ x ∈ A) ∨ (j ≠ i ∧ x ∈ T j) := fun j x h => by
    by_cases c : j = i
    · subst c; rw [setT_same] at h; exact .inl ⟨rfl, h⟩
    · rw [setT_ne c] at h; exact .inr ⟨c, h⟩
  refine ⟨⟨by rw [List.length_set, List.length_set]; exact st.len, fun x h => st.al x (.inl h), fun j x h => ?_, fun j k x h h' => ?_, fun j => ?_, fun j hj => ?_, fun j q hq => ?_, fun v hv => ?_⟩, sub⟩
  · rcases mem j x h with ⟨_, h⟩ | ⟨_, h⟩
    · exact off x h
    · exact fun z => st.off j x h (.inl z)
  · rcases mem j x h with ⟨e, h⟩ | ⟨e, h⟩
    · rcases mem k x h' with ⟨e', h'⟩ | ⟨e', h'⟩
      · rw [e, e']
      · exact absurd (.inr h) (st.off k x h')
    · rcases mem k x h' with ⟨e', h'⟩ | ⟨e', h'⟩
      · exact absurd (.inr h') (st.off j x h)
      · exact st.dis j k x h h'
  · by_cases c : j = i
    · subst c; rw [setT_same]; exact nd
    · rw [setT_ne c]; exact st.nd j
  · rw [List.length_set] at hj
    rw [setT_ne (by omega)]
    exact st.out j hj
  · by_cases c : i = j
    · subst c
      rw [List.getElem?_set_self hi] at hq
      cases hq
      rw [setT_same]
      exact ⟨some v, List.getElem?_set_self (by rw [st.len]; exact hi), v, rfl, o.mv sub fun _ _ => rfl⟩
    · rw [List.getElem?_set_ne c] at hq
      obtain ⟨o', h1, h2⟩ := st.sl j q hq
      rw [List.getElem?_set_ne c, setT_ne (fun z => c z.symm)]
      exact ⟨o', h1, h2.mv sub fun _ _ => rfl⟩
  · rw [List.getElem?_set_ne hi0]
    exact st.pin v hv
theorem StOk.thaw {A : List Addr} (st : StOk pn (FL F A) T H σ ρ) : StOk pn F T H σ ρ ∧ Ex (hid (SF (FL F A) T) H) (hid (SF F T) H) := by
  have sub : Ex (hid (SF (FL F A) T) H) (hid (SF F T) H) := hid_sub fun x h => h.elim (fun h => .inl (.inl h)) .inr
  exact ⟨⟨st.len, fun x h => st.al x (.inl h), fun i x h z => st.off i x h (.inl z), st.dis, st.nd, st.out, fun i s hi => let ⟨o, h1, h2⟩ := st.sl i s hi; ⟨o, h1, h2.mv sub fun _ _ => rfl⟩, st.pin⟩, sub⟩
theorem StOk.write (st : StOk pn F T H σ ρ) {i : Nat} {cs cs' : List Cel} {a : Addr} {vs' : List V} {B : List Addr} (hi : ρ[i]? = some (.own cs)) (hT : T i = a :: B) (hσ : σ[i]? = some (some (.ref a))) (hc : Cels (hid (SF F T) H) H vs' cs' B) :
    StOk pn F T (upd H a (.lst vs')) σ (ρ.set i (.own cs')) ∧ Stp F T H T (upd H a (.lst vs')) := by
  have ha : a ∈ T i := by rw [hT]; exact List.mem_cons_self ..
  have hab : a ∉ B := by have := st.nd i; rw [hT] at this; exact (List.nodup_cons.mp this).1
  have hS : SF F T a := .inr ⟨i, ha⟩
  have vis : Ex (hid (SF F T) H) (hid (SF F T) (upd H a (.lst vs'))) := fun x o h => by
    obtain ⟨c, h⟩ := hid_some h
    rw [hid_out c, upd_ne (fun z => c (by rw [z]; exact hS))]
    exact h
  have ne : ∀ x, x ≠ a → upd H a (.lst vs') x = H x := fun x h => upd_ne h
  refine ⟨⟨by rw [List.length_set]; exact st.len, fun x h => ?_, st.off, st.dis, st.nd, fun j hj => st.out j (by rw [List.length_set] at hj; exact hj), fun j q hq => ?_, st.pin⟩, ⟨fun x h => ne x fun z => st.off i a ha (by rw [← z]; exact h), vis⟩⟩
  · rw [ne x fun z => st.off i a ha (by rw [← z]; exact h)]
    exact st.al x h
  · by_cases c : i = j
    · subst c
      have hl : i < ρ.length := by
        have := (List.getElem?_eq_some_iff.mp hq).1
        simpa using this
      rw [List.getElem?_set_self hl] at hq
      cases hq
      exact ⟨_, hσ, .ref a, rfl, a, vs', B, rfl, upd_same, hc.mv vis fun x hx => ne x fun z => hab (by rw [← z]; exact hx), hT⟩
    · rw [List.getElem?_set_ne c] at hq
      obtain ⟨o', h1, h2⟩ := st.sl j q hq
      exact ⟨o', h1, h2.mv vis fun x hx => ne x fun z => c (st.dis i j a ha (by rw [← z]; exact hx))⟩
theorem StOk.at_own (st : StOk pn F T H σ ρ) {i : Nat} {cs : List Cel} (hi : ρ[i]? = some (.own cs)) : ∃ a vs B, σ[i]? = some (some (.ref a)) ∧ H a = some (.lst vs) ∧ Cels (hid (SF F T) H) H vs cs B ∧ T i = a :: B := by
  obtain ⟨o, h1, v, rfl, a, vs, B, rfl, h2, h3, h4⟩ := st.sl i _ hi
  exact ⟨a, vs, B, h1, h2, h3, h4⟩
end
mutual
def flat : PD → Bool
  | .none => true
  | .bool _ => true
  | .int _ => true
  | .str _ => true
  | .tuple ds => flats ds
  | .list _ => false
  | .dict _ => false
def flats : List PD → Bool
  | [] => true
  | d :: ds => flat d && flats ds
end
mutual
theorem Rp.flat {G G' : Hp} (e : ∀ x o u, G x = some (.frz o u) → G' x = some (.frz o u)) : ∀ {v : V} {d : PD}, Rp G v d → flat d = true → Rp G' v d
  | _, _, .non, _ => .non
  | _, _, .bl b, _ => .bl b
  | _, _, .int i, _ => .int i
  | _, _, .str x, _ => .str x
  | _, _, .lst h r, f => by simp [Uv.flat] at f
  | _, _, .tup h p r, f => .tup (e _ _ _ h) p (RpAll.flat e r (by simpa [Uv.flat] using f))
  | _, _, .dct _ _ _ _, f => by simp [Uv.flat] at f
  | _, _, .dci _ _ _, f => by simp [Uv.flat] at f
  | _, _, .scr h r, f => by simp [Uv.flat] at f
theorem RpAll.flat {G G' : Hp} (e : ∀ x o u, G x = some (.frz o u) → G' x = some (.frz o u)) : ∀ {vs : List V} {ds : List PD}, RpAll G vs ds → flats ds = true → RpAll G' vs ds
  | _, _, .nil, _ => .nil
  | _, _, .cons h r, f => by
    simp only [flats, Bool.and_eq_true] at f
    exact .cons (Rp.flat e h f.1) (RpAll.flat e r f.2)
end
theorem StOk.frz {pn : Option V} {F : Hs} {T : Trs} {H H' : Hp} {σ : L2.St} {ρ : Env} (st : StOk pn F T H σ ρ) (e : Ex H H') : ∀ x o u, hid F H' x = some (.frz o u) → hid (SF F T) H' x = some (.frz o u) := fun x o u h => by
  obtain ⟨c, h⟩ := hid_some h
  rw [hid_out]
  · exact h
  · rintro (z | ⟨i, z⟩)
    · exact c z
    · obtain ⟨vs, q, n⟩ := st.lst z
      rw [e x _ q] at h
      exact n _ _ (Option.some.inj h)
end Uv

namespace Uv
open PySem PySem.Spec PyProof.Rows L2
open Evl (Ex)
variable [kk : KK]
abbrev XW := Env → Option (PD × Env)
abbrev XWT := Env → Option (Bool × Env)
abbrev XWA := Env → Option (List PD × Env)
abbrev XWO := Env → Option (List Cel × Env)
def SW (te : TE) (w : XW) : Prop := ∀ pn F T H σ ρ d ρ', StOk pn F T H σ ρ → w ρ = some (d, ρ') → ∀ Q : VK, (∀ v T' H', StOk pn F T' H' σ ρ' → Stp F T H T' H' → Rp (hid (SF F T') H') v d → Q v H') → te σ H Q
def SWT (tt : TT) (w : XWT) : Prop := ∀ pn F T H σ ρ b ρ', StOk pn F T H σ ρ → w ρ = some (b, ρ') → ∀ Q : Bool → Hp → Prop, (∀ T' H', StOk pn F T' H' σ ρ' → Stp F T H T' H' → Q b H') → tt σ H Q
def SWA (ta : TA) (w : XWA) : Prop := ∀ pn F T H σ ρ ds ρ', StOk pn F T H σ ρ → w ρ = some (ds, ρ') → ∀ Q : List V → Hp → Prop, (∀ vs T' H', StOk pn F T' H' σ ρ' → Stp F T H T' H' → RpAll (hid (SF F T') H') vs ds → Q vs H') → ta σ H Q
def SWO (te : TE) (w : XWO) : Prop := ∀ pn F T H σ ρ cs ρ', StOk pn F T H σ ρ → w ρ = some (cs, ρ') → ∀ Q : VK, (∀ v A T' H', StOk pn (FL F A) T' H' σ ρ' → A.Nodup → (∀ x ∈ A, ¬ F x) → (∀ x, F x → H' x = H x) → Ex (hid (SF F T) H) (hid (SF (FL F A) T') H') → Own (hid (SF (FL F A) T') H') H' v cs A → Q v H') → te σ H Q
def wM (x : XE) : XW := fun ρ => (x (mk ρ)).bind fun d => some (d, ρ)
def wV (x : XE) : XW := fun ρ => (x (vw ρ)).bind fun d => if flat d = true then some (d, ρ) else none
def wMT (x : XT) : XWT := fun ρ => (x (mk ρ)).bind fun d => some (d, ρ)
def wVT (x : XT) : XWT := fun ρ => (x (vw ρ)).bind fun d => some (d, ρ)
def wNil : XWA := fun ρ => some ([], ρ)
def wCons (a : XW) (as : XWA) : XWA := fun ρ => (a ρ).bind fun x => (as x.2).bind fun xs => some (x.1 :: xs.1, xs.2)
def wOp (f : PD → PD → Option PD) (a b : XW) : XW := fun ρ => (a ρ).bind fun x => (b x.2).bind fun y => (f x.1 y.1).bind fun z => some (z, y.2)
def wUn (f : PD → Option PD) (a : XW) : XW := fun ρ => (a ρ).bind fun x => (f x.1).bind fun z => some (z, x.2)
def wTup (as : XWA) : XW := fun ρ => (as ρ).bind fun x => if x.1.length ≤ 100000 then some (.tuple x.1, x.2) else none
def wLst (as : XWA) : XW := fun ρ => (as ρ).bind fun x => if x.1.length ≤ 100000 then some (.list x.1, x.2) else none
def wCB (f : List PD → Option PD) (as : XWA) : XW := fun ρ => (as ρ).bind fun x => (f x.1).bind fun z => some (z, x.2)
def wB (a : XW) : XWT := fun ρ => (a ρ).bind fun x => (isB x.1).bind fun b => some (b, x.2)
def wIf (c : XWT) (a b : XW) : XW := fun ρ => (c ρ).bind fun k => if k.1 = true then a k.2 else b k.2
def wTAnd (a b : XWT) : XWT := fun ρ => (a ρ).bind fun c => if c.1 = true then b c.2 else some (false, c.2)
def wTOr (a b : XWT) : XWT := fun ρ => (a ρ).bind fun c => if c.1 = true then some (true, c.2) else b c.2
def wTNot (a : XWT) : XWT := fun ρ => (a ρ).bind fun c => some (!c.1, c.2)
def wAnd (a b : XW) : XW := fun ρ => (wB a ρ).bind fun c => if c.1 = true then b c.2 else some (.bool false, c.2)
def wOr (a b : XW) : XW := fun ρ => (wB a ρ).bind fun c => if c.1 = true then some (.bool true, c.2) else b c.2
def wNot (a : XW) : XW := fun ρ => (wB a ρ).bind fun c => some (.bool (!c.1), c.2)
section
variable {ta tb te : TE} {t u : TT} {ts : TA} {a b w : XW} {p q : XWT} {as : XWA} {r : R2} {f : PD → PD → Option PD} {x : XE}
theorem sw_M (h : SE te x) : SW te (wM x) := fun pn F T H σ ρ d ρ' st e Q q => by
  obtain ⟨z, h1, h2⟩ := bind_some e
  cases h2
  exact h _ _ h1 (SF F T) σ H st.als st.mkd Q fun v H2 e2 rv => q v T H2 (st.ex e2) (Stp.ex st.al e2) rv
theorem sw_V (h : SE te x) : SW te (wV x) := fun pn F T H σ ρ d ρ' st e Q q => by
  obtain ⟨z, h1, h2⟩ := bind_some e
  by_cases c : flat z = true
  · rw [if_pos c] at h2
    cases h2
    exact h _ _ h1 F σ H st.al st.vw Q fun v H2 e2 rv => q v T H2 (st.ex e2) (Stp.ex st.al e2) (rv.flat (st.frz e2) c)
  · rw [if_neg c] at h2; cases h2
theorem swt_M {x : XT} (h : ST t x) : SWT t (wMT x) := fun pn F T H σ ρ d ρ' st e Q q => by
  obtain ⟨z, h1, h2⟩ := bind_some e
  cases h2
  exact h _ _ h1 (SF F T) σ H st.als st.mkd Q fun H2 e2 => q T H2 (st.ex e2) (Stp.ex st.al e2)
theorem swt_V {x : XT} (h : ST t x) : SWT t (wVT x) := fun pn F T H σ ρ d ρ' st e Q q => by
  obtain ⟨z, h1, h2⟩ := bind_some e
  cases h2
  exact h _ _ h1 F σ H st.al st.vw Q fun H2 e2 => q T H2 (st.ex e2) (Stp.ex st.al e2)
theorem swa_nil : SWA tNil wNil := fun pn F T H σ ρ d ρ' st e Q q => by cases e; exact q [] T H st Stp.refl .nil
theorem swa_cons (ha : SW ta a) (hs : SWA ts as) : SWA (tCons ta ts) (wCons a as) := fun pn F T H σ ρ d ρ' st e Q q => by
  obtain ⟨⟨x, ρ1⟩, h1, e⟩ := bind_some e
  obtain ⟨⟨xs, ρ2⟩, h2, e⟩ := bind_some e
  cases e
  exact ha pn F T H σ ρ x ρ1 st h1 _ fun v T1 H1 st1 s1 rv => hs pn F T1 H1 σ ρ1 xs ρ2 st1 h2 _ fun vs T2 H2 st2 s2 rs => q (v :: vs) T2 H2 st2 (s1.trans s2) (.cons (rv.ex s2.vis) rs)
theorem sw_op (hr : SO r f) (ha : SW ta a) (hb : SW tb b) : SW (tOp r ta tb) (wOp f a b) := fun pn F T H σ ρ d ρ' st e Q q => by
  obtain ⟨⟨x, ρ1⟩, h1, e⟩ := bind_some e
  obtain ⟨⟨y, ρ2⟩, h2, e⟩ := bind_some e
  obtain ⟨z, h3, e⟩ := bind_some e
  cases e
  exact ha pn F T H σ ρ x ρ1 st h1 _ fun v T1 H1 st1 s1 rv => hb pn F T1 H1 σ ρ1 y ρ2 st1 h2 _ fun w T2 H2 st2 s2 rw' =>
    hr x y d h3 (SF F T2) H2 v w st2.als (rv.ex s2.vis) rw' Q fun z H3 e3 rz => q z T2 H3 (st2.ex e3) ((s1.trans s2).trans (Stp.ex st2.al e3)) rz
theorem sw_tup (hs : SWA ts as) : SW (tTupF ts) (wTup as) := fun pn F T H σ ρ d ρ' st e Q q => by
  obtain ⟨⟨xs, ρ1⟩, h1, e⟩ := bind_some e
  by_cases hl : xs.length ≤ 100000
  · rw [if_pos hl] at e
    cases e
    exact hs pn F T H σ ρ xs _ st h1 _ fun vs T1 H1 st1 s1 rv => ⟨by rw [rv.length]; exact Evl.sz_of hl, fun p o hp pl => q _ T1 _ (st1.ex (Ex.new hp)) (s1.trans (Stp.ex st1.al (Ex.new hp))) (.tup (new_ok st1.als hp) pl (rv.ex (hid_ex (Ex.new hp))))⟩
  · rw [if_neg hl] at e; cases e
theorem sw_lst (hs : SWA ts as) : SW (tLst ts) (wLst as) := fun pn F T H σ ρ d ρ' st e Q q => by
  obtain ⟨⟨xs, ρ1⟩, h1, e⟩ := bind_some e
  by_cases hl : xs.length ≤ 100000
  · rw [if_pos hl] at e
    cases e
    exact hs pn F T H σ ρ xs _ st h1 _ fun vs T1 H1 st1 s1 rv => ⟨by rw [rv.length]; exact Evl.sz_of hl, fun p hp => q _ T1 _ (st1.ex (Ex.new hp)) (s1.trans (Stp.ex st1.al (Ex.new hp))) (.lst (new_ok st1.als hp) (rv.ex (hid_ex (Ex.new hp))))⟩
  · rw [if_neg hl] at e; cases e
theorem wB_some {ρ ρ' : Env} {c : Bool} (h : wB a ρ = some (c, ρ')) : a ρ = some (.bool c, ρ') := by
  obtain ⟨⟨x, ρ1⟩, h1, e⟩ := bind_some h
  obtain ⟨b, h2, e⟩ := bind_some e
  have z := isB_eq h2
  cases e
  subst z
  exact h1
theorem swt_test (ha : SW ta a) : SWT (tTest ta) (wB a) := fun pn F T H σ ρ c ρ' st e Q q =>
  ha pn F T H σ ρ _ ρ' st (wB_some e) _ fun v T1 H1 st1 s1 rv => by cases rv; exact ⟨c, rfl, q T1 H1 st1 s1⟩
theorem swt_or (ht : SWT t p) (hu : SWT u q) : SWT (tOr t u) (wTOr p q) := fun pn F T H σ ρ c ρ' st e Q k => by
  obtain ⟨⟨c, ρ1⟩, h1, e⟩ := bind_some e
  refine ht pn F T H σ ρ c ρ1 st h1 _ fun T1 H1 st1 s1 => ?_
  cases c with
  | true => cases e; exact k T1 H1 st1 s1
  | false => exact hu pn F T1 H1 σ ρ1 _ ρ' st1 e Q fun T2 H2 st2 s2 => k T2 H2 st2 (s1.trans s2)
end
def spF (f : List PD → Option PD) : Sp := fun vs H Q _ => ∃ S ds d, Al S H ∧ RpAll (hid S H) vs ds ∧ f ds = some d ∧ ∀ v H2, Ex H H2 → Rp (hid S H2) v d → Q v H2
theorem se_call {f : List PD → Option PD} {ts : TA} {as : XA} (hs : SA ts as) : SE (tCall (spF f) [] E0 ts) (xCB f as) := fun ρ d h S σ H al en Q q => by
  obtain ⟨ds, h1, h⟩ := bind_some h
  exact hs ρ ds h1 S σ H al en _ fun vs H1 e1 rv => ⟨S, ds, d, al.ex e1, by rw [List.append_nil]; exact rv, h, fun v H2 e2 r2 => q v H2 (e1.trans e2) r2⟩
def spW (g : List Cel → List PD → Option (PD × List Cel)) : Sp := fun vs H Q _ => ∃ (F : Hs) (a : Addr) (B : List Addr) (cs : List Cel) (ws : List V) (ds : List PD) (d : PD) (cs' : List Cel), vs = .ref a :: ws ∧ Al F H ∧ (∀ x ∈ a :: B, ¬ F x) ∧ (a :: B).Nodup ∧
  Own (hid (FL F (a :: B)) H) H (.ref a) cs (a :: B) ∧ RpAll (hid (FL F (a :: B)) H) ws ds ∧ g cs ds = some (d, cs') ∧
  ∀ v B' H', (∀ x, F x → H' x = H x) → Ex (hid (FL F (a :: B)) H) (hid (FL F (a :: B')) H') → (∀ x ∈ a :: B', ¬ F x) → (a :: B').Nodup → Own (hid (FL F (a :: B')) H') H' (.ref a) cs' (a :: B') → Rp (hid (FL F (a :: B')) H') v d → Q v H'
def ownAt (ρ : Env) (i : Nat) : Option (List Cel) := match ρ[i]? with
  | some (.own cs) => some cs
  | _ => none
theorem ownAt_eq {ρ : Env} {i : Nat} {cs : List Cel} (h : ownAt ρ i = some cs) : ρ[i]? = some (.own cs) := by
  unfold ownAt at h
  split at h
  · rename_i e
    cases h
    exact e
  · cases h
def wCallK (i : Nat) (g : List Cel → List PD → Option (PD × List Cel)) (as : XWA) : XW := fun ρ => (ownAt ρ i).bind fun _ => (as ρ).bind fun x => (ownAt x.2 i).bind fun cs => (g cs x.1).bind fun y => some (y.1, x.2.set i (.own y.2))
theorem sw_callK {i : Nat} {g : List Cel → List PD → Option (PD × List Cel)} {ts : TA} {as : XWA} (hs : SWA ts as) : SW (tCall (spW g) [] E0 (tCons (tVar i) ts)) (wCallK i g as) := fun pn F T H σ ρ d ρ' st e Q q => by
  obtain ⟨cs0, h0, e⟩ := bind_some e
  obtain ⟨⟨xs, ρ1⟩, h1, e⟩ := bind_some e
  obtain ⟨cs, hi, e⟩ := bind_some e
  obtain ⟨⟨z, cs'⟩, h3, e⟩ := bind_some e
  have hi : ρ1[i]? = some (.own cs) := ownAt_eq hi
  have e : some (z, ρ1.set i (.own cs')) = some (d, ρ') := e
  obtain ⟨rfl, rfl⟩ := Prod.mk.inj (Option.some.inj e)
  -- the slot holds the same address all along
  have key : ∀ (vs : List V) (T1 : Trs) (H1 : Hp), StOk pn F T1 H1 σ ρ1 → Stp F T H T1 H1 → RpAll (hid (SF F T1) H1) vs xs → ∀ a : Addr, σ[i]? = some (some (.ref a)) → spW g (.ref a :: vs) H1 Q E0 := by
    intro vs T1 H1 st1 s1 rv a ha
    obtain ⟨a', us, B, ha', hl, hc, hT⟩ := st1.at_own hi
    have ea : a' = a := by rw [ha'] at ha; cases ha; rfl
    subst ea
    obtain ⟨F1, hF1⟩ : ∃ F1 : Hs, F1 = fun x => F x ∨ ∃ j, j ≠ i ∧ x ∈ T1 j := ⟨_, rfl⟩
    have eqv : ∀ x, FL F1 (a' :: B) x ↔ SF F T1 x := fun x => by
      rw [hF1]
      constructor
      · rintro ((h | ⟨j, _, h⟩) | h)
        · exact .inl h
        · exact .inr ⟨j, h⟩
        · exact .inr ⟨i, by rw [hT]; exact h⟩
      · rintro (h | ⟨j, h⟩)
        · exact .inl (.inl h)
        · by_cases c : j = i
          · subst c; rw [hT] at h; exact .inr h
          · exact .inl (.inr ⟨j, c, h⟩)
    have eh : hid (FL F1 (a' :: B)) H1 = hid (SF F T1) H1 := hid_eq eqv
    refine ⟨F1, a', B, cs, vs, xs, z, cs', rfl, ?_, ?_, by rw [← hT]; exact st1.nd i, ⟨a', us, B, rfl, hl, by rw [eh]; exact hc, rfl⟩, by rw [eh]; exact rv, h3, fun v B' H' fr vis off nd ow rv' => ?_⟩
    · intro x hx
      rw [hF1] at hx
      exact st1.als x (hx.elim .inl fun ⟨j, _, h⟩ => .inr ⟨j, h⟩)
    · intro x hx hx2
      rw [hF1] at hx2
      have hx3 : x ∈ T1 i := by rw [hT]; exact hx
      rcases hx2 with h | ⟨j, c, h⟩
      · exact st1.off i x hx3 h
      · exact c (st1.dis j i x h hx3)
    · have eqv' : ∀ x, FL F1 (a' :: B') x ↔ SF F (setT T1 i (a' :: B')) x := fun x => by
        rw [hF1]
        constructor
        · rintro ((h | ⟨j, c, h⟩) | h)
          · exact .inl h
          · exact .inr ⟨j, by rw [setT_ne c]; exact h⟩
          · exact .inr ⟨i, by rw [setT_same]; exact h⟩
        · rintro (h | ⟨j, h⟩)
          · exact .inl (.inl h)
          · by_cases c : j = i
            · subst c; rw [setT_same] at h; exact .inr h
            · rw [setT_ne c] at h; exact .inl (.inr ⟨j, c, h⟩)
      have eh' : hid (FL F1 (a' :: B')) H' = hid (SF F (setT T1 i (a' :: B'))) H' := hid_eq eqv'
      rw [eh, eh'] at vis
      rw [eh'] at ow rv'
      have il : i < ρ1.length := (List.getElem?_eq_some_iff.mp hi).1
      refine q v (setT T1 i (a' :: B')) H' ⟨by rw [List.length_set]; exact st1.len, fun x hx => ?_, fun j x h => ?_, fun j k x h h' => ?_, fun j => ?_, fun j hj => ?_, fun j s hs => ?_, st1.pin⟩ (s1.trans ⟨fun x hx => fr x (by rw [hF1]; exact .inl hx), vis⟩) rv'
      · rw [fr x (by rw [hF1]; exact .inl hx)]
        exact st1.al x hx
      · by_cases c : j = i
        · subst c
          rw [setT_same] at h
          exact fun z => off x h (by rw [hF1]; exact .inl z)
        · rw [setT_ne c] at h
          exact st1.off j x h
      · by_cases c : j = i
        · subst c
          rw [setT_same] at h
          by_cases c2 : k = j
          · exact c2.symm
          · rw [setT_ne c2] at h'
            exact absurd (show F1 x by rw [hF1]; exact .inr ⟨k, c2, h'⟩) (off x h)
        · rw [setT_ne c] at h
          by_cases c2 : k = i
          · subst c2
            rw [setT_same] at h'
            exact absurd (show F1 x by rw [hF1]; exact .inr ⟨j, c, h⟩) (off x h')
          · rw [setT_ne c2] at h'
            exact st1.dis j k x h h'
      · by_cases c : j = i
        · subst c; rw [setT_same]; exact nd
        · rw [setT_ne c]; exact st1.nd j
      · rw [List.length_set] at hj
        rw [setT_ne (by omega)]
        exact st1.out j hj
      · by_cases c : i = j
        · subst c
          rw [List.getElem?_set_self il] at hs
          cases hs
          rw [setT_same]
          exact ⟨_, ha', _, rfl, ow⟩
        · rw [List.getElem?_set_ne c] at hs
          obtain ⟨o, h1, h2⟩ := st1.sl j s hs
          rw [setT_ne (fun z => c z.symm)]
          exact ⟨o, h1, h2.mv vis fun x hx => fr x (by rw [hF1]; exact .inr ⟨j, fun z => c z.symm, hx⟩)⟩
  obtain ⟨a, _, _, ha, _⟩ := st.at_own (ownAt_eq h0)
  refine ⟨.ref a, ha, hs pn F T H σ ρ xs ρ1 st h1 _ fun vs T1 H1 st1 s1 rv => ?_⟩
  show spW g (V.ref a :: vs ++ []) H1 Q E0
  rw [List.append_nil]
  exact key vs T1 H1 st1 s1 rv a ha
end Uv

namespace Uv
open PySem PySem.Spec PyProof.Rows L2
open Evl (Ex)
variable [kk : KK]
def Loose (H : Hp) (v : V) (x : PD) : Prop := ∃ a xs ds, v = .ref a ∧ H a = some (.tup xs) ∧ RpAll H xs ds ∧ x = .tuple ds
def Rk (b : Bool) (H : Hp) (v : V) (x : PD) : Prop := Rp H v x ∨ (b = true ∧ Loose H v x)
def Wk (b : Bool) (S : Hs) (J : It) (xs : List PD) (H : Hp) : Prop := ∀ S' H2, Ex (hid S H) (hid S' H2) → Al S' H2 → J.stop xs.length H2 ∧ ∀ i x, xs[i]? = some x → J.go i H2 ∧ ∀ v H3, J.yld i H2 v H3 → Ex H2 H3 ∧ Rk b (hid S' H3) v x
def pairsD (xs : List PD) : List PD := xs.zipIdx.map fun p => .tuple [.int (p.2 : Nat), p.1]
def zipD (xs ys : List PD) : List PD := List.zipWith (fun x y => .tuple [x, y]) xs ys
section
variable {S : Hs} {H : Hp}
theorem wk_tup {a : Addr} {o : Obj} {vs : List V} {xs : List PD} (ha : hid S H a = some (fz o vs)) (ra : RpAll (hid S H) vs xs) : Wk false S (Itt K a) xs H := fun S' H2 e2 al2 => by
  have sq : SqT K H2 a vs := .inl (.inr ⟨_, hid_le _ _ (e2 _ _ ha)⟩)
  have ra2 := ra.ex e2
  refine ⟨⟨_, sq, Nat.le_of_eq ra2.length⟩, fun i x hx => ?_⟩
  obtain ⟨v, hv, rv⟩ := ra2.get hx
  refine ⟨⟨_, v, sq, hv⟩, fun w H3 y => ?_⟩
  obtain ⟨y1, y2⟩ := y
  have e := y2 _ sq
  rw [hv] at e
  cases e
  subst y1
  exact ⟨Ex.refl _, .inl rv⟩
theorem wk_lst {a : Addr} {vs : List V} {xs : List PD} (ha : hid S H a = some (.lst vs)) (ra : RpAll (hid S H) vs xs) : Wk false S (Itl K a) xs H := fun S' H2 e2 al2 => by
  have sq : SqL K H2 a vs := .inl (.inl (hid_le _ _ (e2 _ _ ha)))
  have ra2 := ra.ex e2
  refine ⟨⟨_, sq, Nat.le_of_eq ra2.length⟩, fun i x hx => ?_⟩
  obtain ⟨v, hv, rv⟩ := ra2.get hx
  refine ⟨⟨_, v, sq, hv⟩, fun w H3 y => ?_⟩
  obtain ⟨y1, y2⟩ := y
  have e := y2 _ sq
  rw [hv] at e
  cases e
  subst y1
  exact ⟨Ex.refl _, .inl rv⟩
theorem wk_scr {a : Addr} {vs : List V} {xs : List PD} (ha : SqL K (hid S H) a vs) (ra : RpAll (hid S H) vs xs) : Wk false S (Itl K a) xs H := fun S' H2 e2 al2 => by
  have sq : SqL K H2 a vs := sqx hid_le (sqx e2 ha)
  have ra2 := ra.ex e2
  refine ⟨⟨_, sq, Nat.le_of_eq ra2.length⟩, fun i x hx => ?_⟩
  obtain ⟨v, hv, rv⟩ := ra2.get hx
  refine ⟨⟨_, v, sq, hv⟩, fun w H3 y => ?_⟩
  obtain ⟨y1, y2⟩ := y
  have e := y2 _ sq
  rw [hv] at e
  cases e
  subst y1
  exact ⟨Ex.refl _, .inl rv⟩
theorem wk_rng {lo : Int} {n : Nat} : Wk false S (Itr lo n) ((List.range n).map fun k => .int (lo + (k : Nat))) H := fun S' H2 e2 al2 => by
  refine ⟨by show n ≤ _; simp, fun i x hx => ?_⟩
  rw [List.getElem?_map] at hx
  cases qq : (List.range n)[i]? with
  | none => rw [qq] at hx; cases hx
  | some k =>
    rw [qq] at hx
    obtain ⟨hi, ek⟩ := List.getElem?_eq_some_iff.mp qq
    have ek2 : i = k := by simpa using ek
    subst ek2
    cases hx
    refine ⟨by show i < n; simpa using hi, fun v H3 y => ?_⟩
    obtain ⟨y1, y2⟩ := y
    subst y1 y2
    exact ⟨Ex.refl _, .inl (.int _)⟩
theorem pairs_get {xs : List PD} {i : Nat} {x : PD} (hx : (pairsD xs)[i]? = some x) : ∃ y, xs[i]? = some y ∧ x = .tuple [.int (i : Nat), y] := by
  unfold pairsD at hx
  rw [List.getElem?_map, List.getElem?_zipIdx] at hx
  cases q : xs[i]? with
  | none => rw [q] at hx; simp at hx
  | some y =>
    rw [q] at hx
    refine ⟨y, rfl, ?_⟩
    simp at hx
    exact hx.symm
theorem loose2 {S' : Hs} {H2 : Hp} {T : Addr} {u v : V} {x y : PD} (al : Al S' H2) (hT : H2 T = none) (ru : Rp (hid S' H2) u x) (rv : Rp (hid S' H2) v y) : Ex H2 (upd H2 T (.tup [u, v])) ∧ Rk true (hid S' (upd H2 T (.tup [u, v]))) (.ref T) (.tuple [x, y]) :=
  ⟨Ex.new hT, .inr ⟨rfl, T, _, _, rfl, new_ok al hT, .cons (ru.ex (hid_ex (Ex.new hT))) (.cons (rv.ex (hid_ex (Ex.new hT))) .nil), rfl⟩⟩
theorem wk_enumT {a : Addr} {o : Obj} {vs : List V} {xs : List PD} (ha : hid S H a = some (fz o vs)) (ra : RpAll (hid S H) vs xs) : Wk true S (Un.IteT K a) (pairsD xs) H := fun S' H2 e2 al2 => by
  have sq : SqT K H2 a vs := .inl (.inr ⟨_, hid_le _ _ (e2 _ _ ha)⟩)
  have ra2 := ra.ex e2
  refine ⟨⟨_, sq, by rw [ra2.length]; simp [pairsD]⟩, fun i x hx => ?_⟩
  obtain ⟨y, hy, rfl⟩ := pairs_get hx
  obtain ⟨v, hv, rv⟩ := ra2.get hy
  refine ⟨⟨_, v, sq, hv⟩, fun w H3 yl => ?_⟩
  obtain ⟨T, z, rfl, e2, rfl, e4⟩ := yl
  have ez := e4 _ sq
  rw [hv] at ez
  cases ez
  exact loose2 al2 e2 (.int _) rv
theorem wk_enumL {a : Addr} {vs : List V} {xs : List PD} (ha : hid S H a = some (.lst vs)) (ra : RpAll (hid S H) vs xs) : Wk true S (Ite K a) (pairsD xs) H := fun S' H2 e2 al2 => by
  have sq : SqL K H2 a vs := .inl (.inl (hid_le _ _ (e2 _ _ ha)))
  have ra2 := ra.ex e2
  refine ⟨⟨_, sq, by rw [ra2.length]; simp [pairsD]⟩, fun i x hx => ?_⟩
  obtain ⟨y, hy, rfl⟩ := pairs_get hx
  obtain ⟨v, hv, rv⟩ := ra2.get hy
  refine ⟨⟨_, v, sq, hv⟩, fun w H3 yl => ?_⟩
  obtain ⟨T, z, rfl, e2, rfl, e4⟩ := yl
  have ez := e4 _ sq
  rw [hv] at ez
  cases ez
  exact loose2 al2 e2 (.int _) rv
end
def iSeq (K : PySem.W.Frag) (te : TE) : TI := fun σ H R => iList K te σ H R ∨ iTup K te σ H R
def iEnumU (K : PySem.W.Frag) (ta : TA) : TI := fun σ H R => iEnum K ta σ H R ∨ Un.iEnumT K ta σ H R
def seqP : PD → Option (List PD)
  | .list ds => some ds
  | .tuple ds => some ds
  | .dict [(.none, .list ds)] => some ds
  | _ => none
def rngP : List PD → Option (List PD)
  | [.int n] => if -(2 ^ 62) ≤ n ∧ n < 2 ^ 62 then some ((List.range n.toNat).map fun k => .int (0 + (k : Nat))) else none
  | _ => none
def enumP : List PD → Option (List PD)
  | [.list ds] => some (pairsD ds)
  | [.tuple ds] => some (pairsD ds)
  | _ => none
def zipP : List PD → Option (List PD)
  | [.list xs, .list ys] => some (zipD xs ys)
  | [.tuple xs, .tuple ys] => some (zipD xs ys)
  | _ => none
abbrev XI := VE → Option (List PD)
def Es (b : Bool) (wi : TI) (ρ : VE) (xs : List PD) : Prop := ∀ S σ H, Al S H → En (hid S H) σ ρ → ∀ R : It → Hp → Prop, (∀ J H1, Ex H H1 → Wk b S J xs H1 → R J H1) → wi σ H R
def SI (b : Bool) (wi : TI) (x : XI) : Prop := ∀ ρ xs, x ρ = some xs → Es b wi ρ xs
abbrev XWI := Env → Option (List PD × Env)
def SWI (b : Bool) (wi : TI) (w : XWI) : Prop := ∀ pn F T H σ ρ xs ρ', StOk pn F T H σ ρ → w ρ = some (xs, ρ') → ∀ R : It → Hp → Prop, (∀ J T' H', StOk pn F T' H' σ ρ' → Stp F T H T' H' → Wk b (SF F T') J xs H' → R J H') → wi σ H R
def xiE (a : XE) : XI := fun ρ => (a ρ).bind seqP
def xiA (f : List PD → Option (List PD)) (as : XA) : XI := fun ρ => (as ρ).bind f
def wiE (a : XW) : XWI := fun ρ => (a ρ).bind fun x => (seqP x.1).bind fun xs => some (xs, x.2)
def wiA (f : List PD → Option (List PD)) (as : XWA) : XWI := fun ρ => (as ρ).bind fun x => (f x.1).bind fun xs => some (xs, x.2)
section
variable {te : TE} {ts : TA}
theorem core_rng {S : Hs} {vs : List V} {H1 : Hp} {ds xs : List PD} (h : rngP ds = some xs) (rv : RpAll (hid S H1) vs ds) : ∃ j : Int, vs = [.int j] ∧ -(2 ^ 62) ≤ j ∧ j < 2 ^ 62 ∧ Wk false S (Itr 0 j.toNat) xs H1 := by
  unfold rngP at h
  split at h
  · rename_i n
    by_cases c : -(2 ^ 62) ≤ n ∧ n < 2 ^ 62
    · rw [if_pos c] at h
      cases h
      cases rv with
      | cons h1 t =>
        cases t
        cases h1
        exact ⟨n, rfl, c.1, c.2, wk_rng⟩
    · rw [if_neg c] at h; cases h
  · cases h
theorem si_seq {a : XE} (ha : SE te a) : SI false (iSeq K te) (xiE a) := fun ρ xs h S σ H al en R q => by
  obtain ⟨d, h1, h⟩ := bind_some h
  cases d with
  | list ds =>
    cases h
    refine .inl (ha ρ _ h1 S σ H al en _ fun v H1 e1 rv => ?_)
    cases rv with
    | lst hx ra => exact ⟨_, rfl, ⟨_, .inl (.inl (hid_le _ _ hx))⟩, q _ H1 e1 (wk_lst hx ra)⟩
  | tuple ds =>
    cases h
    refine .inr (ha ρ _ h1 S σ H al en _ fun v H1 e1 rv => ?_)
    cases rv with
    | tup hx _ ra => exact ⟨_, rfl, ⟨_, .inl (.inr ⟨_, hid_le _ _ hx⟩)⟩, q _ H1 e1 (wk_tup hx ra)⟩
  | dict kvs =>
    refine .inl (ha ρ _ h1 S σ H al en _ fun v H1 e1 rv => ?_)
    cases rv with
    | dct _ _ hp _ => rcases zip_str hp with e | ⟨k, d, r, e⟩ <;> (subst e; cases h)
    | dci _ _ _ => cases h
    | scr hs ra => cases h; exact ⟨_, rfl, ⟨_, sqx hid_le hs⟩, q _ H1 e1 (wk_scr hs ra)⟩
  | _ => cases h
theorem si_rng {as : XA} (hs : SA ts as) : SI false (iRng1 ts) (xiA rngP as) := fun ρ xs h S σ H al en R q => by
  obtain ⟨ds, h1, h⟩ := bind_some h
  refine hs ρ ds h1 S σ H al en _ fun vs H1 e1 rv => ?_
  obtain ⟨j, h2, h3, h4, w⟩ := core_rng h rv
  exact ⟨j, h2, h3, h4, q _ H1 e1 w⟩
theorem enum_l {ds xs : List PD} (h : enumP ds = some xs) : (∃ l, ds = [.list l]) ∨ ∃ l, ds = [.tuple l] := by
  unfold enumP at h
  split at h
  · exact .inl ⟨_, rfl⟩
  · exact .inr ⟨_, rfl⟩
  · cases h
theorem swi_seq {a : XW} (ha : SW te a) : SWI false (iSeq K te) (wiE a) := fun pn F T H σ ρ xs ρ' st h R q => by
  obtain ⟨⟨d, ρ1⟩, h1, h⟩ := bind_some h
  obtain ⟨ys, h2, h⟩ := bind_some h
  cases h
  cases d with
  | list ds =>
    cases h2
    refine .inl (ha pn F T H σ ρ _ _ st h1 _ fun v T1 H1 st1 s1 rv => ?_)
    cases rv with
    | lst hx ra => exact ⟨_, rfl, ⟨_, .inl (.inl (hid_le _ _ hx))⟩, q _ T1 H1 st1 s1 (wk_lst hx ra)⟩
  | tuple ds =>
    cases h2
    refine .inr (ha pn F T H σ ρ _ _ st h1 _ fun v T1 H1 st1 s1 rv => ?_)
    cases rv with
    | tup hx _ ra => exact ⟨_, rfl, ⟨_, .inl (.inr ⟨_, hid_le _ _ hx⟩)⟩, q _ T1 H1 st1 s1 (wk_tup hx ra)⟩
  | dict kvs =>
    refine .inl (ha pn F T H σ ρ _ _ st h1 _ fun v T1 H1 st1 s1 rv => ?_)
    cases rv with
    | dct _ _ hp _ => rcases zip_str hp with e | ⟨k, d, r, e⟩ <;> (subst e; cases h2)
    | dci _ _ _ => cases h2
    | scr hs ra => cases h2; exact ⟨_, rfl, ⟨_, sqx hid_le hs⟩, q _ T1 H1 st1 s1 (wk_scr hs ra)⟩
  | _ => cases h2
theorem swi_rng {as : XWA} (hs : SWA ts as) : SWI false (iRng1 ts) (wiA rngP as) := fun pn F T H σ ρ xs ρ' st h R q => by
  obtain ⟨⟨ds, ρ1⟩, h1, h⟩ := bind_some h
  obtain ⟨ys, h2, h⟩ := bind_some h
  cases h
  refine hs pn F T H σ ρ ds _ st h1 _ fun vs T1 H1 st1 s1 rv => ?_
  obtain ⟨j, h2, h3, h4, w⟩ := core_rng h2 rv
  exact ⟨j, h2, h3, h4, q _ T1 H1 st1 s1 w⟩
theorem swi_enum {as : XWA} (hs : SWA ts as) : SWI true (iEnumU K ts) (wiA enumP as) := fun pn F T H σ ρ xs ρ' st h R q => by
  obtain ⟨⟨ds, ρ1⟩, h1, h⟩ := bind_some h
  obtain ⟨ys, h2, h⟩ := bind_some h
  cases h
  rcases enum_l h2 with ⟨l, e⟩ | ⟨l, e⟩ <;> (have e : ds = _ := e; subst e)
  · refine .inl (hs pn F T H σ ρ _ _ st h1 _ fun vs T1 H1 st1 s1 rv => ?_)
    cases h2
    cases rv with
    | cons g1 t =>
      cases t
      cases g1 with
      | lst ha ra => exact ⟨_, _, rfl, .inl (.inl (hid_le _ _ ha)), q _ T1 H1 st1 s1 (wk_enumL ha ra)⟩
  · refine .inr (hs pn F T H σ ρ _ _ st h1 _ fun vs T1 H1 st1 s1 rv => ?_)
    cases h2
    cases rv with
    | cons g1 t =>
      cases t
      cases g1 with
      | tup ha _ ra => exact ⟨_, _, rfl, .inl (.inr ⟨_, hid_le _ _ ha⟩), q _ T1 H1 st1 s1 (wk_enumT ha ra)⟩
end
end Uv

namespace Uv
open PySem PySem.Spec PyProof.Rows L2
open Evl (Ex)
variable [kk : KK]
def Off (vs : List Nat) (σ σ' : L2.St) : Prop := σ'.length = σ.length ∧ ∀ (i : Nat), i ∉ vs → σ'[i]? = σ[i]?
theorem Off.refl {vs : List Nat} {σ : L2.St} : Off vs σ σ := ⟨rfl, fun _ _ => rfl⟩
theorem Off.name {i : Nat} {σ : L2.St} {o : Option V} : Off [i] σ (σ.set i o) := ⟨List.length_set, fun j hj => List.getElem?_set_ne fun z => hj (by rw [z]; exact List.mem_cons_self ..)⟩
theorem Off.trans {vs ws : List Nat} {σ σ1 σ2 : L2.St} (a : Off vs σ σ1) (b : Off ws σ1 σ2) : Off (vs ++ ws) σ σ2 := ⟨b.1.trans a.1, fun i hi => (b.2 i fun z => hi (List.mem_append_right _ z)).trans (a.2 i fun z => hi (List.mem_append_left _ z))⟩
def gTU (K : PySem.W.Frag) (n : Nat) (t : TGs) : TG := fun v σ H Q => gTup K n t v σ H Q ∨ gUnl K n t v σ H Q
theorem PG.or {X : Cx} {e : Expr} {t u : TG} (h : PG X e t) (h' : PG X e u) : PG X e (fun v σ H Q => t v σ H Q ∨ u v σ H Q) := ⟨fun pins s σ H v w Q I r q => q.elim (h.run pins s σ H v w Q I r) (h'.run pins s σ H v w Q I r)⟩
abbrev XGV := PD → VE → Option VE
abbrev XGVs := List PD → VE → Option VE
def gvName (i : Nat) : XGV := fun x ρ => some (ρ.set i (some x))
def gvNil : XGVs := fun xs ρ => match xs with
  | [] => some ρ
  | _ :: _ => none
def gvCons (g : XGV) (gs : XGVs) : XGVs := fun xs ρ => match xs with
  | x :: r => (g x ρ).bind fun ρ1 => gs r ρ1
  | [] => none
def gvTup (n : Nat) (gs : XGVs) : XGV := fun x ρ => (seqP x).bind fun ds => if ds.length = n then gs ds ρ else none
def SGV (b : Bool) (g : TG) (xg : XGV) (vs : List Nat) : Prop := ∀ x ρ ρ', xg x ρ = some ρ' → ∀ S σ H v, En (hid S H) σ ρ → Rk b (hid S H) v x → ∀ Q : L2.St → Hp → Prop, (∀ σ', En (hid S H) σ' ρ' → Off vs σ σ' → Q σ' H) → g v σ H Q
abbrev XG := PD → Env → Option Env
abbrev XGs := List PD → Env → Option Env
def gName' (i : Nat) : XG := fun x ρ => some (ρ.set i (.dat x))
def gNil' : XGs := fun xs ρ => match xs with
  | [] => some ρ
  | _ :: _ => none
def gCons' (g : XG) (gs : XGs) : XGs := fun xs ρ => match xs with
  | x :: r => (g x ρ).bind fun ρ1 => gs r ρ1
  | [] => none
def gTup' (n : Nat) (gs : XGs) : XG := fun x ρ => (seqP x).bind fun ds => if ds.length = n then gs ds ρ else none
def SG (b : Bool) (g : TG) (xg : XG) (vs : List Nat) : Prop := ∀ pn F T H σ v x ρ ρ', StOk pn F T H σ ρ → xg x ρ = some ρ' → Rk b (hid (SF F T) H) v x → ∀ Q : L2.St → Hp → Prop, (∀ σ' T', StOk pn F T' H σ' ρ' → Stp F T H T' H → Off vs σ σ' → Q σ' H) → g v σ H Q
def SGs (gs : TGs) (xg : XGs) (vs : List Nat) : Prop := ∀ pn F T H σ ws xs ρ ρ', StOk pn F T H σ ρ → xg xs ρ = some ρ' → RpAll (hid (SF F T) H) ws xs → ∀ Q : L2.St → Hp → Prop, (∀ σ' T', StOk pn F T' H σ' ρ' → Stp F T H T' H → Off vs σ σ' → Q σ' H) → gs ws σ H Q
section
variable {vs ws : List Nat}
theorem sgv_name {i : Nat} : SGV false (gName i) (gvName i) [i] := fun x ρ ρ' h S σ H v en r Q q => by
  cases h
  rcases r with r | ⟨z, _⟩
  · exact q _ (en.set i r) Off.name
  · cases z
theorem seq_read {b : Bool} {n : Nat} {H G : Hp} {v : V} {x : PD} {ds : List PD} (e : Ex G H) (hx : seqP x = some ds) (hn : ds.length = n) (r : Rk b G v x) : ∃ a us, v = .ref a ∧ (SqT K H a us ∨ SqL K H a us) ∧ us.length = n ∧ RpAll G us ds := by
  rcases r with r | ⟨_, a, us, es, rfl, ha, ra, rfl⟩
  · cases r with
    | lst ha ra => cases hx; exact ⟨_, _, rfl, .inr (.inl (.inl (e _ _ ha))), by rw [ra.length, hn], ra⟩
    | tup ha _ ra => cases hx; exact ⟨_, _, rfl, .inl (.inl (.inr ⟨_, e _ _ ha⟩)), by rw [ra.length, hn], ra⟩
    | scr hs ra => cases hx; exact ⟨_, _, rfl, .inr (sqx e hs), by rw [ra.length, hn], ra⟩
    | dct _ _ hp _ => rcases zip_str hp with e | ⟨k, d, r, e⟩ <;> (subst e; cases hx)
    | _ => cases hx
  · cases hx
    exact ⟨a, us, rfl, .inl (.inl (.inl (e _ _ ha))), by rw [ra.length, hn], ra⟩
theorem sg_name {i : Nat} (hi : i ≠ 0) : SG false (gName i) (gName' i) [i] := fun pn F T H σ v x ρ ρ' st h r Q q => by
  cases h
  rcases r with r | ⟨z, _⟩
  · obtain ⟨st', s⟩ := st.set hi r
    exact q _ _ st' s Off.name
  · cases z
theorem sg_nil : SGs gNil gNil' [] := fun pn F T H σ us xs ρ ρ' st h r Q q => by
  cases r with
  | nil => cases h; exact ⟨rfl, q σ T st Stp.refl Off.refl⟩
  | cons _ _ => cases h
theorem sg_cons {g : TG} {gs : TGs} {xg : XG} {xgs : XGs} (hg : SG false g xg vs) (hs : SGs gs xgs ws) : SGs (gCons g gs) (gCons' xg xgs) (vs ++ ws) := fun pn F T H σ us xs ρ ρ' st h r Q q => by
  cases r with
  | nil => cases h
  | cons a b =>
    obtain ⟨ρ1, h1, h2⟩ := bind_some (show (xg _ ρ).bind _ = some ρ' from h)
    exact ⟨_, _, rfl, hg pn F T H σ _ _ ρ ρ1 st h1 (.inl a) _ fun σ1 T1 st1 s1 f1 => hs pn F T1 H σ1 _ _ ρ1 ρ' st1 h2 (b.ex s1.vis) Q fun σ2 T2 st2 s2 f2 => q σ2 T2 st2 (s1.trans s2) (f1.trans f2)⟩
theorem sg_tup {b : Bool} {n : Nat} {gs : TGs} {xgs : XGs} (hs : SGs gs xgs vs) : SG b (gTU K n gs) (gTup' n xgs) vs := fun pn F T H σ v x ρ ρ' st h r Q q => by
  obtain ⟨ds, h1, h⟩ := bind_some h
  by_cases c : ds.length = n
  · rw [if_pos c] at h
    obtain ⟨a, us, rfl, sq, hl, ra⟩ := seq_read (hid_le (S := SF F T)) h1 c r
    rcases sq with sq | sq
    · exact .inl ⟨a, us, rfl, sq, hl, hs pn F T H σ us ds ρ ρ' st h ra Q q⟩
    · exact .inr ⟨a, us, rfl, sq, hl, hs pn F T H σ us ds ρ ρ' st h ra Q q⟩
  · rw [if_neg c] at h; cases h
end
def clear (ρ : VE) : List Nat → VE
  | [] => ρ
  | v :: vs => (clear ρ vs).set v none
theorem clear_en {H : Hp} {σ : L2.St} {ρ : VE} (h : En H σ ρ) : ∀ vs : List Nat, En H (wipe σ vs) (clear ρ vs)
  | [] => h
  | v :: vs => (clear_en h vs).clear v none
theorem wipe_get {σ : L2.St} {i : Nat} : ∀ {vs : List Nat}, i ∉ vs → (wipe σ vs)[i]? = σ[i]?
  | [], _ => rfl
  | v :: vs, h => by
    unfold wipe
    rw [List.getElem?_set_ne (fun z => h (by rw [← z]; exact List.mem_cons_self ..))]
    exact wipe_get fun z => h (List.mem_cons_of_mem _ z)
theorem wipe_at {σ : L2.St} {i : Nat} : ∀ {vs : List Nat}, i ∈ vs → i < σ.length → (wipe σ vs)[i]? = some none
  | v :: vs, h, hl => by
    unfold wipe
    by_cases c : v = i
    · subst c
      exact List.getElem?_set_self (by rw [wipe_length]; exact hl)
    · rw [List.getElem?_set_ne c]
      rcases List.mem_cons.mp h with z | z
      · exact absurd z.symm c
      · exact wipe_at z hl
theorem wipe_eq {σ τ : L2.St} {vs : List Nat} (hl : σ.length = τ.length) (h : ∀ i, i ∉ vs → σ[i]? = τ[i]?) : wipe σ vs = wipe τ vs := by
  apply List.ext_getElem?
  intro i
  by_cases c : i ∈ vs
  · by_cases b : i < σ.length
    · rw [wipe_at c b, wipe_at c (by omega)]
    · rw [List.getElem?_eq_none (by rw [wipe_length]; omega), List.getElem?_eq_none (by rw [wipe_length]; omega)]
  · rw [wipe_get c, wipe_get c]
    exact h i c
theorem wipe_off {vs : List Nat} {σ τ : L2.St} {us : List Nat} (f : Off us (wipe σ vs) τ) (hu : ∀ i ∈ us, i ∈ vs) : wipe τ vs = wipe σ vs := by
  have ew : wipe (wipe σ vs) vs = wipe σ vs := wipe_eq (wipe_length σ vs) fun j hj => wipe_get hj
  rw [← ew]
  exact wipe_eq f.1 fun j hj => f.2 j fun z => hj (hu j z)
def lcGo (g : XGV) (t : XT) (e : XE) (ρ : VE) : List PD → Option (List PD)
  | [] => some []
  | x :: xs => (g x ρ).bind fun ρ1 => (t ρ1).bind fun b => if b = true then (e ρ1).bind fun d => (lcGo g t e ρ xs).bind fun ds => some (d :: ds) else lcGo g t e ρ xs
def xLc (src : XI) (g : XGV) (t : XT) (e : XE) (vs : List Nat) : XE := fun ρ => (src ρ).bind fun xs => if xs.length ≤ 40000 then (lcGo g t e (clear ρ vs) xs).bind fun ds => some (.list ds) else none
def FrL (te : TE) (ρ : VE) (ds : List PD) : Prop := ∀ S σ H, Al S H → En (hid S H) σ ρ → ∀ Q : VK, (∀ p vs H2, Ex H H2 → H p = none → H2 p = some (.lst vs) → RpAll (hid (fun x => x = p ∨ S x) H2) vs ds → Q (.ref p) H2) → te σ H Q
def SEF (te : TE) (x : XE) : Prop := ∀ ρ d, x ρ = some d → ∃ ds, d = .list ds ∧ FrL te ρ ds
theorem SEF.se {te : TE} {x : XE} (h : SEF te x) : SE te x := fun ρ d e S σ H al en Q q => by
  obtain ⟨ds, rfl, f⟩ := h ρ d e
  exact f S σ H al en Q fun p vs H2 e2 hp h2 ra => q _ H2 e2 (.lst (by rw [hid_out (al.new hp)]; exact h2) (ra.ex (hid_sub fun x hx => .inr hx)))
section
theorem lc_step {g : XGV} {t : XT} {e : XE} {ρ : VE} {x : PD} {xs ds : List PD} (h : lcGo g t e ρ (x :: xs) = some ds) : ∃ ρ1 b, g x ρ = some ρ1 ∧ t ρ1 = some b ∧ ((b = true ∧ ∃ d ds', e ρ1 = some d ∧ lcGo g t e ρ xs = some ds' ∧ ds = d :: ds') ∨ (b = false ∧ lcGo g t e ρ xs = some ds)) := by
  obtain ⟨ρ1, h1, h⟩ := bind_some (show (g x ρ).bind _ = some ds from h)
  obtain ⟨b, h2, h⟩ := bind_some h
  refine ⟨ρ1, b, h1, h2, ?_⟩
  cases b with
  | true =>
    obtain ⟨d, h3, h⟩ := bind_some (show (e ρ1).bind _ = some ds from h)
    obtain ⟨ds', h4, h⟩ := bind_some h
    cases h
    exact .inl ⟨rfl, d, ds', h3, h4, rfl⟩
  | false => exact .inr ⟨rfl, h⟩
theorem sef_lc {b : Bool} {wi : TI} {g : TG} {tt : TT} {te : TE} {vs us : List Nat} {src : XI} {xg : XGV} {t : XT} {e : XE} (hs : SI b wi src) (hg : SGV b g xg us) (hu : ∀ i ∈ us, i ∈ vs) (ht : ST tt t) (he : SE te e) : SEF (tLc wi g tt te vs) (xLc src xg t e vs) := fun ρ d h => by
  obtain ⟨xs, h1, h⟩ := bind_some h
  by_cases hz : xs.length ≤ 40000
  · rw [if_pos hz] at h
    obtain ⟨ds, h2, h⟩ := bind_some h
    cases h
    refine ⟨ds, rfl, fun S σ H al en Q q => hs ρ xs h1 S σ H al en _ fun J H1 e1 wk D hD => ?_⟩
    have al1 := al.ex e1
    have alD : Al (fun x => x = D ∨ S x) (upd H1 D (.lst [])) := fun x hx => by
      by_cases c : x = D
      · subst c; rw [upd_same]; exact fun z => nomatch z
      · rw [upd_ne c]; exact al1 x (hx.resolve_left c)
    refine ⟨fun i m H' => m = xs.length - i ∧ i ≤ xs.length ∧ Ex H1 H' ∧ Al (fun x => x = D ∨ S x) H' ∧ ∃ acc ds1 ds2, H' D = some (.lst acc) ∧ acc.length ≤ i ∧ RpAll (hid (fun x => x = D ∨ S x) H') acc ds1 ∧ lcGo xg t e (clear ρ vs) (xs.drop i) = some ds2 ∧ ds = ds1 ++ ds2,
      ⟨_, rfl, Nat.zero_le _, Ex.new hD, alD, [], [], ds, upd_same, Nat.le_refl _, .nil, h2, rfl⟩, fun i m H' hw => ?_⟩
    obtain ⟨rfl, hi, e2, al2, acc, ds1, ds2, hacc, la, ra, hgo, hds⟩ := hw
    have ewk : Ex (hid S H1) (hid (fun x => x = D ∨ S x) H') := hid_cons e2 hD
    obtain ⟨w1, w2⟩ := wk _ H' ewk al2
    by_cases hlt : i < xs.length
    · obtain ⟨w3, w4⟩ := w2 i _ (List.getElem?_eq_getElem hlt)
      rw [List.drop_eq_getElem_cons hlt] at hgo
      obtain ⟨ρ1, b1, g1, t1, alt⟩ := lc_step hgo
      refine .inr ⟨w3, fun H2 => Ex H1 H2 ∧ Al (fun x => x = D ∨ S x) H2 ∧ ∃ acc ds1 ds2, H2 D = some (.lst acc) ∧ acc.length ≤ i + 1 ∧ RpAll (hid (fun x => x = D ∨ S x) H2) acc ds1 ∧ lcGo xg t e (clear ρ vs) (xs.drop (i + 1)) = some ds2 ∧ ds = ds1 ++ ds2, fun H2 hn => ⟨_, by omega, rfl, hlt, hn⟩, fun v H3 y => ?_⟩
      obtain ⟨e3, rv⟩ := w4 v H3 y
      have al3 := al2.ex e3
      have en3 : En (hid (fun x => x = D ∨ S x) H3) (wipe σ vs) (clear ρ vs) := clear_en (en.ex (((hid_ex e1).trans ewk).trans (hid_ex e3))) vs
      refine hg _ _ ρ1 g1 _ (wipe σ vs) H3 v en3 rv _ fun σ4 en4 off => ⟨wipe_off off hu, ?_⟩
      refine ht ρ1 b1 t1 _ σ4 H3 al3 en4 _ fun H5 e5 => ?_
      have hacc5 : H5 D = some (.lst acc) := e5 _ _ (e3 _ _ hacc)
      have ra5 := ra.ex ((hid_ex (S := fun x => x = D ∨ S x) e3).trans (hid_ex e5))
      rcases alt with ⟨rfl, d1, ds', f1, f2, rfl⟩ | ⟨rfl, f2⟩
      · show te σ4 H5 _
        refine he ρ1 d1 f1 _ σ4 H5 (al3.ex e5) (en4.ex (hid_ex e5)) _ fun z H6 e6 rz => ⟨acc, e6 _ _ hacc5, Evl.sz_lt (by omega), Ex.mut (((e2.trans e3).trans e5).trans e6) hD, ?_, acc ++ [z], ds1 ++ [d1], ds', upd_same, by rw [List.length_append]; simpa using la, ?_, f2, by rw [hds, List.append_assoc]; rfl⟩
        · intro x hx
          by_cases c : x = D
          · subst c; rw [upd_same]; exact fun q => nomatch q
          · rw [upd_ne c]; exact ((al3.ex e5).ex e6) x hx
        · have hu' : Ex (hid (fun x => x = D ∨ S x) H6) (hid (fun x => x = D ∨ S x) (upd H6 D (.lst (acc ++ [z])))) := fun x o h => by
            obtain ⟨c, h⟩ := hid_some h
            rw [hid_out c, upd_ne (fun z => c (.inl z))]
            exact h
          exact RpAll.append (ra5.ex ((hid_ex e6).trans hu')) (.cons (rz.ex hu') .nil)
      · exact ⟨(e2.trans e3).trans e5, al3.ex e5, acc, ds1, ds2, hacc5, by omega, ra5, f2, hds⟩
    · have ei : i = xs.length := by omega
      subst ei
      rw [List.drop_length] at hgo
      cases hgo
      rw [List.append_nil] at hds
      subst hds
      exact .inl ⟨w1, q D acc H' (e1.trans e2) (by
        cases qq : H D with
        | none => rfl
        | some o => rw [e1 _ _ qq] at hD; cases hD) hacc ra⟩
  · rw [if_neg hz] at h; cases h
theorem sef_lst {ts : TA} {as : XA} (hs : SA ts as) : SEF (tLst ts) (xLst as) := fun ρ d h => by
  obtain ⟨ds, h1, h⟩ := bind_some h
  by_cases hl : ds.length ≤ 100000
  · rw [if_pos hl] at h
    cases h
    refine ⟨ds, rfl, fun S σ H al en Q q => hs ρ ds h1 S σ H al en _ fun vs H1 e1 ra => ⟨by rw [ra.length]; exact Evl.sz_of hl, fun p hp => q p vs _ (e1.trans (Ex.new hp)) (by
      cases qq : H p with
      | none => rfl
      | some o => rw [e1 _ _ qq] at hp; cases hp) upd_same (ra.ex (hid_cons (Ex.new hp) hp))⟩⟩
  · rw [if_neg hl] at h; cases h
end
end Uv

namespace Uv
open PySem PySem.Spec PyProof.Rows L2
open Evl (Ex)
variable [kk : KK]
theorem FL_nil {F : Hs} : FL F [] = F := funext fun x => propext ⟨fun h => h.elim id (fun z => nomatch z), .inl⟩
theorem FL_app {F : Hs} {A B : List Addr} : FL (FL F A) B = FL F (A ++ B) := funext fun x => propext ⟨fun h => h.elim (fun h => h.elim .inl fun z => .inr (List.mem_append_left _ z)) fun z => .inr (List.mem_append_right _ z),
  fun h => h.elim (fun h => .inl (.inl h)) fun z => (List.mem_append.mp z).elim (fun z => .inl (.inr z)) .inr⟩
theorem FL_perm {F : Hs} {A B : List Addr} (h : ∀ x, x ∈ A ↔ x ∈ B) : FL F A = FL F B := funext fun x => propext ⟨fun z => z.elim .inl fun z => .inr ((h x).mp z), fun z => z.elim .inl fun z => .inr ((h x).mpr z)⟩
theorem SF_FL1 {F : Hs} {T : Trs} {p : Addr} : SF (FL F [p]) T = fun x => x = p ∨ SF F T x := funext fun x => propext ⟨fun h => h.elim (fun h => h.elim (fun z => .inr (.inl z)) fun z => .inl (by simpa using z)) fun z => .inr (.inr z),
  fun h => h.elim (fun z => .inl (.inr (by rw [z]; exact List.mem_cons_self ..))) fun z => z.elim (fun z => .inl (.inl z)) .inr⟩
section
variable {pn : Option V} {F : Hs} {T : Trs} {H H2 : Hp} {σ : L2.St} {ρ : Env}
theorem StOk.fresh (st : StOk pn F T H σ ρ) (e : Ex H H2) {p : Addr} (hp : H p = none) (h2 : H2 p ≠ none) : StOk pn (FL F [p]) T H2 σ ρ ∧ Ex (hid (SF F T) H) (hid (SF (FL F [p]) T) H2) := by
  have vis : Ex (hid (SF F T) H) (hid (SF (FL F [p]) T) H2) := by rw [SF_FL1]; exact hid_cons e hp
  have st2 := st.ex e
  refine ⟨⟨st.len, fun x h => ?_, fun i x hx z => ?_, st.dis, st.nd, st.out, fun i s hi => ?_, st.pin⟩, vis⟩
  · rcases h with h | h
    · exact st2.al x h
    · have ex : x = p := by simpa using h
      rw [ex]; exact h2
  · rcases z with z | z
    · exact st.off i x hx z
    · have ex : x = p := by simpa using z
      obtain ⟨vs, q, _⟩ := st.lst hx
      rw [ex, hp] at q
      cases q
  · obtain ⟨o, h1, h3⟩ := st.sl i s hi
    refine ⟨o, h1, h3.mv vis fun x hx => ?_⟩
    obtain ⟨vs, q, _⟩ := st.lst hx
    rw [q, e x _ q]
end
abbrev XWC := Env → Option (List Cel × Env)
def SWC (ta : TA) (w : XWC) : Prop := ∀ pn F T H σ ρ cs ρ', StOk pn F T H σ ρ → w ρ = some (cs, ρ') → ∀ Q : List V → Hp → Prop, (∀ vs B T' H', StOk pn (FL F B) T' H' σ ρ' → B.Nodup → (∀ x ∈ B, ¬ F x) → (∀ x, F x → H' x = H x) → Ex (hid (SF F T) H) (hid (SF (FL F B) T') H') → Cels (hid (SF (FL F B) T') H') H' vs cs B → Q vs H') → ta σ H Q
def asList : PD → Option (List PD)
  | .list ds => some ds
  | _ => none
theorem asList_eq {d : PD} {ds : List PD} (h : asList d = some ds) : d = .list ds := by
  cases d with
  | list l => cases h; rfl
  | _ => cases h
def wOM (x : XE) : XWO := fun ρ => ((x (mk ρ)).bind asList).bind fun ds => some (ds.map Cel.dat, ρ)
def wOV (x : XE) : XWO := fun ρ => ((x (vw ρ)).bind asList).bind fun ds => if flats ds = true then some (ds.map Cel.dat, ρ) else none
theorem Cels.dats {G H : Hp} : ∀ {vs : List V} {ds : List PD}, RpAll G vs ds → Cels G H vs (ds.map Cel.dat) []
  | _, _, .nil => .nil
  | _, _, .cons h r => .dat h (Cels.dats r)
theorem swo_M {te : TE} {x : XE} (h : SEF te x) : SWO te (wOM x) := fun pn F T H σ ρ cs ρ' st e Q q => by
  obtain ⟨ds, h1, h2⟩ := bind_some e
  obtain ⟨d, h1, h3⟩ := bind_some h1
  cases h2
  have e := asList_eq h3
  subst e
  obtain ⟨ds', e', f⟩ := h _ _ h1
  cases e'
  refine f (SF F T) σ H st.als st.mkd Q fun p vs H2 e2 hp h2 ra => ?_
  obtain ⟨st2, vis⟩ := st.fresh e2 hp (by rw [h2]; exact fun z => nomatch z)
  refine q _ [p] T H2 st2 (by simp) (fun x hx => ?_) (Stp.ex (T := T) st.al e2).fr vis ⟨p, vs, [], rfl, h2, Cels.dats (by rw [SF_FL1]; exact ra), rfl⟩
  have ex : x = p := by simpa using hx
  rw [ex]
  exact st.al.new hp
def wFz (o : XWO) : XW := fun ρ => (o ρ).bind fun x => some (.list (x.1.map Cel.pd), x.2)
theorem sw_fz {te : TE} {o : XWO} (h : SWO te o) : SW te (wFz o) := fun pn F T H σ ρ d ρ' st e Q q => by
  obtain ⟨⟨cs, ρ1⟩, h1, e⟩ := bind_some e
  cases e
  refine h pn F T H σ ρ cs _ st h1 Q fun v A T' H' st' nd off fr vis ow => ?_
  obtain ⟨st2, sub⟩ := st'.thaw
  refine q v T' H' st2 ⟨fr, vis.trans sub⟩ (ow.rp sub fun x hx => hid_out ?_)
  rintro (z | ⟨i, z⟩)
  · exact off x hx z
  · exact st'.off i x z (.inr hx)
def wcNil : XWC := fun ρ => some ([], ρ)
def wcDat (a : XW) (as : XWC) : XWC := fun ρ => (a ρ).bind fun x => (as x.2).bind fun xs => some (.dat x.1 :: xs.1, xs.2)
def allDat : List Cel → Option (List PD)
  | [] => some []
  | .dat d :: r => (allDat r).bind fun ds => some (d :: ds)
  | .sub _ :: _ => none
theorem allDat_map : ∀ ds : List PD, allDat (ds.map Cel.dat) = some ds
  | [] => rfl
  | d :: ds => by rw [List.map_cons, allDat, allDat_map ds]; rfl
theorem allDat_eq : ∀ {cs : List Cel} {ds : List PD}, allDat cs = some ds → cs = ds.map Cel.dat
  | [], ds, h => by cases h; rfl
  | .dat d :: r, ds, h => by
    obtain ⟨es, h1, h2⟩ := bind_some (show (allDat r).bind _ = some ds from h)
    cases h2
    rw [allDat_eq h1]
    rfl
  | .sub _ :: _, _, h => nomatch h
def wcSub (a : XWO) (as : XWC) : XWC := fun ρ => (a ρ).bind fun x => (allDat x.1).bind fun ds => (as x.2).bind fun xs => some (.sub ds :: xs.1, xs.2)
theorem Cels.dats_inv {G H : Hp} : ∀ {vs : List V} {ds : List PD} {B : List Addr}, Cels G H vs (ds.map Cel.dat) B → RpAll G vs ds ∧ B = []
  | _, [], _, .nil => ⟨.nil, rfl⟩
  | _, d :: ds, _, .dat r c => ⟨.cons r (Cels.dats_inv c).1, (Cels.dats_inv c).2⟩
theorem swc_nil : SWC tNil wcNil := fun pn F T H σ ρ cs ρ' st e Q q => by
  cases e
  exact q [] [] T H (by rw [FL_nil]; exact st) (by simp) (fun x hx => nomatch hx) (fun _ _ => rfl) (by rw [FL_nil]; exact Ex.refl _) .nil
theorem swc_dat {ta : TE} {ts : TA} {a : XW} {as : XWC} (ha : SW ta a) (hs : SWC ts as) : SWC (tCons ta ts) (wcDat a as) := fun pn F T H σ ρ cs ρ' st e Q q => by
  obtain ⟨⟨x, ρ1⟩, h1, e⟩ := bind_some e
  obtain ⟨⟨xs, ρ2⟩, h2, e⟩ := bind_some e
  cases e
  exact ha pn F T H σ ρ x ρ1 st h1 _ fun v T1 H1 st1 s1 rv => hs pn F T1 H1 σ ρ1 xs ρ2 st1 h2 _ fun vs B T2 H2 st2 nd off fr vis c =>
    q (v :: vs) B T2 H2 st2 nd off (fun x hx => (fr x hx).trans (s1.fr x hx)) (s1.vis.trans vis) (.dat (rv.ex vis) c)
theorem swc_sub {ta : TE} {ts : TA} {a : XWO} {as : XWC} (ha : SWO ta a) (hs : SWC ts as) : SWC (tCons ta ts) (wcSub a as) := fun pn F T H σ ρ cs ρ' st e0 Q q => by
  obtain ⟨⟨x, ρ1⟩, h1, e1⟩ := bind_some e0
  obtain ⟨ds, hd, e2⟩ := bind_some e1
  obtain ⟨⟨xs, ρ2⟩, h2, e3⟩ := bind_some e2
  have e4 : some (Cel.sub ds :: xs, ρ2) = some (cs, ρ') := e3
  clear e0 e1 e2 e3
  obtain ⟨rfl, rfl⟩ := Prod.mk.inj (Option.some.inj e4)
  have ex : x = _ := allDat_eq hd
  subst ex
  refine ha pn F T H σ ρ _ ρ1 st h1 _ fun v A T1 H1 st1 nd off fr vis ow => ?_
  obtain ⟨b, ws, B0, rfl, hb, cb, rfl⟩ := ow
  obtain ⟨ra, rfl⟩ := cb.dats_inv
  refine hs pn (FL F [b]) T1 H1 σ ρ1 xs ρ2 st1 h2 _ fun vs B T2 H2 st2 nd2 off2 fr2 vis2 c => ?_
  have eF : FL (FL F [b]) B = FL F (b :: B) := FL_app
  rw [eF] at st2 vis2 c
  have hb2 : H2 b = some (.lst ws) := by rw [fr2 b (.inr (List.mem_cons_self ..))]; exact hb
  refine q (.ref b :: vs) (b :: B) T2 H2 st2 (List.nodup_cons.mpr ⟨fun z => off2 b z (.inr (List.mem_cons_self ..)), nd2⟩) (fun x hx => ?_) (fun x hx => (fr2 x (.inl hx)).trans (fr x hx)) (vis.trans vis2) (.sub hb2 (ra.ex vis2) c)
  rcases List.mem_cons.mp hx with z | z
  · rw [z]; exact off b (List.mem_cons_self ..)
  · exact fun w => off2 x z (.inl w)
def wOL (as : XWC) : XWO := fun ρ => (as ρ).bind fun x => if x.1.length ≤ 100000 then some x else none
theorem swo_lst {ts : TA} {as : XWC} (hs : SWC ts as) : SWO (tLst ts) (wOL as) := fun pn F T H σ ρ cs ρ' st e Q q => by
  obtain ⟨⟨xs, ρ1⟩, h1, e⟩ := bind_some e
  by_cases hl : xs.length ≤ 100000
  · rw [if_pos hl] at e
    cases e
    refine hs pn F T H σ ρ _ _ st h1 _ fun vs B T1 H1 st1 nd off fr vis c => ⟨by rw [c.length]; exact Evl.sz_of hl, fun p hp => ?_⟩
    obtain ⟨st2, vis2⟩ := st1.fresh (Ex.new (o := .lst vs) hp) hp (by rw [upd_same]; exact fun z => nomatch z)
    have eF : FL (FL F B) [p] = FL F (p :: B) := by
      rw [FL_app]
      exact FL_perm fun x => by simp [or_comm]
    rw [eF] at st2 vis2
    have npB : ∀ x ∈ B, x ≠ p := fun x hx z => by
      have := st1.al x (.inr hx)
      rw [z, hp] at this
      exact this rfl
    have npF : ∀ x, F x → x ≠ p := fun x hx z => by
      have := st1.al x (.inl hx)
      rw [z, hp] at this
      exact this rfl
    refine q (.ref p) (p :: B) T1 _ st2 (List.nodup_cons.mpr ⟨fun z => npB p z rfl, nd⟩) (fun x hx => ?_) (fun x hx => by rw [upd_ne (npF x hx)]; exact fr x hx) (vis.trans vis2) ⟨p, vs, B, rfl, upd_same, c.mv vis2 fun x hx => upd_ne (npB x hx), rfl⟩
    rcases List.mem_cons.mp hx with z | z
    · rw [z]; exact fun w => npF p w rfl
    · exact off x z
  · rw [if_neg hl] at e; cases e
end Uv

namespace Uv
open PySem PySem.Spec PyProof.Rows L2
open Evl (Ex)
variable [kk : KK]
inductive Out | nxt (ρ : Env) | ret (d : PD) (ρ : Env) | retO (cs : List Cel) (ρ : Env) | brk (ρ : Env) | cnt (ρ : Env)
abbrev XS := Env → Option Out
def OutOk (pn : Option V) (F : Hs) (T : Trs) (H : Hp) (D : Ends) : Out → Prop
  | .nxt ρ => ∀ σ T' H', StOk pn F T' H' σ ρ → Stp F T H T' H' → D.nx σ H'
  | .brk ρ => ∀ σ T' H', StOk pn F T' H' σ ρ → Stp F T H T' H' → D.bk σ H'
  | .cnt ρ => ∀ σ T' H', StOk pn F T' H' σ ρ → Stp F T H T' H' → D.ct σ H'
  | .ret d ρ => ∀ v σ T' H', StOk pn F T' H' σ ρ → Stp F T H T' H' → Rp (hid (SF F T') H') v d → D.rt v H'
  | .retO cs ρ => ∀ v A σ T' H', StOk pn (FL F A) T' H' σ ρ → A.Nodup → (∀ x ∈ A, ¬ F x) → (∀ x, F x → H' x = H x) → Ex (hid (SF F T) H) (hid (SF (FL F A) T') H') → Own (hid (SF (FL F A) T') H') H' v cs A → D.rt v H'
def SS (ts : TS) (x : XS) : Prop := ∀ pn F T H σ ρ o D, StOk pn F T H σ ρ → x ρ = some o → OutOk pn F T H D o → ts D σ H
theorem OutOk.step {pn : Option V} {F : Hs} {T T1 : Trs} {H H1 : Hp} {D : Ends} (s : Stp F T H T1 H1) : ∀ {o : Out}, OutOk pn F T H D o → OutOk pn F T1 H1 D o
  | .nxt _, h => fun σ T' H' st s' => h σ T' H' st (s.trans s')
  | .brk _, h => fun σ T' H' st s' => h σ T' H' st (s.trans s')
  | .cnt _, h => fun σ T' H' st s' => h σ T' H' st (s.trans s')
  | .ret _ _, h => fun v σ T' H' st s' => h v σ T' H' st (s.trans s')
  | .retO _ _, h => fun v A σ T' H' st nd off fr vis => h v A σ T' H' st nd off (fun x hx => (fr x hx).trans (s.fr x hx)) (s.vis.trans vis)
theorem OutOk.on {pn : Option V} {F : Hs} {T : Trs} {H : Hp} {D : Ends} {nx bk ct : L2.St → Hp → Prop} : ∀ {o : Out}, (∀ ρ, o ≠ .nxt ρ) → (∀ ρ, o ≠ .brk ρ) → (∀ ρ, o ≠ .cnt ρ) → OutOk pn F T H D o → OutOk pn F T H { D with nx := nx, bk := bk, ct := ct } o
  | .nxt _, h, _, _, _ => absurd rfl (h _)
  | .brk _, _, h, _, _ => absurd rfl (h _)
  | .cnt _, _, _, h, _ => absurd rfl (h _)
  | .ret _ _, _, _, _, h => h
  | .retO _ _, _, _, _, h => h
def sNext : XS := fun ρ => some (.nxt ρ)
def sCont : XS := fun ρ => some (.cnt ρ)
def sBreak : XS := fun ρ => some (.brk ρ)
def sSeq (x y : XS) : XS := fun ρ => (x ρ).bind fun o => match o with
  | .nxt ρ1 => y ρ1
  | o => some o
def sRet (w : XW) : XS := fun ρ => (w ρ).bind fun x => some (.ret x.1 x.2)
def sRetN : XS := fun ρ => some (.ret .none ρ)
def sRetO (w : XWO) : XS := fun ρ => (w ρ).bind fun x => some (.retO x.1 x.2)
def sIf (c : XWT) (x y : XS) : XS := fun ρ => (c ρ).bind fun k => if k.1 = true then x k.2 else y k.2
def sAsg (g : XG) (w : XW) : XS := fun ρ => (w ρ).bind fun x => (g x.1 x.2).bind fun ρ1 => some (.nxt ρ1)
def sOwn (i : Nat) (w : XWO) : XS := fun ρ => (w ρ).bind fun x => if i < x.2.length then some (.nxt (x.2.set i (.own x.1))) else none
def sDrop (w : XW) : XS := fun ρ => (w ρ).bind fun x => some (.nxt x.2)
def toSl : Cel → Sl
  | .dat d => .dat d
  | .sub ds => .own (ds.map Cel.dat)
def two : List Cel → Option (Cel × Cel)
  | [c, e] => some (c, e)
  | _ => none
def sPar (i j : Nat) (as : XWC) : XS := fun ρ => (as ρ).bind fun x => (two x.1).bind fun c => if i < x.2.length ∧ j < x.2.length then some (.nxt ((x.2.set i (toSl c.1)).set j (toSl c.2))) else none
section
variable {te : TE} {t u : TS} {ct : TT} {x y : XS} {w : XW} {c : XWT}
theorem ss_next : SS tNext sNext := fun pn F T H σ ρ o D st e q => by cases e; exact q σ T H st Stp.refl
theorem ss_seq (hx : SS t x) (hy : SS u y) : SS (tSeq t u) (sSeq x y) := fun pn F T H σ ρ o D st e q => by
  obtain ⟨o1, h1, e⟩ := bind_some e
  cases o1 with
  | nxt ρ1 => exact hx pn F T H σ ρ _ { D with nx := u D } st h1 fun σ2 T2 H2 st2 s2 => hy pn F T2 H2 σ2 ρ1 o D st2 e (q.step s2)
  | ret d ρ1 => cases e; exact hx pn F T H σ ρ _ { D with nx := u D } st h1 q
  | retO d ρ1 => cases e; exact hx pn F T H σ ρ _ { D with nx := u D } st h1 q
  | brk ρ1 => cases e; exact hx pn F T H σ ρ _ { D with nx := u D } st h1 q
  | cnt ρ1 => cases e; exact hx pn F T H σ ρ _ { D with nx := u D } st h1 q
theorem ss_ret (h : SW te w) : SS (tRet te) (sRet w) := fun pn F T H σ ρ o D st e q => by
  obtain ⟨⟨d, ρ1⟩, h1, e⟩ := bind_some e
  cases e
  exact h pn F T H σ ρ d ρ1 st h1 _ fun v T' H' st' s' rv => q v σ T' H' st' s' rv
theorem ss_retO {w : XWO} (h : SWO te w) : SS (tRet te) (sRetO w) := fun pn F T H σ ρ o D st e q => by
  obtain ⟨⟨d, ρ1⟩, h1, e⟩ := bind_some e
  cases e
  exact h pn F T H σ ρ d ρ1 st h1 _ fun v A T' H' st' nd off fr vis ow => q v A σ T' H' st' nd off fr vis ow
theorem ss_if (hc : SWT ct c) (hx : SS t x) (hy : SS u y) : SS (tIfS ct t u) (sIf c x y) := fun pn F T H σ ρ o D st e q => by
  obtain ⟨⟨k, ρ1⟩, h1, e⟩ := bind_some e
  refine hc pn F T H σ ρ k ρ1 st h1 _ fun T1 H1 st1 s1 => ?_
  cases k with
  | true => exact hx pn F T1 H1 σ ρ1 o D st1 e (q.step s1)
  | false => exact hy pn F T1 H1 σ ρ1 o D st1 e (q.step s1)
theorem ss_asg {g : TG} {xg : XG} {vs : List Nat} (hg : SG false g xg vs) (h : SW te w) : SS (tAsg te g) (sAsg xg w) := fun pn F T H σ ρ o D st e q => by
  obtain ⟨⟨d, ρ1⟩, h1, e⟩ := bind_some e
  obtain ⟨ρ2, h2, e⟩ := bind_some e
  cases e
  exact h pn F T H σ ρ d ρ1 st h1 _ fun v T1 H1 st1 s1 rv => hg pn F T1 H1 σ v d ρ1 ρ2 st1 h2 (.inl rv) _ fun σ' T' st' s' _ => q σ' T' H1 st' (s1.trans s')
theorem ss_own {i : Nat} {w : XWO} (hi : i ≠ 0) (h : SWO te w) : SS (tAsg te (gName i)) (sOwn i w) := fun pn F T H σ ρ o D st e q => by
  obtain ⟨⟨cs, ρ1⟩, h1, e⟩ := bind_some e
  by_cases c : i < ρ1.length
  · rw [if_pos c] at e
    cases e
    refine h pn F T H σ ρ cs ρ1 st h1 _ fun v A T' H' st' nd off fr vis ow => ?_
    obtain ⟨st2, vis2⟩ := st'.own hi c ow nd off
    exact q _ _ H' st2 ⟨fr, vis.trans vis2⟩
  · rw [if_neg c] at e; cases e
end
section
variable {G H : Hp}
theorem Cels.snoc : ∀ {vs : List V} {cs : List Cel} {B : List Addr} {v : V} {d : PD}, Cels G H vs cs B → Rp G v d → Cels G H (vs ++ [v]) (cs ++ [.dat d]) B
  | _, _, _, _, _, .nil, r => .dat r .nil
  | _, _, _, _, _, .dat h c, r => .dat h (c.snoc r)
  | _, _, _, _, _, .sub h1 h2 c, r => .sub h1 h2 (c.snoc r)
theorem Cels.app : ∀ {vs us : List V} {cs : List Cel} {ds : List PD} {B : List Addr}, Cels G H vs cs B → RpAll G us ds → Cels G H (vs ++ us) (cs ++ ds.map Cel.dat) B
  | _, _, _, _, _, .nil, r => Cels.dats r
  | _, _, _, _, _, .dat h c, r => .dat h (c.app r)
  | _, _, _, _, _, .sub h1 h2 c, r => .sub h1 h2 (c.app r)
theorem Cels.ins : ∀ (n : Nat) {vs : List V} {cs : List Cel} {B : List Addr} {v : V} {d : PD}, Cels G H vs cs B → Rp G v d → Cels G H (vs.take n ++ [v] ++ vs.drop n) (cs.take n ++ [.dat d] ++ cs.drop n) B
  | 0, _, _, _, _, _, c, r => by simpa using Cels.dat r c
  | n + 1, _, _, _, _, _, .nil, r => by simpa using Cels.dat r .nil
  | n + 1, _, _, _, _, _, .dat h c, r => by simpa using Cels.dat h (c.ins n r)
  | n + 1, _, _, _, _, _, .sub h1 h2 c, r => by simpa using Cels.sub h1 h2 (c.ins n r)
theorem Cels.set : ∀ (n : Nat) {vs : List V} {cs : List Cel} {B : List Addr} {v : V} {d d0 : PD}, Cels G H vs cs B → cs[n]? = some (.dat d0) → Rp G v d → Cels G H (vs.set n v) (cs.set n (.dat d)) B
  | _, _, _, _, _, _, _, .nil, h, _ => by simp at h
  | 0, _, _, _, _, _, _, .dat _ c, _, r => by simpa using Cels.dat r c
  | 0, _, _, _, _, _, _, .sub _ _ c, h, r => by simp at h
  | n + 1, _, _, _, _, _, _, .dat h0 c, h, r => by simpa using Cels.dat h0 (c.set n (by simpa using h) r)
  | n + 1, _, _, _, _, _, _, .sub h1 h2 c, h, r => by simpa using Cels.sub h1 h2 (c.set n (by simpa using h) r)
theorem Cels.erase : ∀ (n : Nat) {vs : List V} {cs : List Cel} {B : List Addr} {d0 : PD}, Cels G H vs cs B → cs[n]? = some (.dat d0) → Cels G H (vs.eraseIdx n) (cs.eraseIdx n) B ∧ ∃ v, vs[n]? = some v ∧ Rp G v d0
  | _, _, _, _, _, .nil, h => by simp at h
  | 0, _, _, _, _, .dat r c, h => by
    cases Option.some.inj (show some (Cel.dat _) = some (Cel.dat _) from h)
    exact ⟨by simpa using c, _, rfl, r⟩
  | 0, _, _, _, _, .sub _ _ c, h => by simp at h
  | n + 1, _, _, _, _, .dat h0 c, h => by
    obtain ⟨c1, v, e, r⟩ := c.erase n (by simpa using h)
    exact ⟨by simpa using Cels.dat h0 c1, v, by simpa using e, r⟩
  | n + 1, _, _, _, _, .sub h1 h2 c, h => by
    obtain ⟨c1, v, e, r⟩ := c.erase n (by simpa using h)
    exact ⟨by simpa using Cels.sub h1 h2 c1, v, by simpa using e, r⟩
theorem Cels.inner : ∀ (n : Nat) {vs : List V} {cs : List Cel} {B : List Addr} {ds : List PD}, Cels G H vs cs B → B.Nodup → cs[n]? = some (.sub ds) → ∃ b ws, vs[n]? = some (.ref b) ∧ b ∈ B ∧ H b = some (.lst ws) ∧ RpAll G ws ds ∧
    ∀ (ws' : List V) (ds' : List PD), RpAll G ws' ds' → Cels G (upd H b (.lst ws')) vs (cs.set n (.sub ds')) B
  | _, _, _, _, _, .nil, _, h => by simp at h
  | 0, _, _, _, _, .dat _ c, _, h => by simp at h
  | 0, _, _, _, _, .sub (b := b) hb r c, nd, h => by
    cases Option.some.inj (show some (Cel.sub _) = some (Cel.sub _) from h)
    refine ⟨_, _, rfl, List.mem_cons_self .., hb, r, fun ws' ds' r' => ?_⟩
    have hn := (List.nodup_cons.mp nd).1
    simpa using Cels.sub upd_same r' (c.mv (Ex.refl _) fun x hx => upd_ne fun z => hn (by rw [← z]; exact hx))
  | n + 1, _, _, _, _, .dat h0 c, nd, h => by
    obtain ⟨b, ws, e1, e2, e3, e4, f⟩ := c.inner n nd (by simpa using h)
    exact ⟨b, ws, by simpa using e1, e2, e3, e4, fun ws' ds' r' => by simpa using Cels.dat h0 (f ws' ds' r')⟩
  | n + 1, _, _, _, _, .sub (b := b0) h1 h2 c, nd, h => by
    obtain ⟨hn, nd'⟩ := List.nodup_cons.mp nd
    obtain ⟨b, ws, e1, e2, e3, e4, f⟩ := c.inner n nd' (by simpa using h)
    exact ⟨b, ws, by simpa using e1, List.mem_cons_of_mem _ e2, e3, e4, fun ws' ds' r' => by simpa using Cels.sub (by rw [upd_ne fun z => hn (by rw [z]; exact e2)]; exact h1) h2 (f ws' ds' r')⟩
end
section
variable {pn : Option V} {F : Hs} {T : Trs} {H : Hp} {σ : L2.St} {ρ : Env}
theorem StOk.writeSub (st : StOk pn F T H σ ρ) {i n : Nat} {cs : List Cel} {ds ds' : List PD} (hi : ρ[i]? = some (.own cs)) (hn : cs[n]? = some (.sub ds)) : ∃ a vs b ws, σ[i]? = some (some (.ref a)) ∧ H a = some (.lst vs) ∧ vs[n]? = some (.ref b) ∧ vs.length = cs.length ∧ H b = some (.lst ws) ∧ RpAll (hid (SF F T) H) ws ds ∧
    ∀ ws' ds', RpAll (hid (SF F T) H) ws' ds' → StOk pn F T (upd H b (.lst ws')) σ (ρ.set i (.own (cs.set n (.sub ds')))) ∧ Stp F T H T (upd H b (.lst ws')) := by
  obtain ⟨a, vs, B, h1, h2, h3, h4⟩ := st.at_own hi
  have ndA := st.nd i
  rw [h4] at ndA
  obtain ⟨haB, ndB⟩ := List.nodup_cons.mp ndA
  obtain ⟨b, ws, e1, e2, e3, e4, f⟩ := h3.inner n ndB hn
  refine ⟨a, vs, b, ws, h1, h2, e1, h3.length, e3, e4, fun ws' ds' r' => ?_⟩
  have hb : b ∈ T i := by rw [h4]; exact List.mem_cons_of_mem _ e2
  have hS : SF F T b := .inr ⟨i, hb⟩
  have vis : Ex (hid (SF F T) H) (hid (SF F T) (upd H b (.lst ws'))) := fun x o h => by
    obtain ⟨c, h⟩ := hid_some h
    rw [hid_out c, upd_ne (fun z => c (by rw [z]; exact hS))]
    exact h
  have ne : ∀ x, x ≠ b → upd H b (.lst ws') x = H x := fun x h => upd_ne h
  refine ⟨⟨by rw [List.length_set]; exact st.len, fun x h => ?_, st.off, st.dis, st.nd, fun j hj => st.out j (by rw [List.length_set] at hj; exact hj), fun j q hq => ?_, st.pin⟩, ⟨fun x h => ne x fun z => st.off i b hb (by rw [← z]; exact h), vis⟩⟩
  · rw [ne x fun z => st.off i b hb (by rw [← z]; exact h)]
    exact st.al x h
  · by_cases c : i = j
    · subst c
      have hl : i < ρ.length := (List.getElem?_eq_some_iff.mp hi).1
      rw [List.getElem?_set_self hl] at hq
      cases hq
      refine ⟨_, h1, .ref a, rfl, a, vs, B, rfl, by rw [ne a fun z => haB (by rw [z]; exact e2)]; exact h2, (f ws' ds' r').mv vis fun x _ => rfl, h4⟩
    · rw [List.getElem?_set_ne c] at hq
      obtain ⟨o', h5, h6⟩ := st.sl j q hq
      exact ⟨o', h5, h6.mv vis fun x hx => ne x fun z => c (st.dis i j b hb (by rw [← z]; exact hx))⟩
end
def sApp (i : Nat) (a : XW) : XS := fun ρ => (ownAt ρ i).bind fun _ => (a ρ).bind fun x => (ownAt x.2 i).bind fun cs => if cs.length < 100000 then some (.nxt (x.2.set i (.own (cs ++ [.dat x.1])))) else none
def sExt (i : Nat) (a : XW) : XS := fun ρ => (ownAt ρ i).bind fun _ => (a ρ).bind fun x => (asList x.1).bind fun ds => (ownAt x.2 i).bind fun cs => if cs.length + ds.length ≤ 100000 then some (.nxt (x.2.set i (.own (cs ++ ds.map Cel.dat)))) else none
def isI : PD → Option Int
  | .int i => some i
  | _ => none
theorem isI_eq {d : PD} {i : Int} (h : isI d = some i) : d = .int i := by
  cases d with
  | int c => cases h; rfl
  | _ => cases h
def insA : List PD → Option (Int × PD)
  | [.int k, d] => some (k, d)
  | _ => none
theorem insA_eq {ds : List PD} {k : Int} {d : PD} (h : insA ds = some (k, d)) : ds = [.int k, d] := by
  unfold insA at h
  split at h
  · cases h; rfl
  · cases h
def sIns (i : Nat) (as : XWA) : XS := fun ρ => (ownAt ρ i).bind fun _ => (as ρ).bind fun x => (insA x.1).bind fun kd => (ownAt x.2 i).bind fun cs => if cs.length < 100000 ∧ 0 ≤ kd.1 ∧ kd.1 < 2 ^ 63 then some (.nxt (x.2.set i (.own (cs.take kd.1.toNat ++ [.dat kd.2] ++ cs.drop kd.1.toNat)))) else none
def datAt (cs : List Cel) (n : Nat) : Option PD := match cs[n]? with
  | some (.dat d) => some d
  | _ => none
theorem datAt_eq {cs : List Cel} {n : Nat} {d : PD} (h : datAt cs n = some d) : cs[n]? = some (.dat d) := by
  unfold datAt at h
  split at h
  · rename_i e; cases h; exact e
  · cases h
def subAt (cs : List Cel) (n : Nat) : Option (List PD) := match cs[n]? with
  | some (.sub d) => some d
  | _ => none
theorem subAt_eq {cs : List Cel} {n : Nat} {d : List PD} (h : subAt cs n = some d) : cs[n]? = some (.sub d) := by
  unfold subAt at h
  split at h
  · rename_i e; cases h; exact e
  · cases h
def wPop (i : Nat) (a : XW) : XW := fun ρ => (ownAt ρ i).bind fun _ => (a ρ).bind fun x => (isI x.1).bind fun k => (ownAt x.2 i).bind fun cs => if -(2 ^ 63) ≤ k ∧ k < 2 ^ 63 then (ixN cs.length k).bind fun n => (datAt cs n).bind fun d => some (d, x.2.set i (.own (cs.eraseIdx n))) else none
def sSet (i : Nat) (k : XE) (a : XW) : XS := fun ρ => (a ρ).bind fun x => (ownAt x.2 i).bind fun cs => ((k (vw x.2)).bind isI).bind fun k => (ixN cs.length k).bind fun n => (datAt cs n).bind fun _ => some (.nxt (x.2.set i (.own (cs.set n (.dat x.1)))))
def sSetS (i : Nat) (k j : XE) (a : XW) : XS := fun ρ => (a ρ).bind fun x => (ownAt x.2 i).bind fun cs => ((k (vw x.2)).bind isI).bind fun k => (ixN cs.length k).bind fun n => (subAt cs n).bind fun ds => ((j (vw x.2)).bind isI).bind fun j => (ixN ds.length j).bind fun m => some (.nxt (x.2.set i (.own (cs.set n (.sub (ds.set m x.1))))))
def sPopS (i : Nat) (k j : XE) : XS := fun ρ => (ownAt ρ i).bind fun cs => ((k (vw ρ)).bind isI).bind fun k => (ixN cs.length k).bind fun n => (subAt cs n).bind fun ds => ((j (vw ρ)).bind isI).bind fun j => if -(2 ^ 63) ≤ j ∧ j < 2 ^ 63 then (ixN ds.length j).bind fun m => some (.nxt (ρ.set i (.own (cs.set n (.sub (ds.eraseIdx m)))))) else none
section
variable {te tk tj : TE} {w : XW} {k j : XE}
theorem RpAll.erase {G : Hp} : ∀ {vs : List V} {ds : List PD} (n : Nat), RpAll G vs ds → RpAll G (vs.eraseIdx n) (ds.eraseIdx n)
  | _, _, _, .nil => by simpa using RpAll.nil
  | _, _, 0, .cons _ r => by simpa using r
  | _, _, n + 1, .cons h r => by simpa using RpAll.cons h (r.erase n)
theorem ss_app {i : Nat} (h : SW te w) : SS (tDrop (tBM K "list" rAppend (tVar i) (tCons te tNil))) (sApp i w) := fun pn F T H σ ρ o D st e q => by
  obtain ⟨c0, h0, e⟩ := bind_some e
  obtain ⟨⟨d, ρ1⟩, h1, e⟩ := bind_some e
  obtain ⟨cs, h2, e⟩ := bind_some e
  by_cases hl : cs.length < 100000
  · rw [if_pos hl] at e
    cases e
    obtain ⟨a, vs, B, ha, hv, _⟩ := st.at_own (ownAt_eq h0)
    refine ⟨.ref a, ha, .inl ⟨rfl, _, .inl (.inl hv)⟩, h pn F T H σ ρ d ρ1 st h1 _ fun v T1 H1 st1 s1 rv => ?_⟩
    obtain ⟨a', vs', B', ha', hv', hc', hT⟩ := st1.at_own (ownAt_eq h2)
    have ea : a' = a := by rw [ha'] at ha; cases ha; rfl
    subst ea
    obtain ⟨st2, s2⟩ := st1.write (ownAt_eq h2) hT ha' (hc'.snoc rv)
    exact ⟨a', vs', v, rfl, rfl, hv', by rw [hc'.length]; exact Evl.sz_lt hl, q σ T1 _ st2 (s1.trans s2)⟩
  · rw [if_neg hl] at e; cases e
abbrev rInsQ : V → List V → Hp → VK → Prop := fun x vs H Q => ∃ (l : Addr) (xs : List V) (i : Int) (y : V), x = .ref l ∧ vs = [.int i, y] ∧ H l = some (.lst xs) ∧ xs.length < sizeLine ∧ 0 ≤ i ∧ i < 2 ^ 63 ∧
  Q .non (upd H l (.lst (xs.take i.toNat ++ [y] ++ xs.drop i.toNat)))
theorem ss_ins {i : Nat} {ts : TA} {as : XWA} (h : SWA ts as) : SS (tDrop (tBM K "list" rInsQ (tVar i) ts)) (sIns i as) := fun pn F T H σ ρ o D st e q => by
  obtain ⟨c0, h0, e⟩ := bind_some e
  obtain ⟨⟨xs, ρ1⟩, h1, e⟩ := bind_some e
  obtain ⟨⟨kk, d⟩, hd, e⟩ := bind_some e
  obtain ⟨cs, h2, e⟩ := bind_some e
  by_cases hl : cs.length < 100000 ∧ 0 ≤ kk ∧ kk < 2 ^ 63
  · rw [if_pos hl] at e
    cases e
    have ed : xs = _ := insA_eq hd
    subst ed
    obtain ⟨a, vs, B, ha, hv, _⟩ := st.at_own (ownAt_eq h0)
    refine ⟨.ref a, ha, .inl ⟨rfl, _, .inl (.inl hv)⟩, h pn F T H σ ρ _ ρ1 st h1 _ fun us T1 H1 st1 s1 rv => ?_⟩
    obtain ⟨a', vs', B', ha', hv', hc', hT⟩ := st1.at_own (ownAt_eq h2)
    have ea : a' = a := by rw [ha'] at ha; cases ha; rfl
    subst ea
    cases rv with
    | cons g1 t =>
      cases t with
      | cons g2 t =>
        cases t
        cases g1
        obtain ⟨st2, s2⟩ := st1.write (ownAt_eq h2) hT ha' (hc'.ins kk.toNat g2)
        exact ⟨a', vs', kk, _, rfl, rfl, hv', by rw [hc'.length]; exact Evl.sz_lt hl.1, hl.2.1, hl.2.2, q σ T1 _ st2 (s1.trans s2)⟩
  · rw [if_neg hl] at e; cases e
theorem ss_set {i : Nat} (hk : SE tk k) (h : SW te w) : SS (tAsg te (gSub (tVar i) tk rSetL)) (sSet i k w) := fun pn F T H σ ρ o D st e q => by
  obtain ⟨⟨d, ρ1⟩, h1, e⟩ := bind_some e
  obtain ⟨cs, h2, e⟩ := bind_some e
  obtain ⟨kk, h3, e⟩ := bind_some e
  obtain ⟨dk, h3, h4⟩ := bind_some h3
  obtain ⟨n, hn, e⟩ := bind_some e
  obtain ⟨d0, hd, e⟩ := bind_some e
  cases e
  have ed : dk = _ := isI_eq h4
  subst ed
  refine h pn F T H σ ρ d ρ1 st h1 _ fun v T1 H1 st1 s1 rv => ?_
  obtain ⟨a', vs', B', ha', hv', hc', hT⟩ := st1.at_own (ownAt_eq h2)
  refine ⟨.ref a', ha', hk _ _ h3 F σ H1 st1.al st1.vw _ fun vk H2 e2 rk => ?_⟩
  cases rk
  have st2 := st1.ex e2
  have s2 : Stp F T1 H1 T1 H2 := Stp.ex st1.al e2
  obtain ⟨a2, vs2, B2, ha2, hv2, hc2, hT2⟩ := st2.at_own (ownAt_eq h2)
  have ea : a2 = a' := by rw [ha2] at ha'; cases ha'; rfl
  subst ea
  obtain ⟨st3, s3⟩ := st2.write (ownAt_eq h2) hT2 ha2 (hc2.set n (datAt_eq hd) (rv.ex s2.vis))
  exact ⟨a2, vs2, kk, n, rfl, rfl, hv2, by rw [hc2.length]; exact hn, q σ T1 _ st3 ((s1.trans s2).trans s3)⟩
theorem ix_sub {pn : Option V} {F : Hs} {T : Trs} {H : Hp} {σ : L2.St} {ρ : Env} (st : StOk pn F T H σ ρ) {i n : Nat} {cs : List Cel} {ds : List PD} {kk : Int} (hi : ρ[i]? = some (.own cs)) (hn : ixN cs.length kk = some n) (hs : cs[n]? = some (.sub ds)) (hk : SE tk k) (h3 : k (vw ρ) = some (.int kk)) {Q : VK}
    (q : ∀ b H2, Ex H H2 → (∃ a vs, σ[i]? = some (some (.ref a)) ∧ H2 a = some (.lst vs) ∧ vs[n]? = some (.ref b)) → Q (.ref b) H2) : tOp (rIx K) (tVar i) tk σ H Q := by
  obtain ⟨a, vs, b, ws, g1, g2, g3, g4, g5, g6, f⟩ := st.writeSub (ds' := ds) hi hs
  refine ⟨.ref a, g1, hk _ _ h3 F σ H st.al st.vw _ fun vk H2 e2 rk => ?_⟩
  cases rk
  refine .inl ⟨a, vs, kk, .ref b, rfl, rfl, .inl (.inl (e2 _ _ g2)), ?_, q b H2 e2 ⟨a, vs, g1, e2 _ _ g2, g3⟩⟩
  unfold atI
  rw [g4, hn]
  exact g3
theorem ss_setS {i : Nat} (hk : SE tk k) (hj : SE tj j) (h : SW te w) : SS (tAsg te (gSub (tOp (rIx K) (tVar i) tk) tj rSetL)) (sSetS i k j w) := fun pn F T H σ ρ o D st e q => by
  obtain ⟨⟨d, ρ1⟩, h1, e⟩ := bind_some e
  obtain ⟨cs, h2, e⟩ := bind_some e
  obtain ⟨kk, h3, e⟩ := bind_some e
  obtain ⟨dk, h3, h4⟩ := bind_some h3
  obtain ⟨n, hn, e⟩ := bind_some e
  obtain ⟨ds, hd, e⟩ := bind_some e
  obtain ⟨jj, h5, e⟩ := bind_some e
  obtain ⟨dj, h5, h6⟩ := bind_some h5
  obtain ⟨m, hm, e⟩ := bind_some e
  cases e
  have ed : dk = _ := isI_eq h4
  subst ed
  have ed : dj = _ := isI_eq h6
  subst ed
  refine h pn F T H σ ρ d ρ1 st h1 _ fun v T1 H1 st1 s1 rv => ?_
  refine ix_sub st1 (ownAt_eq h2) hn (subAt_eq hd) hk h3 fun b H2 e2 hb => ?_
  have st2 := st1.ex e2
  have s2 : Stp F T1 H1 T1 H2 := Stp.ex st1.al e2
  refine hj _ _ h5 F σ H2 st2.al st2.vw _ fun vj H3 e3 rj => ?_
  cases rj
  have st3 := st2.ex e3
  have s3 : Stp F T1 H2 T1 H3 := Stp.ex st2.al e3
  obtain ⟨a, vs, b', ws, g1, g2, g3, g4, g5, g6, f⟩ := st3.writeSub (ds' := ds) (ownAt_eq h2) (subAt_eq hd)
  obtain ⟨a2, vs2, k1, k2, k3⟩ := hb
  have ea : a2 = a := by rw [k1] at g1; cases g1; rfl
  subst ea
  have ev : vs2 = vs := by have := e3 _ _ k2; rw [this] at g2; cases g2; rfl
  subst ev
  have eb : b' = b := by rw [k3] at g3; cases g3; rfl
  subst eb
  obtain ⟨st4, s4⟩ := f (ws.set m v) (ds.set m d) (g6.set m ((rv.ex s2.vis).ex s3.vis))
  exact ⟨b', ws, jj, m, rfl, rfl, g5, by rw [g6.length]; exact hm, q σ T1 _ st4 (((s1.trans s2).trans s3).trans s4)⟩
theorem ss_popS {i : Nat} (hk : SE tk k) (hj : SE tj j) : SS (tDrop (tBM K "list" rPopAt (tOp (rIx K) (tVar i) tk) (tCons tj tNil))) (sPopS i k j) := fun pn F T H σ ρ o D st e q => by
  obtain ⟨cs, h2, e⟩ := bind_some e
  obtain ⟨kk, h3, e⟩ := bind_some e
  obtain ⟨dk, h3, h4⟩ := bind_some h3
  obtain ⟨n, hn, e⟩ := bind_some e
  obtain ⟨ds, hd, e⟩ := bind_some e
  obtain ⟨jj, h5, e⟩ := bind_some e
  obtain ⟨dj, h5, h6⟩ := bind_some h5
  by_cases hl : -(2 ^ 63) ≤ jj ∧ jj < 2 ^ 63
  · rw [if_pos hl] at e
    obtain ⟨m, hm, e⟩ := bind_some e
    cases e
    have ed : dk = _ := isI_eq h4
    subst ed
    have ed : dj = _ := isI_eq h6
    subst ed
    refine ix_sub st (ownAt_eq h2) hn (subAt_eq hd) hk h3 fun b H2 e2 hb => ?_
    have st2 := st.ex e2
    have s2 : Stp F T H T H2 := Stp.ex st.al e2
    obtain ⟨a, vs, b', ws, g1, g2, g3, g4, g5, g6, f⟩ := st2.writeSub (ds' := ds) (ownAt_eq h2) (subAt_eq hd)
    obtain ⟨a2, vs2, k1, k2, k3⟩ := hb
    have ea : a2 = a := by rw [k1] at g1; cases g1; rfl
    subst ea
    have ev : vs2 = vs := by rw [k2] at g2; cases g2; rfl
    subst ev
    have eb : b' = b := by rw [k3] at g3; cases g3; rfl
    subst eb
    refine ⟨.inl ⟨rfl, _, .inl (.inl g5)⟩, hj _ _ h5 F σ H2 st2.al st2.vw _ fun vj H3 e3 rj => ?_⟩
    cases rj
    have st3 := st2.ex e3
    have s3 : Stp F T H2 T H3 := Stp.ex st2.al e3
    clear f
    obtain ⟨a7, vs7, b7, ws7, u1, u2, u3, u4, u5, u6, f7⟩ := st3.writeSub (ds' := ds) (ownAt_eq h2) (subAt_eq hd)
    have ea : a7 = a2 := by rw [k1] at u1; cases u1; rfl
    subst ea
    have ev : vs7 = vs2 := by have := e3 _ _ k2; rw [this] at u2; cases u2; rfl
    subst ev
    have eb : b7 = b' := by rw [k3] at u3; cases u3; rfl
    subst eb
    obtain ⟨st4, s4⟩ := f7 (ws7.eraseIdx m) (ds.eraseIdx m) (u6.erase m)
    have hm' : ixN ws7.length jj = some m := by rw [u6.length]; exact hm
    obtain ⟨q1, q2, _, _⟩ := ixN_seq hm'
    exact ⟨b7, ws7, jj, m, ws7[m], rfl, rfl, u5, hl.1, hl.2, q1, List.getElem?_eq_getElem q2, q σ T _ st4 ((s2.trans s3).trans s4)⟩
  · rw [if_neg hl] at e; cases e
end
end Uv

namespace Uv
open PySem PySem.Spec PyProof.Rows L2
open Evl (Ex)
variable [kk : KK]
def forGo (g : XG) (b : XS) : List PD → Env → Option Out
  | [], ρ => some (.nxt ρ)
  | x :: xs, ρ => (g x ρ).bind fun ρ1 => (b ρ1).bind fun o => match o with
    | .nxt ρ2 => forGo g b xs ρ2
    | .cnt ρ2 => forGo g b xs ρ2
    | .brk ρ2 => some (.nxt ρ2)
    | .ret d ρ2 => some (.ret d ρ2)
    | .retO d ρ2 => some (.retO d ρ2)
def sFor (src : XWI) (g : XG) (b : XS) : XS := fun ρ => (src ρ).bind fun x => forGo g b x.1 x.2
theorem ss_for {bb : Bool} {wi : TI} {g : TG} {tb : TS} {vs : List Nat} {src : XWI} {xg : XG} {b : XS} (hs : SWI bb wi src) (hg : SG bb g xg vs) (hb : SS tb b) : SS (tFor wi g tb) (sFor src xg b) := fun pn F T H σ ρ o D st e q => by
  obtain ⟨⟨xs, ρ1⟩, h1, e⟩ := bind_some e
  have e : forGo xg b xs ρ1 = some o := e
  refine hs pn F T H σ ρ xs ρ1 st h1 _ fun J T1 H1 st1 s1 wk => ?_
  refine ⟨fun i m σ' H' => m = xs.length - i ∧ i ≤ xs.length ∧ ∃ T' ρ', StOk pn F T' H' σ' ρ' ∧ Stp F T1 H1 T' H' ∧ forGo xg b (xs.drop i) ρ' = some o, ⟨_, rfl, Nat.zero_le _, T1, ρ1, st1, Stp.refl, e⟩, fun i m σ' H' hw => ?_⟩
  obtain ⟨rfl, hi, T', ρ', st', s', hgo⟩ := hw
  obtain ⟨w1, w2⟩ := wk _ H' s'.vis st'.als
  by_cases hlt : i < xs.length
  · obtain ⟨w3, w4⟩ := w2 i _ (List.getElem?_eq_getElem hlt)
    rw [List.drop_eq_getElem_cons hlt] at hgo
    obtain ⟨ρ2, g1, hgo⟩ := bind_some (show (xg xs[i] ρ').bind _ = some o from hgo)
    obtain ⟨o2, b1, hgo⟩ := bind_some hgo
    refine .inr ⟨w3, fun σ2 H2 => ∃ T2 ρ2, StOk pn F T2 H2 σ2 ρ2 ∧ Stp F T1 H1 T2 H2 ∧ forGo xg b (xs.drop (i + 1)) ρ2 = some o, fun σ2 H2 hn => ⟨_, by omega, rfl, hlt, hn⟩, fun v H3 y => ?_⟩
    obtain ⟨e3, rv⟩ := w4 v H3 y
    have st3 := st'.ex e3
    have s3 : Stp F T' H' T' H3 := Stp.ex st'.al e3
    refine hg pn F T' H3 σ' v _ ρ' ρ2 st3 g1 rv _ fun σ4 T4 st4 s4 _ => ?_
    have s14 := (s'.trans s3).trans s4
    cases o2 with
    | nxt ρ5 => exact hb pn F T4 H3 σ4 ρ2 _ _ st4 b1 fun σ5 T5 H5 st5 s5 => ⟨T5, ρ5, st5, s14.trans s5, hgo⟩
    | cnt ρ5 => exact hb pn F T4 H3 σ4 ρ2 _ _ st4 b1 fun σ5 T5 H5 st5 s5 => ⟨T5, ρ5, st5, s14.trans s5, hgo⟩
    | brk ρ5 =>
      cases hgo
      exact hb pn F T4 H3 σ4 ρ2 _ _ st4 b1 fun σ5 T5 H5 st5 s5 => q σ5 T5 H5 st5 (s1.trans (s14.trans s5))
    | ret d ρ5 =>
      cases hgo
      exact hb pn F T4 H3 σ4 ρ2 _ _ st4 b1 (OutOk.on (fun _ z => nomatch z) (fun _ z => nomatch z) (fun _ z => nomatch z) (q.step (s1.trans s14)))
    | retO d ρ5 =>
      cases hgo
      exact hb pn F T4 H3 σ4 ρ2 _ _ st4 b1 (OutOk.on (fun _ z => nomatch z) (fun _ z => nomatch z) (fun _ z => nomatch z) (q.step (s1.trans s14)))
  · have ei : i = xs.length := by omega
    subst ei
    rw [List.drop_length] at hgo
    cases hgo
    exact .inl ⟨w1, q σ' T' H' st' (s1.trans s')⟩
def whGo (c : XWT) (b : XS) : Nat → Env → Option Out
  | 0, _ => none
  | n + 1, ρ => (c ρ).bind fun k => if k.1 = true then (b k.2).bind fun o => match o with
    | .nxt ρ2 => whGo c b n ρ2
    | .cnt ρ2 => whGo c b n ρ2
    | .brk ρ2 => some (.nxt ρ2)
    | .ret d ρ2 => some (.ret d ρ2)
    | .retO d ρ2 => some (.retO d ρ2)
    else some (.nxt k.2)
def fuel : Nat := 100000
theorem fuel_lt {k : Nat} (h : k < 100000) : k < fuel := h
def sWhile (n : Nat) (c : XWT) (b : XS) : XS := whGo c b n
theorem ss_while {n : Nat} {ct : TT} {tb : TS} {c : XWT} {b : XS} (hc : SWT ct c) (hb : SS tb b) : SS (tWhile ct tb) (sWhile n c b) := fun pn F T H σ ρ o D st e q => by
  refine ⟨fun m σ' H' => ∃ T' ρ', StOk pn F T' H' σ' ρ' ∧ Stp F T H T' H' ∧ whGo c b m ρ' = some o, ⟨n, T, ρ, st, Stp.refl, e⟩, fun m σ' H' hw => ?_⟩
  obtain ⟨T', ρ', st', s', hgo⟩ := hw
  cases m with
  | zero => cases hgo
  | succ m =>
    obtain ⟨⟨k, ρ1⟩, h1, hgo⟩ := bind_some (show (c ρ').bind _ = some o from hgo)
    refine hc pn F T' H' σ' ρ' k ρ1 st' h1 _ fun T1 H1 st1 s1 => ?_
    cases k with
    | false => cases hgo; exact iteF (q σ' T1 H1 st1 (s'.trans s1))
    | true =>
      obtain ⟨o2, b1, hgo⟩ := bind_some (show (b ρ1).bind _ = some o from hgo)
      refine iteT ⟨fun σ2 H2 => ∃ T2 ρ2, StOk pn F T2 H2 σ2 ρ2 ∧ Stp F T H T2 H2 ∧ whGo c b m ρ2 = some o, fun σ2 H2 hn => ⟨m, Nat.lt_succ_self _, hn⟩, ?_⟩
      have s2 := s'.trans s1
      cases o2 with
      | nxt ρ5 => exact hb pn F T1 H1 σ' ρ1 _ _ st1 b1 fun σ5 T5 H5 st5 s5 => ⟨T5, ρ5, st5, s2.trans s5, hgo⟩
      | cnt ρ5 => exact hb pn F T1 H1 σ' ρ1 _ _ st1 b1 fun σ5 T5 H5 st5 s5 => ⟨T5, ρ5, st5, s2.trans s5, hgo⟩
      | brk ρ5 =>
        cases hgo
        exact hb pn F T1 H1 σ' ρ1 _ _ st1 b1 fun σ5 T5 H5 st5 s5 => q σ5 T5 H5 st5 (s2.trans s5)
      | ret d ρ5 =>
        cases hgo
        exact hb pn F T1 H1 σ' ρ1 _ _ st1 b1 (OutOk.on (fun _ z => nomatch z) (fun _ z => nomatch z) (fun _ z => nomatch z) (q.step s2))
      | retO d ρ5 =>
        cases hgo
        exact hb pn F T1 H1 σ' ρ1 _ _ st1 b1 (OutOk.on (fun _ z => nomatch z) (fun _ z => nomatch z) (fun _ z => nomatch z) (q.step s2))
def fzE (ρ : Env) (i : Nat) : Env := match ρ[i]? with
  | some (.own cs) => ρ.set i (.dat (.list (cs.map Cel.pd)))
  | _ => ρ
def sFz (i : Nat) (y : XS) : XS := fun ρ => y (fzE ρ i)
theorem StOk.fz1 {pn : Option V} {F : Hs} {T : Trs} {H : Hp} {σ : L2.St} {ρ : Env} (st : StOk pn F T H σ ρ) (i : Nat) : ∃ T', StOk pn F T' H σ (fzE ρ i) ∧ Stp F T H T' H := by
  unfold fzE
  cases hi : ρ[i]? with
  | none => exact ⟨T, st, Stp.refl⟩
  | some s =>
    cases s with
    | un => exact ⟨T, st, Stp.refl⟩
    | dat d => exact ⟨T, st, Stp.refl⟩
    | dic l => exact ⟨T, st, Stp.refl⟩
    | own cs =>
      have sub : Ex (hid (SF F T) H) (hid (SF F (setT T i [])) H) := hid_sub SF_setT_nil
      have mem : ∀ j x, x ∈ setT T i [] j → x ∈ T j ∧ j ≠ i := fun j x h => by
        by_cases c : j = i
        · subst c; rw [setT_same] at h; cases h
        · rw [setT_ne c] at h; exact ⟨h, c⟩
      refine ⟨setT T i [], ⟨by rw [List.length_set]; exact st.len, st.al, fun j x h => st.off j x (mem j x h).1, fun j k x h h' => st.dis j k x (mem j x h).1 (mem k x h').1, fun j => ?_, fun j hj => ?_, fun j q hq => ?_, st.pin⟩, ⟨fun _ _ => rfl, sub⟩⟩
      · by_cases c : j = i
        · subst c; rw [setT_same]; exact List.nodup_nil
        · rw [setT_ne c]; exact st.nd j
      · rw [List.length_set] at hj
        by_cases c : j = i
        · subst c; rw [setT_same]
        · rw [setT_ne c]; exact st.out j hj
      · by_cases c : i = j
        · subst c
          have hl : i < ρ.length := (List.getElem?_eq_some_iff.mp hi).1
          rw [List.getElem?_set_self hl] at hq
          cases hq
          obtain ⟨o, h1, v, rfl, ow⟩ := st.sl i _ hi
          rw [setT_same]
          refine ⟨_, h1, rfl, v, rfl, ow.rp sub fun x hx => hid_out ?_⟩
          rintro (z | ⟨j, z⟩)
          · exact st.off i x hx z
          · obtain ⟨z1, z2⟩ := mem j x z
            exact z2 (st.dis j i x z1 hx)
        · rw [List.getElem?_set_ne c] at hq
          obtain ⟨o', h1, h2⟩ := st.sl j q hq
          rw [setT_ne (fun z => c z.symm)]
          exact ⟨o', h1, h2.mv sub fun _ _ => rfl⟩
theorem ss_fz {i : Nat} {t : TS} {y : XS} (h : SS t y) : SS t (sFz i y) := fun pn F T H σ ρ o D st e q => by
  obtain ⟨T', st', s'⟩ := st.fz1 i
  exact h pn F T' H σ _ o D st' e (q.step s')
def clearE (ρ : Env) : List Nat → Env
  | [] => ρ
  | v :: vs => (clearE ρ vs).set v .un
def keepD : Option Sl → Sl
  | some (.dat d) => .dat d
  | _ => .un
def backE (ρ1 ρ : Env) : List Nat → Env
  | [] => ρ
  | v :: vs => (backE ρ1 ρ vs).set v (keepD ρ1[v]?)
theorem StOk.clear {pn : Option V} {F : Hs} {H : Hp} {σ : L2.St} {ρ : Env} : ∀ {T : Trs} (vs : List Nat), 0 ∉ vs → StOk pn F T H σ ρ → ∃ T', StOk pn F T' H (wipe σ vs) (clearE ρ vs) ∧ Stp F T H T' H
  | T, [], _, st => ⟨T, st, Stp.refl⟩
  | T, v :: vs, h0, st => by
    obtain ⟨T1, st1, s1⟩ := StOk.clear vs (fun z => h0 (List.mem_cons_of_mem _ z)) st
    obtain ⟨st2, s2⟩ := st1.drop (i := v) (o := none) (s := .un) (fun z => h0 (by rw [z]; exact List.mem_cons_self ..)) rfl
    exact ⟨_, st2, s1.trans s2⟩
theorem clearE_len {ρ : Env} : ∀ vs : List Nat, (clearE ρ vs).length = ρ.length
  | [] => rfl
  | v :: vs => by unfold clearE; rw [List.length_set, clearE_len vs]
theorem backE_len {ρ1 ρ : Env} : ∀ vs : List Nat, (backE ρ1 ρ vs).length = ρ.length
  | [] => rfl
  | v :: vs => by unfold backE; rw [List.length_set, backE_len vs]
theorem clearE_off {ρ : Env} {i : Nat} : ∀ {vs : List Nat}, i ∉ vs → (clearE ρ vs)[i]? = ρ[i]?
  | [], _ => rfl
  | v :: vs, h => by
    unfold clearE
    rw [List.getElem?_set_ne (fun z => h (by rw [← z]; exact List.mem_cons_self ..))]
    exact clearE_off fun z => h (List.mem_cons_of_mem _ z)
theorem clearE_at {ρ : Env} {i : Nat} : ∀ {vs : List Nat}, i ∈ vs → i < ρ.length → (clearE ρ vs)[i]? = some .un
  | v :: vs, h, hl => by
    unfold clearE
    by_cases c : v = i
    · subst c; exact List.getElem?_set_self (by rw [clearE_len]; exact hl)
    · rw [List.getElem?_set_ne c]
      exact clearE_at ((List.mem_cons.mp h).resolve_left fun z => c z.symm) hl
theorem backE_off {ρ1 ρ : Env} {i : Nat} : ∀ {vs : List Nat}, i ∉ vs → (backE ρ1 ρ vs)[i]? = ρ[i]?
  | [], _ => rfl
  | v :: vs, h => by
    unfold backE
    rw [List.getElem?_set_ne (fun z => h (by rw [← z]; exact List.mem_cons_self ..))]
    exact backE_off fun z => h (List.mem_cons_of_mem _ z)
theorem backE_at {ρ1 ρ : Env} {i : Nat} : ∀ {vs : List Nat}, i ∈ vs → i < ρ.length → (backE ρ1 ρ vs)[i]? = some (keepD ρ1[i]?)
  | v :: vs, h, hl => by
    unfold backE
    by_cases c : v = i
    · subst c; exact List.getElem?_set_self (by rw [backE_len]; exact hl)
    · rw [List.getElem?_set_ne c]
      exact backE_at ((List.mem_cons.mp h).resolve_left fun z => c z.symm) hl
def wlGo (g : XG) (t : XWT) (e : XW) (vs : List Nat) : List PD → Env → Option (List PD × Env)
  | [], ρ => some ([], ρ)
  | x :: xs, ρ => (g x (clearE ρ vs)).bind fun ρ1 => (t ρ1).bind fun b => if b.1 = true then (e b.2).bind fun d => (wlGo g t e vs xs d.2).bind fun r => some (d.1 :: r.1, r.2) else wlGo g t e vs xs b.2
def wLc (src : XWI) (g : XG) (t : XWT) (e : XW) (vs : List Nat) : XWO := fun ρ => (src ρ).bind fun x => if x.1.length ≤ 40000 then (wlGo g t e vs x.1 x.2).bind fun r => some (r.1.map Cel.dat, backE x.2 r.2 vs) else none
theorem wl_step {g : XG} {t : XWT} {e : XW} {vs : List Nat} {ρ : Env} {x : PD} {xs : List PD} {r : List PD × Env} (h : wlGo g t e vs (x :: xs) ρ = some r) : ∃ ρ1 b ρ2, g x (clearE ρ vs) = some ρ1 ∧ t ρ1 = some (b, ρ2) ∧ ((b = true ∧ ∃ d ρ3 r', e ρ2 = some (d, ρ3) ∧ wlGo g t e vs xs ρ3 = some r' ∧ r = (d :: r'.1, r'.2)) ∨ (b = false ∧ wlGo g t e vs xs ρ2 = some r)) := by
  obtain ⟨ρ1, h1, h⟩ := bind_some (show (g x (clearE ρ vs)).bind _ = some r from h)
  obtain ⟨⟨b, ρ2⟩, h2, h⟩ := bind_some h
  refine ⟨ρ1, b, ρ2, h1, h2, ?_⟩
  cases b with
  | true =>
    obtain ⟨⟨d, ρ3⟩, h3, h⟩ := bind_some (show (e ρ2).bind _ = some r from h)
    obtain ⟨r', h4, h⟩ := bind_some h
    cases h
    exact .inl ⟨rfl, d, ρ3, r', h3, h4, rfl⟩
  | false => exact .inr ⟨rfl, h⟩
theorem swo_lc {b : Bool} {wi : TI} {g : TG} {tt : TT} {te : TE} {vs us : List Nat} {src : XWI} {xg : XG} {t : XWT} {e : XW} (hs : SWI b wi src) (hg : SG b g xg us) (hu : ∀ i ∈ us, i ∈ vs) (h0 : 0 ∉ vs) (ht : SWT tt t) (he : SW te e) : SWO (tLc wi g tt te vs) (wLc src xg t e vs) := fun pn F T H σ ρ cs ρ' st hh Q q => by
  obtain ⟨⟨xs, ρ1⟩, h1, hh⟩ := bind_some hh
  by_cases hz : xs.length ≤ 40000
  · rw [if_pos hz] at hh
    obtain ⟨r, h2, hh⟩ := bind_some hh
    have h2 : wlGo xg t e vs xs ρ1 = some r := h2
    cases hh
    refine hs pn F T H σ ρ xs ρ1 st h1 _ fun J T1 H1 st1 s1 wk D hD => ?_
    have alD : ∀ {H' : Hp} {v : HO}, H' D = some v → H' D ≠ none := fun e z => by rw [e] at z; cases z
    obtain ⟨st2, vis2⟩ := st1.fresh (Ex.new (o := .lst []) hD) hD (by rw [upd_same]; exact fun z => nomatch z)
    obtain ⟨T3, st3, s3⟩ := st2.clear vs h0
    have npF : ∀ x, F x → x ≠ D := fun x hx z => by
      have := st1.al x hx
      rw [z, hD] at this
      exact this rfl
    refine ⟨fun i m H' => m = xs.length - i ∧ i ≤ xs.length ∧ ∃ T' ρ' acc ds1 r', StOk pn (FL F [D]) T' H' (wipe σ vs) (clearE ρ' vs) ∧ ρ'.length = ρ1.length ∧ (∀ x, F x → H' x = H1 x) ∧ Ex (hid (SF F T1) H1) (hid (SF (FL F [D]) T') H') ∧ H' D = some (.lst acc) ∧ acc.length ≤ i ∧ RpAll (hid (SF (FL F [D]) T') H') acc ds1 ∧ wlGo xg t e vs (xs.drop i) ρ' = some r' ∧ r = (ds1 ++ r'.1, r'.2),
      ⟨_, rfl, Nat.zero_le _, T3, ρ1, [], [], r, st3, rfl, fun x hx => upd_ne (npF x hx), vis2.trans s3.vis, upd_same, Nat.le_refl _, .nil, h2, rfl⟩, fun i m H' hw => ?_⟩
    obtain ⟨rfl, hi, T', ρ', acc, ds1, r', st', hlen, fr', vis', hacc, la, ra, hgo, hr⟩ := hw
    obtain ⟨w1, w2⟩ := wk _ H' vis' st'.als
    by_cases hlt : i < xs.length
    · obtain ⟨w3, w4⟩ := w2 i _ (List.getElem?_eq_getElem hlt)
      rw [List.drop_eq_getElem_cons hlt] at hgo
      obtain ⟨ρ4, b4, ρ5, g4, t4, alt⟩ := wl_step hgo
      refine .inr ⟨w3, fun H2 => ∃ T' ρ' acc ds1 r', StOk pn (FL F [D]) T' H2 (wipe σ vs) (clearE ρ' vs) ∧ ρ'.length = ρ1.length ∧ (∀ x, F x → H2 x = H1 x) ∧ Ex (hid (SF F T1) H1) (hid (SF (FL F [D]) T') H2) ∧ H2 D = some (.lst acc) ∧ acc.length ≤ i + 1 ∧ RpAll (hid (SF (FL F [D]) T') H2) acc ds1 ∧ wlGo xg t e vs (xs.drop (i + 1)) ρ' = some r' ∧ r = (ds1 ++ r'.1, r'.2), fun H2 hn => ⟨_, by omega, rfl, hlt, hn⟩, fun v H3 y => ?_⟩
      obtain ⟨e3, rv⟩ := w4 v H3 y
      have st3 := st'.ex e3
      have s3 : Stp (FL F [D]) T' H' T' H3 := Stp.ex st'.al e3
      refine hg pn (FL F [D]) T' H3 (wipe σ vs) v _ _ ρ4 st3 g4 rv _ fun σ4 T4 st4 s4 off => ⟨wipe_off off hu, ?_⟩
      refine ht pn (FL F [D]) T4 H3 σ4 ρ4 b4 ρ5 st4 t4 _ fun T5 H5 st5 s5 => ?_
      have s15 := (s3.trans s4).trans s5
      have hD5 : H5 D = some (.lst acc) := by rw [s15.fr D (.inr (List.mem_cons_self ..))]; exact hacc
      rcases alt with ⟨rfl, d, ρ6, r6, f1, f2, rfl⟩ | ⟨rfl, f2⟩
      · show te σ4 H5 _
        refine he pn (FL F [D]) T5 H5 σ4 ρ5 d ρ6 st5 f1 _ fun z T6 H6 st6 s6 rz => ?_
        have s16 := s15.trans s6
        have hD6 : H6 D = some (.lst acc) := by rw [s6.fr D (.inr (List.mem_cons_self ..))]; exact hD5
        refine ⟨acc, hD6, Evl.sz_lt (by omega), ?_⟩
        have hS : SF (FL F [D]) T6 D := .inl (.inr (List.mem_cons_self ..))
        have vis7 : Ex (hid (SF (FL F [D]) T6) H6) (hid (SF (FL F [D]) T6) (upd H6 D (.lst (acc ++ [z])))) := fun x o h => by
          obtain ⟨c, h⟩ := hid_some h
          rw [hid_out c, upd_ne (fun z => c (by rw [z]; exact hS))]
          exact h
        have st7 : StOk pn (FL F [D]) T6 (upd H6 D (.lst (acc ++ [z]))) σ4 ρ6 := st6.mv vis7 (fun j x hx => upd_ne fun z => st6.off j x hx (by rw [z]; exact .inr (List.mem_cons_self ..))) fun x hx => by
          by_cases c : x = D
          · subst c; rw [upd_same]; exact fun z => nomatch z
          · rw [upd_ne c]; exact st6.al x hx
        obtain ⟨T8, st8, s8⟩ := st7.clear vs h0
        rw [wipe_off off hu] at st8
        have vis8 := vis7.trans s8.vis
        refine ⟨T8, ρ6, acc ++ [z], ds1 ++ [d], r6, st8, ?_, fun x hx => ?_, ((vis'.trans s16.vis).trans vis8), upd_same, by rw [List.length_append]; simpa using la, RpAll.append (ra.ex (s16.vis.trans vis8)) (.cons (rz.ex vis8) .nil), f2, by rw [hr]; simp⟩
        · have l6 := st6.len
          have l5 := off.1
          rw [wipe_length] at l5
          have l1 := st1.len
          omega
        · rw [upd_ne (npF x hx), s16.fr x (.inl hx)]
          exact fr' x hx
      · obtain ⟨T8, st8, s8⟩ := st5.clear vs h0
        rw [wipe_off off hu] at st8
        refine ⟨T8, ρ5, acc, ds1, r', st8, ?_, fun x hx => ?_, (vis'.trans s15.vis).trans s8.vis, hD5, by omega, ra.ex (s15.vis.trans s8.vis), f2, hr⟩
        · have l6 := st5.len
          have l5 := off.1
          rw [wipe_length] at l5
          have l1 := st1.len
          omega
        · rw [s15.fr x (.inl hx)]
          exact fr' x hx
    · have ei : i = xs.length := by omega
      subst ei
      rw [List.drop_length] at hgo
      cases hgo
      rw [List.append_nil] at hr
      subst hr
      refine .inl ⟨w1, q (.ref D) [D] T' H' ⟨?_, st'.al, st'.off, st'.dis, st'.nd, fun j hj => st'.out j (by rw [backE_len] at hj; rw [clearE_len]; exact hj), fun j s hj => ?_, fun v hv => st1.pin v hv⟩ (by simp) (fun x hx => ?_) (fun x hx => (fr' x hx).trans (s1.fr x hx)) (s1.vis.trans vis') ⟨D, acc, [], rfl, hacc, Cels.dats ra, rfl⟩⟩
      · rw [backE_len, hlen]; exact st1.len
      · have hjl : j < ρ'.length := by
          have := (List.getElem?_eq_some_iff.mp hj).1
          rw [backE_len] at this
          exact this
        by_cases c : j ∈ vs
        · rw [backE_at c hjl] at hj
          cases hj
          obtain ⟨o', _, h2⟩ := st'.sl j .un (clearE_at c hjl)
          have hT : T' j = [] := h2
          have hσ : j < σ.length := by rw [st1.len, ← hlen]; exact hjl
          rw [hT]
          have h9 : ρ1[j]? = some (ρ1[j]'(by rw [← hlen]; exact hjl)) := List.getElem?_eq_getElem _
          rw [h9]
          obtain ⟨o9, k1, k2⟩ := st1.sl j _ h9
          cases hs9 : ρ1[j]'(by rw [← hlen]; exact hjl) with
          | un => exact ⟨_, List.getElem?_eq_getElem hσ, rfl⟩
          | own cs => exact ⟨_, List.getElem?_eq_getElem hσ, rfl⟩
          | dic l => exact ⟨_, List.getElem?_eq_getElem hσ, rfl⟩
          | dat d =>
            rw [hs9] at k2
            obtain ⟨_, v, rfl, rv⟩ := k2
            exact ⟨_, k1, rfl, v, rfl, rv.ex vis'⟩
        · rw [backE_off c] at hj
          obtain ⟨o', k1, k2⟩ := st'.sl j s (by rw [clearE_off c]; exact hj)
          rw [wipe_get c] at k1
          exact ⟨o', k1, k2⟩
      · have ex : x = D := by simpa using hx
        rw [ex]
        exact fun z => npF D z rfl
  · rw [if_neg hz] at hh; cases hh
def runP (n k : Nat) (X : XS) (ds : List PD) : Option PD := if ds.length = n then (X (ds.map Sl.dat ++ List.replicate k Sl.un)).bind fun o => match o with
  | .ret d _ => some d
  | .nxt _ => some .none
  | _ => none else none
def runW (n k : Nat) (X : XS) (cs : List Cel) (ds : List PD) : Option (PD × List Cel) := if ds.length = n then (X (.own cs :: (ds.map Sl.dat ++ List.replicate k Sl.un))).bind fun o => match o with
  | .ret d ρ => (ownAt ρ 0).bind fun cs' => some (d, cs')
  | .nxt ρ => (ownAt ρ 0).bind fun cs' => some (.none, cs')
  | _ => none else none
def runD (n k : Nat) (X : XS) (ds : List PD) : Option (List Cel) := if ds.length = n then (X (ds.map Sl.dat ++ List.replicate k Sl.un)).bind fun o => match o with
  | .retO cs _ => some cs
  | _ => none else none
def spD (f : List PD → Option (List Cel)) : Sp := fun vs H Q _ => ∃ S ds cs, Al S H ∧ RpAll (hid S H) vs ds ∧ f ds = some cs ∧ ∀ v A H2, Ex H H2 → A.Nodup → (∀ x ∈ A, ¬ S x ∧ H x = none) → Own (hid (FL S A) H2) H2 v cs A → Q v H2
theorem sw_callD {f : List PD → Option (List Cel)} {ts : TA} {as : XWA} (hs : SWA ts as) : SWO (tCall (spD f) [] E0 ts) (fun ρ => (as ρ).bind fun x => (f x.1).bind fun cs => some (cs, x.2)) := fun pn F T H σ ρ cs ρ' st e Q q => by
  obtain ⟨⟨xs, ρ1⟩, h1, e⟩ := bind_some e
  obtain ⟨z, h3, e⟩ := bind_some e
  cases e
  refine hs pn F T H σ ρ xs _ st h1 _ fun vs T1 H1 st1 s1 rv => ⟨SF F T1, xs, cs, st1.als, by rw [List.append_nil]; exact rv, h3, fun v A H2 e2 nd off ow => ?_⟩
  have eq : SF (FL F A) T1 = FL (SF F T1) A := funext fun x => propext ⟨fun h => h.elim (fun h => h.elim (fun z => .inl (.inl z)) .inr) fun z => .inl (.inr z), fun h => h.elim (fun h => h.elim (fun z => .inl (.inl z)) .inr) fun z => .inl (.inr z)⟩
  have vis : Ex (hid (SF F T1) H1) (hid (SF (FL F A) T1) H2) := fun x o h => by
    obtain ⟨c, h⟩ := hid_some h
    rw [hid_out]
    · exact e2 x o h
    · rw [eq]
      rintro (z | z)
      · exact c z
      · rw [(off x z).2] at h; cases h
  have st2 := st1.ex e2
  refine q v A T1 H2 ⟨st2.len, fun x hx => hx.elim (st2.al x) (fun z => let ⟨ws, g⟩ := ow.lst x z; fun w => by rw [g] at w; cases w), fun i x hx z => z.elim (st1.off i x hx) fun z => (off x z).1 (.inr ⟨i, hx⟩), st2.dis, st2.nd, st2.out, fun i s hi => ?_, st2.pin⟩ nd (fun x hx z => (off x hx).1 (.inl z)) (fun x hx => ((Stp.ex (T := T1) st1.al e2).fr x hx).trans (s1.fr x hx)) (s1.vis.trans vis) (by rw [eq]; exact ow)
  obtain ⟨o, k1, k2⟩ := st1.sl i s hi
  refine ⟨o, k1, k2.mv vis fun x hx => ?_⟩
  obtain ⟨ws, g, _⟩ := st1.lst hx
  rw [g, e2 x _ g]
theorem st0 {S : Hs} {H : Hp} {N : List Str} {vs : List V} {ds : List PD} {n k : Nat} (al : Al S H) (ra : RpAll (hid S H) vs ds) (hn : ds.length = n) (hN : N.length = n + k) : StOk none S (fun _ => []) H (L2.start N vs) (ds.map Sl.dat ++ List.replicate k Sl.un) := by
  have e : N.length - vs.length = k := by rw [ra.length, hN, hn]; omega
  have eS : ∀ x, S x ↔ SF S (fun _ => []) x := fun x => ⟨.inl, fun h => h.elim id fun ⟨_, z⟩ => nomatch z⟩
  refine ⟨by unfold L2.start; rw [List.length_append, List.length_map, List.length_append, List.length_map, List.length_replicate, List.length_replicate, e, ra.length], al, fun i x h => (nomatch h), fun i j x h => (nomatch h), fun i => List.nodup_nil, fun i _ => rfl, fun i s hi => ?_, fun v z => nomatch z⟩
  unfold L2.start
  rw [e]
  by_cases c : i < ds.length
  · rw [List.getElem?_append_left (by rw [List.length_map]; exact c), List.getElem?_map, List.getElem?_eq_getElem c] at hi
    cases hi
    obtain ⟨v, h1, h2⟩ := ra.get (List.getElem?_eq_getElem c)
    refine ⟨some v, ?_, rfl, v, rfl, ?_⟩
    · rw [List.getElem?_append_left (by rw [List.length_map, ra.length]; exact c), List.getElem?_map, h1]
      rfl
    · rw [← hid_eq eS]; exact h2
  · rw [List.getElem?_append_right (by rw [List.length_map]; omega), List.getElem?_replicate] at hi
    rw [List.getElem?_append_right (by rw [List.length_map, ra.length]; omega), List.getElem?_replicate]
    rw [List.length_map] at hi ⊢
    rw [ra.length]
    split at hi
    · rename_i c2
      cases hi
      exact ⟨none, by rw [if_pos c2], rfl⟩
    · cases hi
theorem go_P {t : TS} {X : XS} {N : List Str} {vs : List V} {H : Hp} {Q : VK} {E : XK} {n k : Nat} (hX : SS t X) (hN : N.length = n + k) (hs : spF (runP n k X) vs H Q E) : t { nx := fun _ H' => Q .non H', rt := Q } (L2.start N vs) H := by
  obtain ⟨S, ds, d, al, ra, h, q⟩ := hs
  unfold runP at h
  by_cases hn : ds.length = n
  · rw [if_pos hn] at h
    obtain ⟨o, h1, h⟩ := bind_some h
    have eS : ∀ {T' : Trs} x, S x → SF S T' x := fun x => .inl
    have ex : ∀ {T' : Trs} {H' : Hp}, Stp S (fun _ => []) H T' H' → Ex H H' := fun {T' H'} s x o hx => by
      by_cases c : S x
      · rw [s.fr x c]; exact hx
      · exact hid_le _ _ (s.vis x o (by rw [hid_out (fun z => z.elim c fun ⟨_, z⟩ => nomatch z)]; exact hx))
    refine hX none S _ H _ _ o _ (st0 al ra hn hN) h1 ?_
    cases o with
    | ret d' ρ' => cases h; exact fun v σ T' H' st' s' rv => q v H' (ex s') (rv.ex (hid_sub fun x hx => .inl hx))
    | nxt ρ' => cases h; exact fun σ T' H' st' s' => q .non H' (ex s') .non
    | retO _ _ => cases h
    | brk _ => cases h
    | cnt _ => cases h
  · rw [if_neg hn] at h; cases h
theorem go_D {t : TS} {X : XS} {N : List Str} {vs : List V} {H : Hp} {Q : VK} {E : XK} {n k : Nat} (hX : SS t X) (hN : N.length = n + k) (hs : spD (runD n k X) vs H Q E) : t { nx := fun _ H' => Q .non H', rt := Q } (L2.start N vs) H := by
  obtain ⟨S, ds, d, al, ra, h, q⟩ := hs
  unfold runD at h
  by_cases hn : ds.length = n
  · rw [if_pos hn] at h
    obtain ⟨o, h1, h⟩ := bind_some h
    refine hX none S _ H _ _ o _ (st0 al ra hn hN) h1 ?_
    cases o with
    | retO d' ρ' =>
      cases h
      intro v A σ T' H' st' nd off fr vis ow
      have ex : Ex H H' := fun x o hx => by
        by_cases c : S x
        · rw [fr x c]; exact hx
        · exact hid_le _ _ (vis x o (by rw [hid_out (fun z => z.elim c fun ⟨_, z⟩ => nomatch z)]; exact hx))
      refine q v A H' ex nd (fun x hx => ⟨off x hx, ?_⟩) (ow.mv (hid_sub fun x hx => .inl hx) fun _ _ => rfl)
      cases qq : H x with
      | none => rfl
      | some o =>
        obtain ⟨c, _⟩ := hid_some (vis x o (by rw [hid_out (fun z => z.elim (off x hx) fun ⟨_, z⟩ => nomatch z)]; exact qq))
        exact absurd (.inl (.inr hx)) c
    | ret _ _ => cases h
    | nxt _ => cases h
    | brk _ => cases h
    | cnt _ => cases h
  · rw [if_neg hn] at h; cases h
theorem go_W {t : TS} {X : XS} {N : List Str} {vs : List V} {H : Hp} {Q : VK} {E : XK} {n k : Nat} (hX : SS t X) (hN : N.length = n + 1 + k) (hs : spW (runW n k X) vs H Q E) : t { nx := fun _ H' => Q .non H', rt := Q } (L2.start N vs) H := by
  obtain ⟨F, a, B, cs, ws, ds, d, cs', rfl, al, off, nd, ow, ra, h, q⟩ := hs
  unfold runW at h
  by_cases hn : ds.length = n
  · rw [if_pos hn] at h
    obtain ⟨o, h1, h⟩ := bind_some h
    obtain ⟨T, hT⟩ : ∃ T : Trs, T = fun i => if i = 0 then a :: B else [] := ⟨_, rfl⟩
    have T0 : T 0 = a :: B := by rw [hT]; rfl
    have TS : ∀ i, i ≠ 0 → T i = [] := fun i hi => by rw [hT]; exact if_neg hi
    have eqv : ∀ x, FL F (a :: B) x ↔ SF F T x := fun x => by
      constructor
      · rintro (z | z)
        · exact .inl z
        · exact .inr ⟨0, by rw [T0]; exact z⟩
      · rintro (z | ⟨i, z⟩)
        · exact .inl z
        · by_cases c : i = 0
          · subst c; rw [T0] at z; exact .inr z
          · rw [TS i c] at z; cases z
    have eh : hid (FL F (a :: B)) H = hid (SF F T) H := hid_eq eqv
    have e : N.length - (V.ref a :: ws).length = k := by rw [List.length_cons, ra.length, hN, hn]; omega
    have st : StOk (some (.ref a)) F T H (L2.start N (.ref a :: ws)) (.own cs :: (ds.map Sl.dat ++ List.replicate k Sl.un)) := by
      have mem : ∀ i x, x ∈ T i → i = 0 ∧ x ∈ a :: B := fun i x hx => by
        by_cases c : i = 0
        · subst c; rw [T0] at hx; exact ⟨rfl, hx⟩
        · rw [TS i c] at hx; cases hx
      refine ⟨?_, al, fun i x hx => off x (mem i x hx).2, fun i j x hx hy => (mem i x hx).1.trans (mem j x hy).1.symm, fun i => ?_, fun i hi => TS i (by rw [List.length_cons] at hi; omega), fun i s hi => ?_, fun v hv => ?_⟩
      · unfold L2.start
        rw [e]
        simp only [List.map_cons, List.cons_append, List.length_cons, List.length_append, List.length_map, List.length_replicate]
        rw [ra.length]
      · by_cases c : i = 0
        · subst c; rw [T0]; exact nd
        · rw [TS i c]; exact List.nodup_nil
      · unfold L2.start
        rw [e]
        cases i with
        | zero =>
          cases hi
          rw [T0]
          exact ⟨_, rfl, _, rfl, by rw [← eh]; exact ow⟩
        | succ i =>
          rw [TS _ (Nat.succ_ne_zero i)]
          have hi : (ds.map Sl.dat ++ List.replicate k Sl.un)[i]? = some s := hi
          show ∃ o, (ws.map some ++ List.replicate k none)[i]? = some o ∧ _
          by_cases c : i < ds.length
          · rw [List.getElem?_append_left (by rw [List.length_map]; exact c), List.getElem?_map, List.getElem?_eq_getElem c] at hi
            cases hi
            obtain ⟨v, k1, k2⟩ := ra.get (List.getElem?_eq_getElem c)
            refine ⟨some v, ?_, rfl, v, rfl, by rw [← eh]; exact k2⟩
            rw [List.getElem?_append_left (by rw [List.length_map, ra.length]; exact c), List.getElem?_map, k1]
            rfl
          · rw [List.getElem?_append_right (by rw [List.length_map]; omega), List.getElem?_replicate] at hi
            rw [List.getElem?_append_right (by rw [List.length_map, ra.length]; omega), List.getElem?_replicate]
            rw [List.length_map] at hi ⊢
            rw [ra.length]
            split at hi
            · rename_i c2
              cases hi
              exact ⟨none, by rw [if_pos c2], rfl⟩
            · cases hi
      · cases hv
        unfold L2.start
        rfl
    have fin : ∀ (v : V) (d1 : PD) (cs1 : List Cel) (σ : L2.St) (ρ1 : Env) (T' : Trs) (H' : Hp), StOk (some (.ref a)) F T' H' σ ρ1 → Stp F T H T' H' → Rp (hid (SF F T') H') v d1 → ownAt ρ1 0 = some cs1 → (d1, cs1) = (d, cs') → Q v H' := by
      intro v d1 cs1 σ ρ1 T' H' st' s' rv ho e2
      cases e2
      obtain ⟨a', us, B', h1, h2, h3, h4⟩ := st'.at_own (ownAt_eq ho)
      have hp := st'.pin _ rfl
      have ea : a' = a := by rw [h1] at hp; cases hp; rfl
      subst ea
      have sub : Ex (hid (SF F T') H') (hid (FL F (a' :: B')) H') := hid_sub fun x hx => hx.elim .inl fun z => .inr ⟨0, by rw [h4]; exact z⟩
      refine q v B' H' s'.fr (by rw [eh]; exact s'.vis.trans sub) (fun x hx => st'.off 0 x (by rw [h4]; exact hx)) (by rw [← h4]; exact st'.nd 0) ⟨a', us, B', rfl, h2, h3.mv sub fun _ _ => rfl, rfl⟩ (rv.ex sub)
    refine hX (some (.ref a)) F T H _ _ o _ st h1 ?_
    cases o with
    | ret d' ρ' =>
      obtain ⟨c1, k1, k2⟩ := bind_some h
      exact fun v σ T' H' st' s' rv => fin v d' c1 σ ρ' T' H' st' s' rv k1 (Option.some.inj k2)
    | nxt ρ' =>
      obtain ⟨c1, k1, k2⟩ := bind_some h
      exact fun σ T' H' st' s' => fin .non .none c1 σ ρ' T' H' st' s' .non k1 (Option.some.inj k2)
    | retO _ _ => cases h
    | brk _ => cases h
    | cnt _ => cases h
  · rw [if_neg hn] at h; cases h
theorem len_F {n k : Nat} {X : XS} {vs : List V} {H : Hp} {Q : VK} {E : XK} (h : spF (runP n k X) vs H Q E) : vs.length = n := by
  obtain ⟨S, ds, d, _, ra, h, _⟩ := h
  unfold runP at h
  by_cases hn : ds.length = n
  · rw [ra.length]; exact hn
  · rw [if_neg hn] at h; cases h
theorem len_D {n k : Nat} {X : XS} {vs : List V} {H : Hp} {Q : VK} {E : XK} (h : spD (runD n k X) vs H Q E) : vs.length = n := by
  obtain ⟨S, ds, d, _, ra, h, _⟩ := h
  unfold runD at h
  by_cases hn : ds.length = n
  · rw [ra.length]; exact hn
  · rw [if_neg hn] at h; cases h
theorem len_W {n k : Nat} {X : XS} {vs : List V} {H : Hp} {Q : VK} {E : XK} (h : spW (runW n k X) vs H Q E) : vs.length = n + 1 := by
  obtain ⟨F, a, B, cs, ws, ds, d, cs', rfl, _, _, _, _, ra, h, _⟩ := h
  unfold runW at h
  by_cases hn : ds.length = n
  · rw [List.length_cons, ra.length, hn]
  · rw [if_neg hn] at h; cases h
end Uv

namespace Uv
open PySem PySem.Spec PyProof.Rows L2
open Evl (Ex)
section
variable {P : Program} {w : World} {K : PySem.W.Frag} {mg : Str → Option Value} {base : Heap}
structure FnG (P : Program) (w : World) (K : PySem.W.Frag) (mg : Str → Option Value) (base : Heap) (k : Nat) (f : Addr) (fd : FuncData) (ps : List Str) (sp : Sp) : Prop where
  len : ∀ vs H Q E, sp vs H Q E → vs.length = ps.length
  run : ∀ (A : Around) (outer : List PySem.Env) (s : Shared) (H : Hp) (args : Args) (us : List Value) (vs : List V) (Q : VK) (E : XK), A.guards = some [] → Room k A → Env0 P w K mg base A outer s H → BindsTo s fd args (ps.zip us) → Vals vs us → sp vs H Q E →
    codeAny (model P w) A (.call (.ref f) args) (CR CX0 outer P w H s Q E) s
structure CalG (P : Program) (w : World) (K : PySem.W.Frag) (mg : Str → Option Value) (base : Heap) (k : Nat) (x : Str) (sp : Sp) : Prop where
  ex : ∃ (f : Addr) (fd : FuncData) (ps : List Str), FnG P w K mg base k f fd ps sp ∧ mg x = some (.ref f) ∧ PySem.W.keepIn K (.ref f) = true ∧ Binds K fd ps []
structure Dfn (K : PySem.W.Frag) (mg : Str → Option Value) (x : Str) (st : Stmt) (ps : List Str) : Prop where
  ex : ∃ f fd, Fun K x x st f fd ∧ mg x = some (.ref f) ∧ Binds K fd ps []
theorem dfn_mk {h : Heap} {x : Str} {st : Stmt} {ps : List Str} {f : Addr} {od an : Option Addr} {sl : Array (Option Value)} {oc kV dc pm cd ct : Value} (X : K.In h) (G : h.Ns mainGlobals mg)
    (a1 : PySem.W.nsIn K mainGlobals x = some (some (.ref f))) (l1 : K.lookup f = some ⟨oc, od, .func (PySem.W.fnOf x x (defArgs st) (defBody st) (defScope st) .none kV dc pm an cd ct), sl⟩) (c1 : PySem.W.codeIn K cd x = true) (k1 : PySem.W.keepIn K (.ref f) = true)
    (hb : ∀ (kV doc pm : Value) (an : Option Addr) (cdv ct : Value) (us : List Value), us.length = ps.length → bindArgs (PySem.W.fnOf x x (defArgs st) (defBody st) (defScope st) .none kV doc pm an cdv ct) ⟨us, []⟩ = pure (ps.zip us)) : Dfn K mg x st ps := by
  have F := fun_mk (st := st) l1 c1 k1
  exact ⟨f, _, F, PySem.W.mg_of X G a1, F.binds hb⟩
theorem pe_g {X : Cx} {j k : Nat} {x : Str} {sp : Sp} {p pos : Pos} {e : Expr} {es : List Expr} {t : TA} (c : CalG X.prog X.w X.K X.mg X.base k x sp) (hr : Room j X.A) (hk : k ≤ j) (hG : X.A.guards = some []) (hg : Gl X x) (ha : PA X (e :: es) t)
    (hdb : (x == ("__debug__" : Str)) = false := by decide) (he : starEach (e :: es) X.env = (false, eval e X.env) :: starEach es X.env := by rfl) (hpl : (backTo pos (starEach es X.env)).any (·.1) = false := by rfl) :
    PE X (.Call (.Name x p) (e :: es) [] pos) (tCall sp [] E0 t) := by
  obtain ⟨f, fd, ps, F, hm, kp, b⟩ := c.ex
  refine ⟨fun pins s σ H Q I h => wpAny_Call_Name_kw (ld_glob I hg hm ?_ hdb)⟩
  refine PySem.W.callWith_K (h₀ := X.base) I.ok.mod.kin kp (thn (ha.run pos pins s σ H _ I h) fun us s1 hh => ?_) he hpl
  obtain ⟨vs, H1, I1, r, q⟩ := hh
  rw [List.append_nil] at q
  have hl : us.length = ps.length := by rw [← r.length]; exact F.len _ _ _ _ q
  have bd := b s1 us I1.kIn (by rw [List.append_nil]; exact hl)
  rw [List.append_nil] at bd
  refine ⟨I1.kIn, wpAny_call (codeAny_mono (F.run X.A X.stack s1 H1 ⟨us, []⟩ us vs Q E0 hG (hr.mono hk) I1.env0 bd r q) fun rr s' hq => ?_)⟩
  match rr, hq with
  | .error _, hq => exact hq.elim
  | .ok (.ret u), hq => exact I1.after hq
  | .ok .next, hq => exact hq.elim
  | .ok .brk, hq => exact hq.elim
  | .ok .cont, hq => exact hq.elim
theorem fn_g {x : Str} {st : Stmt} {f : Addr} {fd : FuncData} {N ps : List Str} {k : Nat} {sp : Sp} (F : Fun K x x st f fd) (S : FnScope N ps (defScope st)) (len : ∀ vs H Q E, sp vs H Q E → vs.length = ps.length)
    (hb : ∀ (cdv : Value) (A : Around) (outer : List PySem.Env) (s : Shared) (H : Hp) (E : XK), (A.deeper (envOfC x (defScope st) s.heap.objs.size f cdv)).guards = some [] → Room k (A.deeper (envOfC x (defScope st) s.heap.objs.size f cdv)) →
      ∃ t, PSs (cxOf CX0 P w K mg base N x (defScope st) f cdv A outer s H E).nox (defBody st) t ∧ ∀ vs Q, sp vs H Q E → t { nx := fun _ H' => Q .non H', rt := Q } (L2.start N vs) H) : FnG P w K mg base (k + 1) f fd ps sp := by
  obtain ⟨oc, od, kV, doc, pm, an, cdv, ct, osl, rfl, lk, hcd⟩ := F.ex
  refine ⟨len, fun A outer s H args us vs Q E hG hr e0 hbd r hsp => ?_⟩
  obtain ⟨t, ht, hq⟩ := hb cdv A outer s H E hG (hr.deeper _)
  have keep : ∀ b o, base.get? b = some o → s.heap.get? b = some o := fun b o e => (e0.bs b o e).1
  have KX : K.In s.heap := e0.mod.kin.keeps keep
  have lim : s.heap.NoLimit := e0.mod.nolimit.keeps keep
  refine codeAny_call_function hr.depth (KX _ _ lk) rfl S.co S.gen rfl (PySem.W.codeRec_of KX hcd) (hbd _ _ _ _ ?_)
  refine wpAny_newFunctionEnv_cells S.kind (fun y hy => ?_) fun env he s1 ic => ?_
  · rcases S.par y.1 (List.of_mem_zip hy).1 with q | q
    · exact .inl q
    · exact .inr ⟨q, PySem.W.cellsFrom_some _ _ _ (.inl q)⟩
  · subst he
    have I : Inv (cxOf CX0 P w K mg base N x (defScope st) f cdv A outer s H E) [] (L2.start N vs) H s1 := inv_start S hr.hd e0 (len _ _ _ _ hsp) r ic
    refine ⟨lim.keeps ic.toInCall.keep, codeAny_func (wpAny_mono (ht.nox.run [] s1 (L2.start N vs) H _ I (hq vs Q hsp)) (fun fl s' hs => ?_) fun e s' hs => hs)⟩
    match fl, hs with
    | .ret u, ⟨v, σ', H', J, rv, q⟩ => exact ⟨v, H', J.os, J.bare, J.base, J.hok, rv, q⟩
    | .next, ⟨σ', H', J, q⟩ => exact ⟨.non, H', J.os, J.bare, J.base, J.hok, rfl, q⟩
    | .brk, ⟨_, _, _, q⟩ => exact q.elim
    | .cont, ⟨_, _, _, q⟩ => exact q.elim
theorem cal_g {x : Str} {st : Stmt} {N ps : List Str} {k : Nat} {sp : Sp} (F : Dfn K mg x st ps) (S : FnScope N ps (defScope st)) (len : ∀ vs H Q E, sp vs H Q E → vs.length = ps.length)
    (hb : ∀ (f : Addr) (cdv : Value) (A : Around) (outer : List PySem.Env) (s : Shared) (H : Hp) (E : XK), (A.deeper (envOfC x (defScope st) s.heap.objs.size f cdv)).guards = some [] → Room k (A.deeper (envOfC x (defScope st) s.heap.objs.size f cdv)) →
      ∃ t, PSs (cxOf CX0 P w K mg base N x (defScope st) f cdv A outer s H E).nox (defBody st) t ∧ ∀ vs Q, sp vs H Q E → t { nx := fun _ H' => Q .non H', rt := Q } (L2.start N vs) H) : CalG P w K mg base (k + 1) x sp := by
  obtain ⟨f, fd, F, hm, b⟩ := F.ex
  exact ⟨f, fd, ps, fn_g F S len (hb f), hm, F.kp, b⟩
end
def scriptH (K : PySem.W.Frag) (a : Addr) (vs : List Value) (ns : List Int) : Hp := fun b => if b = a ∧ K.lookup a = none then some (.frz { cls := .type "list", data := .seq vs.toArray } (.lst (ns.map V.int))) else none
theorem scriptH_some {K : PySem.W.Frag} {a b : Addr} {vs : List Value} {ns : List Int} {o : HO} (h : scriptH K a vs ns b = some o) : b = a ∧ K.lookup a = none ∧ o = .frz { cls := .type "list", data := .seq vs.toArray } (.lst (ns.map V.int)) := by
  unfold scriptH at h
  by_cases c : b = a ∧ K.lookup a = none
  · rw [if_pos c] at h
    exact ⟨c.1, c.2, (Option.some.inj h).symm⟩
  · rw [if_neg c] at h
    cases h
theorem none_by {K : PySem.W.Frag} {a b : Addr} {vs : List Value} {ns : List Int} (h : b = a → K.lookup a = none → False) : scriptH K a vs ns b = none := by
  cases q : scriptH K a vs ns b with
  | none => rfl
  | some o =>
    obtain ⟨e1, e2, _⟩ := scriptH_some q
    exact (h e1 e2).elim
theorem top_call {P : Program} {w : World} {K : PySem.W.Frag} {mg mb : Str → Option Value} {k : Nat} {fa a : Addr} {fd : FuncData} {x : Str} {sp : Sp} {s₁ : Shared} {vs : List Value} {ns : List Int}
    (KX : K.In s₁.heap) (hns : s₁.heap.Ns mainGlobals mg) (hb : s₁.heap.Ns builtinsNs mb) (hbb : ∀ x : Str, x ≠ "__name__" → mb x = bootBuiltins x) (hlim : s₁.heap.NoLimit) (hg : s₁.gens = #[])
    (ha : s₁.heap.get? a = some { cls := .type "list", data := .seq vs.toArray }) (hi : IntsAre vs ns) (hl : ns.length ≤ sizeLine) (hr : Room k callerA)
    (F : ∀ base : Heap, K.In base → base.Ns mainGlobals mg → FnG P w K mg base k fa fd [x] sp) (hbind : ∀ (s : Shared) (u : Value), BindsTo s fd ⟨[u], []⟩ [(x, u)])
    (hsp : ∀ H : Hp, SqL K H a (ns.map V.int) → sp [.ref a] H (fun v _ => v = .bl true) fun _ _ _ => False) :
    codeAny (model P w) callerA (.call (.ref fa) ⟨[.ref a], []⟩) (fun r s' => r = .ok (.ret (.bool true)) ∧ OldK s₁.heap s'.heap ∧ s'.os = s₁.os ∧ AllBare s'.gens) s₁ := by
  have rv := vals_ints hi
  have hs : SqL K (scriptH K a vs ns) a (ns.map V.int) := by
    cases hk : K.lookup a with
    | none => exact .inl (.inr ⟨_, if_pos ⟨rfl, hk⟩⟩)
    | some o =>
      have e := KX a o hk
      rw [ha] at e
      cases e
      exact .inr ⟨_, vs.toArray, _, hk, rfl, rfl, rfl, by rw [List.size_toArray, hi.length]; exact hl, by simpa using rv⟩
  have hok : HOk P w (scriptH K a vs ns) s₁.heap := fun b o h => by
    obtain ⟨rfl, _, rfl⟩ := scriptH_some h
    exact ⟨ha, by rw [List.length_map]; exact hl, vs, _, rv, ha⟩
  have old : ∀ {b : Addr} {o : Obj}, s₁.heap.get? b = some o → scriptH K a vs ns b = none → (hidT s₁.heap (scriptH K a vs ns)).get? b = some o := fun e n => hidT_get e n
  have nsK : ∀ {b : Addr} {m : Str → Option Value}, s₁.heap.Ns b m → (hidT s₁.heap (scriptH K a vs ns)).Ns b m := fun {b m} ⟨o, es, ep, e, d, r⟩ => ⟨o, es, ep, old e (none_by fun z _ => by
    subst z
    rw [ha] at e
    cases e
    exact nomatch (show Data.seq vs.toArray _ = Data.dict es ep from d)), d, r⟩
  have kin : K.In (hidT s₁.heap (scriptH K a vs ns)) := fun b o e => old (KX b o e) (none_by fun z q => by
    subst z
    rw [q] at e
    cases e)
  have mod : Mod K mg (hidT s₁.heap (scriptH K a vs ns)) := ⟨kin, nsK hns, ⟨mb, nsK hb, hbb⟩, let ⟨mc, h1, h2⟩ := hlim; ⟨mc, nsK h1, h2⟩⟩
  have e0 : Env0 P w K mg (hidT s₁.heap (scriptH K a vs ns)) callerA [] s₁ (scriptH K a vs ns) := ⟨rfl, mod, fun b o e => of_hidT e, Nat.le_of_eq (hidT_size _ _), trivial, fun b hb => absurd (show b ∈ ([] : List Addr) from hb) (by simp), hok, .of_eq hg⟩
  refine codeAny_mono ((F _ kin (nsK hns)).run callerA [] s₁ _ ⟨[.ref a], []⟩ [.ref a] [.ref a] _ _ rfl hr e0 (hbind s₁ (.ref a)) (.cons rfl .nil) (hsp _ hs)) fun r s' h => ?_
  match r, h with
  | .error e, h => exact h.elim
  | .ok .next, h => exact h.elim
  | .ok .brk, h => exact h.elim
  | .ok .cont, h => exact h.elim
  | .ok (.ret u), ⟨v, H', os, bare, un, hok', r', q⟩ =>
    have q' : v = .bl true := q
    subst q'
    obtain rfl : u = Value.bool true := r'
    refine ⟨rfl, OldK.of_keep fun b o e => ?_, os, bare⟩
    cases q : scriptH K a vs ns b with
    | none => exact un.keep b o e q (fun z => absurd (show b ∈ ([] : List Addr) from z) (by simp)) (by simp)
    | some u =>
      obtain ⟨rfl, _, rfl⟩ := scriptH_some q
      obtain ⟨e1, _⟩ := hok b _ q
      obtain ⟨e2, _⟩ := hok' b _ (un.frzs b _ _ q)
      rw [e] at e1
      cases e1
      exact e2
theorem walk_v {l : PySem.W.OpenLaw} {n k : Nat} {q : Program} {loose : List Str} {XP : (Str → Option Value) → Heap → Prop} {YP : World → Heap → Prop} {d : DefRec} {K : Params → PySem.W.Frag} {f : List PD → Option PD} {x : Str}
    (hn : l.most = some n) (hn2 : n ≤ sizeLine) (hdf : d.params.defaults = []) (hr : Room k callerA) (hY : ∀ (w : World) (h : Heap), YP w h → (K w.params).In h)
    (F : ∀ (w : World) (mg : Str → Option Value) (fa : Addr) (h : Heap), (K w.params).In h → h.Ns mainGlobals mg → mg d.name = some (.ref fa) →
      ∃ fd : FuncData, (∀ (s : Shared) (u : Value), BindsTo s fd ⟨[u], []⟩ [(x, u)]) ∧ ∀ base : Heap, (K w.params).In base → base.Ns mainGlobals mg → FnG l.prog w (K w.params) mg base k fa fd [x] (@spF ⟨K w.params⟩ f))
    (hf : ∀ ns : List Int, ns.length ≤ n → f [scrD (ns.map PyData.int)] = some (.bool true)) :
    PySem.W.WalkO q loose XP YP l.row.toRowW d [] (fun f vs => PySem.call f vs) := by
  refine Att.attach_call hn hdf fun w s₀ s₁ mg mb fa o pm cd doc a vs ns G Y ho hd hcd hmg hobj hints hlen hg => ?_
  obtain ⟨fd, hb, hF⟩ := F w mg fa _ (hY w _ Y) G.T.g hmg
  refine top_call (hY w _ Y) G.T.g G.T.b G.T.builtins G.T.nolimit hg hobj hints (Nat.le_trans hlen hn2) hr hF hb fun H hS => ?_
  letI : KK := ⟨K w.params⟩
  have e : ∀ x, ¬ (fun _ : Addr => False) x := fun x z => z
  have eh : hid (fun _ => False) H = H := funext fun x => hid_out (e x)
  refine ⟨fun _ => False, [scrD (ns.map PyData.int)], .bool true, fun x z => z.elim, .cons (.scr (xs := ns.map V.int) (by rw [eh]; exact hS) (RpAll.ofInts ns)) .nil, hf ns hlen, fun v H2 _ rv => ?_⟩
  cases rv
  rfl
end Uv

namespace Uv
open PySem PySem.Spec PyProof.Rows L2
open Evl (Ex)
variable [kk : KK]
def wCallD (f : List PD → Option (List Cel)) (as : XWA) : XWO := fun ρ => (as ρ).bind fun x => (f x.1).bind fun cs => some (cs, x.2)
def sAppS (i : Nat) (k : XE) (a : XW) : XS := fun ρ => (ownAt ρ i).bind fun cs => ((k (vw ρ)).bind isI).bind fun kk => (ixN cs.length kk).bind fun n => (subAt cs n).bind fun ds => (a (ρ.set i .un)).bind fun x =>
  match x.2[i]? with
  | some .un => if ds.length < 100000 then some (.nxt (x.2.set i (.own (cs.set n (.sub (ds ++ [x.1])))))) else none
  | _ => none
end Uv

namespace Uv
open PySem PySem.Spec PyProof.Rows L2 Srt SrtO
open Evl (Ex)
section
variable {prog : Program} {w : World} {A : Around} {E : Value → Shared → Prop} {s : Shared}
end
variable [kk : KK]
end Uv

namespace Uv
open PySem PySem.Spec PyProof.Rows L2
open Evl (Ex)
variable [kk : KK]
abbrev NewL (S : Hs) (H : Hp) (ds : List PD) (Q : VK) : Prop := ∀ p vs H2, Ex H H2 → H p = none → H2 p = some (.lst vs) → RpAll (hid (fun x => x = p ∨ S x) H2) vs ds → Q (.ref p) H2
def RoF (r : R2) (x y : PD) (ds : List PD) : Prop := ∀ S H vx vy, Al S H → Rp (hid S H) vx x → Rp (hid S H) vy y → ∀ Q : VK, NewL S H ds Q → r vx vy H Q
def SOF (r : R2) (f : PD → PD → Option PD) : Prop := ∀ x y z, f x y = some z → ∃ ds, z = .list ds ∧ RoF r x y ds
theorem ex_free {H H1 : Hp} {p : Addr} (e : Ex H H1) (hp : H1 p = none) : H p = none := by
  cases q : H p with
  | none => rfl
  | some o => rw [e _ _ q] at hp; cases hp
section
variable {r : R2} {f : PD → PD → Option PD} {ta tb : TE} {a b : XE}
theorem sef_op (hr : SOF r f) (ha : SE ta a) (hb : SE tb b) : SEF (tOp r ta tb) (xOp f a b) := fun ρ d h => by
  obtain ⟨x, h1, h⟩ := bind_some h
  obtain ⟨y, h2, h⟩ := bind_some h
  obtain ⟨ds, rfl, g⟩ := hr x y d h
  refine ⟨ds, rfl, fun S σ H al en Q q => ha ρ x h1 S σ H al en _ fun v H1 e1 rv => hb ρ y h2 S σ H1 (al.ex e1) (en.ex (hid_ex e1)) _ fun u H2 e2 ru => ?_⟩
  exact g S H2 v u ((al.ex e1).ex e2) (rv.ex (hid_ex e2)) ru Q fun p vs H3 e3 hp h3 ra => q p vs H3 ((e1.trans e2).trans e3) (ex_free (e1.trans e2) hp) h3 ra
def wOO (f : PD → PD → Option PD) (a b : XW) : XWO := fun ρ => (a ρ).bind fun x => (b x.2).bind fun y => ((f x.1 y.1).bind asList).bind fun ds => some (ds.map Cel.dat, y.2)
end
def catP : PD → PD → Option PD
  | .list xs, .list ys => if xs.length + ys.length ≤ 100000 then some (.list (xs ++ ys)) else none
  | _, _ => none
theorem sof_cat : SOF (rAddU K) catP := fun x y z h => by
  cases x with
  | list xs =>
    cases y with
    | list ys =>
      have h : (if xs.length + ys.length ≤ 100000 then some (PyData.list (xs ++ ys)) else none) = some z := h
      by_cases c : xs.length + ys.length ≤ 100000
      · rw [if_pos c] at h
        cases h
        refine ⟨_, rfl, fun S H vx vy al rx ry Q q => ?_⟩
        cases rx with
        | lst ha ra =>
          cases ry with
          | lst hb rb => exact .inr (.inl ⟨_, _, _, _, rfl, rfl, hid_le _ _ ha, hid_le _ _ hb, by rw [ra.length, rb.length]; exact Evl.sz_of c, fun p hp => q p _ _ (Ex.new hp) hp upd_same ((ra.append rb).ex (hid_cons (Ex.new hp) hp))⟩)
      · rw [if_neg c] at h; cases h
    | _ => cases h
  | _ => cases h
def repP : PD → PD → Option PD
  | .list xs, .int j => if 0 ≤ j ∧ j ≤ 100000 ∧ xs.length * j.toNat ≤ 100000 then some (.list (List.replicate j.toNat xs).flatten) else none
  | _, _ => none
theorem sof_rep : SOF rMulU repP := fun x y z h => by
  cases x with
  | list xs =>
    cases y with
    | int j =>
      have h : (if 0 ≤ j ∧ j ≤ 100000 ∧ xs.length * j.toNat ≤ 100000 then some (PyData.list (List.replicate j.toNat xs).flatten) else none) = some z := h
      by_cases c : 0 ≤ j ∧ j ≤ 100000 ∧ xs.length * j.toNat ≤ 100000
      · rw [if_pos c] at h
        cases h
        refine ⟨_, rfl, fun S H vx vy al rx ry Q q => ?_⟩
        cases rx with
        | lst ha ra =>
          cases ry with
          | int _ =>
            refine .inr ⟨_, _, _, rfl, rfl, hid_le _ _ ha, by omega, by omega, ?_, fun p hp => q p _ _ (Ex.new hp) hp upd_same ((ra.rep j.toNat).ex (hid_cons (Ex.new hp) hp))⟩
            rw [ra.length]
            exact Evl.sz_of c.2.2
      · rw [if_neg c] at h; cases h
    | _ => cases h
  | _ => cases h
def cutP : PD → Option Int → Option Int → Option PD
  | .list ds, l, h => some (.list (cutD ds l h))
  | .dict [(.none, .list ds)], l, h => some (.list (cutD ds l h))
  | _, _, _ => none
def xCut (a : XE) (lo hi : XO) : XE := fun ρ => (a ρ).bind fun d => (lo ρ).bind fun l => (hi ρ).bind fun h => cutP d l h
theorem sef_cut {ta : TE} {tl th : TO} {a : XE} {lo hi : XO} (ha : SE ta a) (hl : SP tl lo) (hh : SP th hi) : SEF (tSl (rSlU K) ta tl th) (xCut a lo hi) := fun ρ d h => by
  obtain ⟨x, h1, h⟩ := bind_some h
  obtain ⟨l, h2, h⟩ := bind_some h
  obtain ⟨u, h3, h⟩ := bind_some h
  have main : ∀ ds : List PD, (x = .list ds ∨ x = scrD ds) → FrL (tSl (rSlU K) ta tl th) ρ (cutD ds l u) := fun ds hx S σ H al en Q q => by
    refine ha ρ x h1 S σ H al en _ fun v H1 e1 rv => hl ρ l h2 S σ H1 (al.ex e1) (en.ex (hid_ex e1)) _ fun H2 e2 => hh ρ u h3 S σ H2 ((al.ex e1).ex e2) ((en.ex (hid_ex e1)).ex (hid_ex e2)) _ fun H3 e3 => ?_
    have e23 := e2.trans e3
    have e13 := e1.trans e23
    have rv3 := rv.ex (hid_ex (S := S) e23)
    rcases hx with rfl | rfl
    · cases rv3 with
      | lst ha3 ra3 => exact .inl ⟨_, _, rfl, .inl (.inl (hid_le _ _ ha3)), fun p hp => q p _ _ (e13.trans (Ex.new hp)) (ex_free e13 hp) upd_same ((ra3.cut l u).ex (hid_cons (Ex.new hp) hp))⟩
    · cases rv3 with
      | dct _ _ hp _ => rcases zip_str hp with e | ⟨k, d, r, e⟩ <;> cases e
      | scr hs ra3 => exact .inl ⟨_, _, rfl, sqx hid_le hs, fun p hp => q p _ _ (e13.trans (Ex.new hp)) (ex_free e13 hp) upd_same ((ra3.cut l u).ex (hid_cons (Ex.new hp) hp))⟩
  revert h
  unfold cutP
  split
  · intro h; cases h; exact ⟨_, rfl, main _ (.inl rfl)⟩
  · intro h; cases h; exact ⟨_, rfl, main _ (.inr rfl)⟩
  · intro h; cases h
def partsP : PD → Option (List PD)
  | .list ds => some ds
  | .tuple ds => some ds
  | _ => none
def xStar (a : XE) (as : XA) : XA := fun ρ => (a ρ).bind fun x => (partsP x).bind fun xs => (as ρ).bind fun ys => some (xs ++ ys)
def oIsU : R2 := fun x y H Q => oIsN x y H Q ∨ ∃ b c, x = .bl b ∧ y = .bl c ∧ Q (.bl (b == c)) H
def oNotU : R2 := fun x y H Q => oNotN x y H Q ∨ ∃ b c, x = .bl b ∧ y = .bl c ∧ Q (.bl (b != c)) H
theorem op_isU {X : Cx} : OpR X (compareOp .Is) oIsU := OpR.or op_isN fun pins s σ H x y v u Q I rx ry h => by
  obtain ⟨b, c, rfl, rfl, q⟩ := h
  cases rx
  cases ry
  exact PyProof.Rows.is_bool (fin_bl I q rfl)
theorem op_notU {X : Cx} : OpR X (compareOp .IsNot) oNotU := OpR.or op_notN fun pins s σ H x y v u Q I rx ry h => by
  obtain ⟨b, c, rfl, rfl, q⟩ := h
  cases rx
  cases ry
  exact PyProof.Rows.isnot_bool (fin_bl I q rfl)
def isU : PD → PD → Option PD
  | .bool b, .bool c => some (.bool (b == c))
  | x, .none => some (.bool (isNone x))
  | _, _ => none
def isntU : PD → PD → Option PD
  | .bool b, .bool c => some (.bool (b != c))
  | x, .none => some (.bool (!isNone x))
  | _, _ => none
theorem so_isU : SO oIsU isU := fun x y z h S H vx vy al rx ry Q q => by
  cases ry with
  | non =>
    have e : z = .bool (isNone x) := by cases x <;> (cases h; rfl)
    subst e
    exact .inl ⟨rfl, q _ H (Ex.refl H) (by rw [isNone_of rx]; exact .bl _)⟩
  | bl c =>
    cases rx with
    | bl b => cases h; exact .inr ⟨b, c, rfl, rfl, q _ H (Ex.refl H) (.bl _)⟩
    | _ => cases h
  | _ => cases x <;> cases h
theorem so_isntU : SO oNotU isntU := fun x y z h S H vx vy al rx ry Q q => by
  cases ry with
  | non =>
    have e : z = .bool (!isNone x) := by cases x <;> (cases h; rfl)
    subst e
    exact .inl ⟨rfl, q _ H (Ex.refl H) (by rw [isNone_of rx]; exact .bl _)⟩
  | bl c =>
    cases rx with
    | bl b => cases h; exact .inr ⟨b, c, rfl, rfl, q _ H (Ex.refl H) (.bl _)⟩
    | _ => cases h
  | _ => cases x <;> cases h
section
variable {P : Program} {w : World} {mg : Str → Option Value} {base : Heap}
end
end Uv

namespace Un
open PySem PySem.Spec PyProof.Rows L2
theorem tuple_mul1 (l : Addr) (its : Array Value) (n : Nat) (dd : Option Addr) (sl : Array (Option Value)) (u : Tok) :
    Meets (Builtin.«tuple.__mul__» ⟨[.ref l, .int 1 u], []⟩) (fun _ R st => st.heap.get? l = some { cls := .type "tuple", dict := dd, data := .seq its n, slots := sl } ∧ R (.ok (.ret (Value.ref l))) st) :=
  .of_wp fun prog w A R st hh => by
    obtain ⟨hp, gn, dr, tk, os⟩ := st
    obtain ⟨hl, hh⟩ := hh
    have f1 := AutoSeq1.idx_int
    have c0 : (decide ((1 : Int) < -(2 ^ 63)) || decide ((1 : Int) ≥ 2 ^ 63)) = false := by decide
    have c1 : (its.isEmpty || (1 : Int) == 1) = true := by simp
    wp_walk using AutoSeq1.wpAny_loadPart' hl
    exact ⟨_, rfl, hh⟩
end Un

namespace Uv
open PySem PySem.Spec PyProof.Rows L2
open Evl (Ex)
section
variable {prog : Program} {w : World} {A : Around} {E : Value → Shared → Prop} {s : Shared}
end
end Uv

namespace Uv
open PySem PySem.Spec PyProof.Rows L2
open Evl (Ex)
theorem tuple_mul0 (l : Addr) (its : Array Value) (n : Nat) (dd : Option Addr) (sl : Array (Option Value)) (u : Tok) (hne : its.isEmpty = false) :
    Meets (Builtin.«tuple.__mul__» ⟨[.ref l, .int 0 u], []⟩) (fun _ R st => st.heap.get? l = some { cls := .type "tuple", dict := dd, data := .seq its n, slots := sl } ∧ R (.ok (.ret (Value.ref st.heap.objs.size))) { st with heap := st.heap.push { cls := Value.type "tuple", data := Data.seq #[] }, toks := st.toks }) :=
  .of_wp fun prog w A R st hh => by
    obtain ⟨hp, gn, dr, tk, os⟩ := st
    obtain ⟨hl, hh⟩ := hh
    have f1 := AutoSeq1.idx_int
    have c0 : (decide ((0 : Int) < -(2 ^ 63)) || decide ((0 : Int) ≥ 2 ^ 63)) = false := by decide
    have c1 : (its.isEmpty || (0 : Int) == 1) = false := by rw [hne]; rfl
    wp_walk using AutoSeq1.wpAny_loadPart' hl
    repeat (first
      | (refine wpAny_ite_false (decide_eq_false (by rw [c0]; exact Bool.false_ne_true)) ?_; wp_walk using AutoSeq1.wpAny_loadPart' hl)
      | (refine wpAny_ite_false (decide_eq_false (by rw [c1]; exact Bool.false_ne_true)) ?_; wp_walk using AutoSeq1.wpAny_loadPart' hl))
    exact ⟨_, rfl, hh⟩
def rRepF (K : PySem.W.Frag) : R2 := fun x y H Q => ∃ l k xs, x = .ref l ∧ y = .int k ∧ SqT K H l xs ∧ xs ≠ [] ∧ 0 ≤ k ∧ k ≤ 1000 ∧ xs.length ≤ 1000 ∧ (k = 1 → Q (.ref l) H) ∧ (k ≠ 1 → ∀ p o, H p = none → Plain o → Q (.ref p) (upd H p (fz o (List.replicate k.toNat xs).flatten)))
theorem op_repF {X : Cx} : OpR X (binaryOp .Mult) (rRepF X.K) := by
  intro pins s σ H x y v u Q I rx ry h
  obtain ⟨l, k, xs, rfl, rfl, hT, hne, h1, h2, hz, q1, q2⟩ := h
  cases rx
  obtain ⟨t, rfl⟩ := ry
  obtain ⟨its, r, ⟨⟨cls, dd, data, sl⟩, ho, hc, n, hd⟩, hs⟩ := I.tuple hT
  simp only at hc hd
  subst hc hd
  have hle : its.length = xs.length := r.length.symm
  have hi : its.toArray.isEmpty = false := by
    cases its with
    | nil => exact absurd (List.eq_nil_of_length_eq_zero hle.symm) hne
    | cons a b => rfl
  refine wpAny_binaryOp_repeat_ref (T := "tuple") (U := "int") (by decide) ⟨_, ho, rfl⟩ (fun s' => typeIs_int s' k t) noFill_tuple_mul F.fills_int_mul F.slot_int_rmul repeat_tuple F.slot_int_index.lookup ?_
  refine call_meets F.slot_int_rmul (typeIs_int s k t) F.entry_int_rmul (F.args_int_rmul_2 _ _) (int_rmul_tuple k t l its.toArray n dd sl) ⟨ho, rfl, ⟨_, ho, rfl⟩, ?_⟩
  have new : ∀ (us : List Value) (vs : List V), Vals vs us → vs.length ≤ sizeLine → (∀ p o, H p = none → Plain o → Q (.ref p) (upd H p (fz o vs))) → EP X pins σ Q (.ref s.heap.objs.size) { s with heap := s.heap.push { cls := Value.type "tuple", data := Data.seq us.toArray }, toks := s.toks } := fun us vs rv hv q => by
    have ok := I.laid (t' := s.toks) (o := fz _ vs) (fun b ob e => Heap.get?_push_of_some _ e) (Nat.le_refl _) (show ObjOk X.prog X.w _ _ _ (.frz _ (.tup vs)) from ⟨Heap.get?_push_size _ rfl, hv, us, rv, IsTup.new _ _⟩)
    exact ⟨.ref s.heap.objs.size, _, ok, rfl, q _ _ (I.hok.fresh (Nat.le_refl _)) ⟨rfl, rfl⟩⟩
  by_cases hk : k = 1
  · subst hk
    exact call_meets F.slot_tuple_mul ⟨_, ho, rfl⟩ F.entry_tuple_mul (F.args_tuple_mul_2 _ _) (Un.tuple_mul1 l its.toArray n dd sl t) ⟨ho, .ref l, H, I, rfl, q1 rfl⟩
  · have q2 := q2 hk
    by_cases h0 : k = 0
    · subst h0
      exact call_meets F.slot_tuple_mul ⟨_, ho, rfl⟩ F.entry_tuple_mul (F.args_tuple_mul_2 _ _) (tuple_mul0 l its.toArray n dd sl t hi) ⟨ho, new [] [] .nil (Nat.zero_le _) q2⟩
    · have hm : ((its.toArray.size : Nat) : Int) * k ≤ 1000000 := by
        rw [List.size_toArray, hle]
        have a1 : ((xs.length : Nat) : Int) * k ≤ 1000 * k := Int.mul_le_mul_of_nonneg_right (by omega) (by omega)
        omega
      have flen : (List.replicate k.toNat its).flatten.length ≤ sizeLine := by
        rw [PyProof.Rows.lm_len_rep_flat, hle, sizeLine_eq]
        have a1 : k.toNat * xs.length ≤ 1000 * 1000 := Nat.mul_le_mul (by omega) hz
        omega
      have rep : ∀ m : Nat, Vals (List.replicate m xs).flatten (List.replicate m its).flatten := fun m => by
        induction m with
        | zero => exact .nil
        | succ m ih => rw [List.replicate_succ, List.replicate_succ, List.flatten_cons, List.flatten_cons]; exact r.append ih
      have c0 : (decide (k < -(2 ^ 63)) || decide (k ≥ 2 ^ 63)) = false := by rw [decide_eq_false (by omega), decide_eq_false (by omega)]; rfl
      have c1 : (its.toArray.isEmpty || k == 1) = false := by rw [hi, Bool.false_or]; exact beq_eq_false_iff_ne.mpr hk
      have c2 : (decide (k ≤ 0) || its.toArray.isEmpty) = false := by rw [hi, Bool.or_false]; exact decide_eq_false (by omega)
      have c4 : Builtin.Tuple.tupleTooMany (((its.toArray.size : Nat) : Int) * k) = false := by unfold Builtin.Tuple.tupleTooMany; rw [sizeLine_eq]; exact decide_eq_false (by omega)
      refine call_meets F.slot_tuple_mul ⟨_, ho, rfl⟩ F.entry_tuple_mul (F.args_tuple_mul_2 _ _) (tuple_mulW l its.toArray n dd sl k t c0 c1 c2 (by omega) c4 (by rw [size_rep, List.size_toArray]; exact flen)) ⟨ho, ?_⟩
      rw [size_rep]
      exact new _ _ (rep k.toNat) (by rw [(rep k.toNat).length]; exact flen) q2
section
variable [kk : KK]
def sAug (i : Nat) (f : Int → Int → Int) (k a : XE) : XS := fun ρ => (ownAt ρ i).bind fun cs => ((k (vw ρ)).bind isI).bind fun k => (ixN cs.length k).bind fun n => ((datAt cs n).bind isI).bind fun x => ((a (vw ρ)).bind isI).bind fun y => some (.nxt (ρ.set i (.own (cs.set n (.dat (.int (f x y)))))))
def three : List Cel → Option (Cel × Cel × Cel)
  | [a, b, c] => some (a, b, c)
  | _ => none
def sPar3 (i j k : Nat) (as : XWC) : XS := fun ρ => (as ρ).bind fun x => (three x.1).bind fun c => if i < x.2.length ∧ j < x.2.length ∧ k < x.2.length then some (.nxt (((x.2.set i (toSl c.1)).set j (toSl c.2.1)).set k (toSl c.2.2))) else none
def backP : PD → Option PD
  | .list ds => some (.list ds.reverse)
  | .tuple ds => some (.tuple ds.reverse)
  | _ => none
def backL : PD → Option PD
  | .list ds => some (.list ds.reverse)
  | _ => none
def rgP : PD → Option (List PD)
  | .int n => if -(2 ^ 62) ≤ n ∧ n ≤ 100000 then some ((List.range n.toNat).map fun k => .int (k : Nat)) else none
  | _ => none
def rgL (d : PD) : Option PD := (rgP d).bind fun ds => some (.list ds)
def rgT (d : PD) : Option PD := (rgP d).bind fun ds => some (.tuple ds)
def mulU : PD → PD → Option PD
  | .tuple xs, .int j => if xs ≠ [] ∧ 0 ≤ j ∧ j ≤ 1000 ∧ xs.length ≤ 1000 then some (.tuple (List.replicate j.toNat xs).flatten) else none
  | x, y => mulP x y
def rMulV (K : PySem.W.Frag) : R2 := fun x y H Q => rMulU x y H Q ∨ rRepF K x y H Q
theorem op_mulV {X : Cx} : OpR X (binaryOp .Mult) (rMulV X.K) := OpR.or op_mulU op_repF
theorem so_mulV : SO (rMulV K) mulU := fun x y z h S H vx vy al rx ry Q q => by
  cases rx with
  | @tup a o xs ds ha pa ra =>
    cases ry with
    | int j =>
      have h : (if ds ≠ [] ∧ 0 ≤ j ∧ j ≤ 1000 ∧ ds.length ≤ 1000 then some (PyData.tuple (List.replicate j.toNat ds).flatten) else none) = some z := h
      by_cases c : ds ≠ [] ∧ 0 ≤ j ∧ j ≤ 1000 ∧ ds.length ≤ 1000
      · rw [if_pos c] at h
        cases h
        refine .inr ⟨a, j, xs, rfl, rfl, .inl (.inr ⟨_, hid_le _ _ ha⟩), fun e => ?_, c.2.1, c.2.2.1, by rw [ra.length]; exact c.2.2.2, fun e => ?_, fun e p o' hp pl => q _ _ (Ex.new hp) (.tup (new_ok al hp) pl ((ra.rep j.toNat).ex (hid_ex (Ex.new hp))))⟩
        · subst e
          cases ra
          exact c.1 rfl
        · subst e
          refine q _ H (Ex.refl H) ?_
          have e : (List.replicate (1 : Int).toNat ds).flatten = ds := by simp
          rw [e]
          exact .tup ha pa ra
      · rw [if_neg c] at h; cases h
    | _ => cases h
  | int i => exact .inl (so_mul _ _ z (by cases y <;> exact h) S H _ vy al (.int i) ry Q q)
  | lst ha ra => exact .inl (so_mul _ _ z (by cases y <;> exact h) S H _ vy al (.lst ha ra) ry Q q)
  | _ => cases y <;> cases h
def minU : List PD → Option PD
  | [.int i, .int j, .int k] => some (.int (if k < (if j < i then j else i) then k else (if j < i then j else i)))
  | xs => minP xs
def rMinV (K : PySem.W.Frag) : List V → Hp → VK → Prop := fun xs H Q => rMinU K xs H Q ∨ rNuC3 nuMin3 xs H Q
theorem cr_minV {X : Cx} (hc : X.calm = true) : CallR X (.builtin "min") (rMinV X.K) := CallR.or (cr_minU hc) (call_min3Nu hc)
theorem sc_minV : SC (rMinV K) minU := fun xs z h S H vs al rs Q q => by
  by_cases c : ∃ i j k, xs = [.int i, .int j, .int k]
  · obtain ⟨i, j, k, rfl⟩ := c
    cases h
    cases rs with
    | cons r1 rs =>
      cases rs with
      | cons r2 rs =>
        cases rs with
        | cons r3 rs =>
          cases rs
          cases r1; cases r2; cases r3
          refine .inr ⟨.int i, .int j, .int k, .int (if k < (if j < i then j else i) then k else (if j < i then j else i)), rfl, ?_, q _ H (Ex.refl H) (.int _)⟩
          unfold nuMin3 nuMin2
          by_cases c1 : j < i
          · by_cases c2 : k < j <;> simp [nuLt, nuCB, c1, c2]
          · by_cases c2 : k < i <;> simp [nuLt, nuCB, c1, c2]
  · refine .inl (sc_min xs z ?_ S H vs al rs Q q)
    unfold minU at h
    split at h
    · exact absurd ⟨_, _, _, rfl⟩ c
    · exact h
end
end Uv

namespace Uv
open PySem PySem.Spec PyProof.Rows L2
open Evl (Ex)
def rGtD (K : PySem.W.Frag) : R2 := fun x y H Q => ∃ d e, Dp K H x d ∧ Dp K H y e ∧ SeqAt.shaped d = true ∧ PySem.W.alike d e = true ∧ d ≠ .none ∧ Q (.bl (PySem.W.dataLt e d)) H
theorem shaped_dep {d : PyData} (h : SeqAt.shaped d = true) : d.depth ≤ 64 := by
  unfold SeqAt.shaped at h
  rw [Bool.and_eq_true] at h
  exact of_decide_eq_true h.2
theorem op_gtD {X : Cx} (hu : X.A.units + 64 < cLine) : OpR X (compareOp .Gt) (rGtD X.K) := by
  intro pins s σ H x y v u Q I rx ry h
  obtain ⟨d, e, hd, he, sd, al, hn, q⟩ := h
  obtain ⟨as, r1⟩ := Dp.reads I d x v hd rx
  obtain ⟨bs, r2⟩ := Dp.reads I e y u he ry
  have := shaped_dep sd
  exact PySem.W.gt_data r1 r2 al hn (by omega) ⟨.bl _, H, I, rfl, q⟩
variable [kk : KK]
def rGtU (K : PySem.W.Frag) : R2 := fun x y H Q => oGt x y H Q ∨ rGtD K x y H Q
theorem op_gtU {X : Cx} (hu : X.A.units + 64 < cLine) : OpR X (compareOp .Gt) (rGtU X.K) := OpR.or op_gt (op_gtD hu)
def gtU : PD → PD → Option PD
  | .int i, .int j => some (.bool (decide (j < i)))
  | x, y => if SeqAt.shaped x = true ∧ SeqAt.shaped y = true ∧ PySem.W.alike x y = true ∧ isNone x = false then some (.bool (PySem.W.dataLt y x)) else none
omit kk in
theorem gtU_eq {x y z : PD} (h : gtU x y = some z) : (∃ i j, x = .int i ∧ y = .int j ∧ z = .bool (decide (j < i))) ∨ (SeqAt.shaped x = true ∧ SeqAt.shaped y = true ∧ PySem.W.alike x y = true ∧ isNone x = false ∧ z = .bool (PySem.W.dataLt y x)) := by
  unfold gtU at h
  split at h
  · cases h
    exact .inl ⟨_, _, rfl, rfl, rfl⟩
  · split at h
    · rename_i c
      cases h
      exact .inr ⟨c.1, c.2.1, c.2.2.1, c.2.2.2, rfl⟩
    · cases h
theorem so_gtU : SO (rGtU K) gtU := fun x y z h S H vx vy al rx ry Q q => by
  rcases gtU_eq h with ⟨i, j, rfl, rfl, rfl⟩ | ⟨c1, c2, c3, c4, rfl⟩
  · cases rx; cases ry
    exact .inl ⟨i, j, rfl, rfl, q _ H (Ex.refl H) (.bl _)⟩
  · refine .inr ⟨x, y, (rx.ex hid_le).dp (nodict c1), (ry.ex hid_le).dp (nodict c2), c1, c3, ?_, q _ H (Ex.refl H) (.bl _)⟩
    rintro rfl
    exact nomatch c4
end Uv

namespace Uv
open PySem PySem.Spec PyProof.Rows L2
open Evl (Ex)
abbrev Tri (h : Heap) (T : Addr) (a b c : Value) : Prop := h.get? T = some { cls := .type "tuple", data := .seq #[a, b, c] }
structure Z3 (h : Heap) (n l1 l2 l3 : Nat) (k : Nat) : Prop where
  z : IsZip h (n + 5) (n + 3) (n + 4) .none
  ti : Tri h (n + 3) (.ref n) (.ref (n + 1)) (.ref (n + 2))
  to : ∃ a b c, Tri h (n + 4) a b c
  t1 : h.IsTupleIter n l1 k
  t2 : h.IsTupleIter (n + 1) l2 k
  t3 : h.IsTupleIter (n + 2) l3 k
section
variable {prog : Program} {w : World} {A : Around} {E : Value → Shared → Prop} {s : Shared}
end
section
variable {prog : Program} {w : World} {A : Around} {E : Value → Shared → Prop} {s : Shared}
end
variable [kk : KK]
def zipD3 : List PD → List PD → List PD → List PD
  | x :: xs, y :: ys, z :: zs => .tuple [x, y, z] :: zipD3 xs ys zs
  | _, _, _ => []
def zip3P : List PD → Option (List PD)
  | [.tuple xs, .tuple ys, .tuple zs] => some (zipD3 xs ys zs)
  | _ => none
section
variable {S : Hs} {H : Hp}
end
section
variable {ts : TA}
end
end Uv

namespace Uv
open PySem PySem.Spec PyProof.Rows L2
open Evl (Ex)
theorem PE.mono {X : Cx} {e : Expr} {t u : TE} (h : PE X e t) (m : ∀ σ H Q, u σ H Q → t σ H Q) : PE X e u := ⟨fun pins s σ H Q I q => h.run pins s σ H Q I (m σ H Q q)⟩
section
variable {X : Cx} {ta : TE} {a : Expr} {p p2 q pos : Pos}
end
variable [kk : KK]
end Uv

namespace Uv
open PySem PySem.Spec PyProof.Rows L2
open Evl (Ex)
theorem u1 {k : Nat} {A : Around} (r : Room k A) : A.units + 1 < cLine := by have := r.un; omega
variable [kk : KK]
def hasD (l : List (Int × PD)) (n : Int) : Bool := l.any fun kv => decide (kv.1 = n)
def getD (l : List (Int × PD)) (n : Int) : Option PD := (l.find? fun kv => decide (kv.1 = n)).map (·.2)
def putD (l : List (Int × PD)) (n : Int) (d : PD) : List (Int × PD) := if hasD l n = true then l.map (fun kv => if kv.1 = n then (kv.1, d) else kv) else l ++ [(n, d)]
def dicAt (ρ : Env) (i : Nat) : Option (List (Int × PD)) := match ρ[i]? with
  | some (.dic l) => some l
  | _ => none
theorem Kvs.snoc {G : Hp} {v : V} {d : PD} (rv : Rp G v d) (n : Int) : ∀ {ks : List (Key × V)} {l : List (Int × PD)}, Kvs G ks l → Kvs G (ks ++ [(.inl n, v)]) (l ++ [(n, d)])
  | _, _, .nil => .cons rv .nil
  | _, _, .cons r c => .cons r (c.snoc rv n)
theorem Kvs.get {G : Hp} : ∀ {ks : List (Key × V)} {l : List (Int × PD)} {n : Int} {d : PD}, Kvs G ks l → getD l n = some d → ∃ v, valV ks (.inl n) = some v ∧ Rp G v d
  | _, _, _, _, .nil, h => nomatch h
  | _, _, n, d, .cons (k := k) (v := v) (d := d') (l := l) r c, h => by
    by_cases e : k = n
    · subst e
      have h : getD ((k, d') :: _) k = some d := h
      unfold getD at h
      rw [List.find?_cons] at h
      simp at h
      subst h
      exact ⟨v, valV_pos rfl, r⟩
    · have h2 : getD l n = some d := by
        unfold getD at h ⊢
        rw [List.find?_cons] at h
        simpa [e] using h
      obtain ⟨u, h3, h4⟩ := c.get h2
      exact ⟨u, by rw [valV_neg (fun z => e (Sum.inl.inj z))]; exact h3, h4⟩
theorem Kvs.len {G : Hp} : ∀ {ks : List (Key × V)} {l : List (Int × PD)}, Kvs G ks l → ks.length = l.length
  | _, _, .nil => rfl
  | _, _, .cons _ c => by rw [List.length_cons, List.length_cons, c.len]
section
variable {pn : Option V} {F : Hs} {T : Trs} {H : Hp} {σ : L2.St} {ρ : Env}
end
def sDNew (i : Nat) : XS := fun ρ => if i < ρ.length then some (.nxt (ρ.set i (.dic []))) else none
def wDin (i : Nat) (k : XE) : XW := fun ρ => ((k (mk ρ)).bind isI).bind fun n => (dicAt ρ i).bind fun l => some (.bool (hasD l n), ρ)
def wDnot (i : Nat) (k : XE) : XW := fun ρ => ((k (mk ρ)).bind isI).bind fun n => (dicAt ρ i).bind fun l => some (.bool (!hasD l n), ρ)
def wDget (i : Nat) (k : XE) : XW := fun ρ => ((k (mk ρ)).bind isI).bind fun n => (dicAt ρ i).bind fun l => (getD l n).bind fun d => some (d, ρ)
def sDput (i : Nat) (k : XE) (a : XW) : XS := fun ρ => (a ρ).bind fun x => ((k (mk x.2)).bind isI).bind fun n => (dicAt x.2 i).bind fun l => if l.length < 100000 then some (.nxt (x.2.set i (.dic (putD l n x.1)))) else none
section
variable {tk te : TE} {k : XE} {w : XW}
end
end Uv

namespace Uv
open PySem PySem.Spec PyProof.Rows L2
open Evl (Ex)
variable [kk : KK]
def runV (n k : Nat) (X : XS) (cs : List Cel) (ds : List PD) : Option (List Cel × List Cel) := if ds.length = n then (X (.own cs :: (ds.map Sl.dat ++ List.replicate k Sl.un))).bind fun o => match o with
  | .retO r ρ => (ownAt ρ 0).bind fun cs' => some (r, cs')
  | _ => none else none
def spV (g : List Cel → List PD → Option (List Cel × List Cel)) : Sp := fun vs H Q _ => ∃ (F : Hs) (a : Addr) (B : List Addr) (cs : List Cel) (ws : List V) (ds : List PD) (r cs' : List Cel), vs = .ref a :: ws ∧ Al F H ∧ (∀ x ∈ a :: B, ¬ F x) ∧ (a :: B).Nodup ∧
  Own (hid (FL F (a :: B)) H) H (.ref a) cs (a :: B) ∧ RpAll (hid (FL F (a :: B)) H) ws ds ∧ g cs ds = some (r, cs') ∧
  ∀ v A B' H', (∀ x, F x → H' x = H x) → Ex (hid (FL F (a :: B)) H) (hid (FL (FL F A) (a :: B')) H') → (∀ x ∈ a :: B', ¬ FL F A x) → (a :: B').Nodup → A.Nodup → (∀ x ∈ A, ¬ F x) → Own (hid (FL (FL F A) (a :: B')) H') H' (.ref a) cs' (a :: B') → Own (hid (FL (FL F A) (a :: B')) H') H' v r A → Q v H'
theorem len_V {n k : Nat} {X : XS} {vs : List V} {H : Hp} {Q : VK} {E : XK} (h : spV (runV n k X) vs H Q E) : vs.length = n + 1 := by
  obtain ⟨_, _, _, _, ws, ds, _, _, rfl, _, _, _, _, ra, h, _⟩ := h
  unfold runV at h
  by_cases hn : ds.length = n
  · rw [List.length_cons, ra.length, hn]
  · rw [if_neg hn] at h; cases h
theorem go_V {t : TS} {X : XS} {N : List Str} {vs : List V} {H : Hp} {Q : VK} {E : XK} {n k : Nat} (hX : SS t X) (hN : N.length = n + 1 + k) (hs : spV (runV n k X) vs H Q E) : t { nx := fun _ H' => Q .non H', rt := Q } (L2.start N vs) H := by
  obtain ⟨F, a, B, cs, ws, ds, d, cs', rfl, al, off, nd, ow, ra, h, q⟩ := hs
  unfold runV at h
  by_cases hn : ds.length = n
  · rw [if_pos hn] at h
    obtain ⟨o, h1, h⟩ := bind_some h
    obtain ⟨T, hT⟩ : ∃ T : Trs, T = fun i => if i = 0 then a :: B else [] := ⟨_, rfl⟩
    have T0 : T 0 = a :: B := by rw [hT]; rfl
    have TS : ∀ i, i ≠ 0 → T i = [] := fun i hi => by rw [hT]; exact if_neg hi
    have eqv : ∀ x, FL F (a :: B) x ↔ SF F T x := fun x => by
      constructor
      · rintro (z | z)
        · exact .inl z
        · exact .inr ⟨0, by rw [T0]; exact z⟩
      · rintro (z | ⟨i, z⟩)
        · exact .inl z
        · by_cases c : i = 0
          · subst c; rw [T0] at z; exact .inr z
          · rw [TS i c] at z; cases z
    have eh : hid (FL F (a :: B)) H = hid (SF F T) H := hid_eq eqv
    have e : N.length - (V.ref a :: ws).length = k := by rw [List.length_cons, ra.length, hN, hn]; omega
    have st : StOk (some (.ref a)) F T H (L2.start N (.ref a :: ws)) (.own cs :: (ds.map Sl.dat ++ List.replicate k Sl.un)) := by
      have mem : ∀ i x, x ∈ T i → i = 0 ∧ x ∈ a :: B := fun i x hx => by
        by_cases c : i = 0
        · subst c; rw [T0] at hx; exact ⟨rfl, hx⟩
        · rw [TS i c] at hx; cases hx
      refine ⟨?_, al, fun i x hx => off x (mem i x hx).2, fun i j x hx hy => (mem i x hx).1.trans (mem j x hy).1.symm, fun i => ?_, fun i hi => TS i (by rw [List.length_cons] at hi; omega), fun i s hi => ?_, fun v hv => ?_⟩
      · unfold L2.start
        rw [e]
        simp only [List.map_cons, List.cons_append, List.length_cons, List.length_append, List.length_map, List.length_replicate]
        rw [ra.length]
      · by_cases c : i = 0
        · subst c; rw [T0]; exact nd
        · rw [TS i c]; exact List.nodup_nil
      · unfold L2.start
        rw [e]
        cases i with
        | zero =>
          cases hi
          rw [T0]
          exact ⟨_, rfl, _, rfl, by rw [← eh]; exact ow⟩
        | succ i =>
          rw [TS _ (Nat.succ_ne_zero i)]
          have hi : (ds.map Sl.dat ++ List.replicate k Sl.un)[i]? = some s := hi
          show ∃ o, (ws.map some ++ List.replicate k none)[i]? = some o ∧ _
          by_cases c : i < ds.length
          · rw [List.getElem?_append_left (by rw [List.length_map]; exact c), List.getElem?_map, List.getElem?_eq_getElem c] at hi
            cases hi
            obtain ⟨v, k1, k2⟩ := ra.get (List.getElem?_eq_getElem c)
            refine ⟨some v, ?_, rfl, v, rfl, by rw [← eh]; exact k2⟩
            rw [List.getElem?_append_left (by rw [List.length_map, ra.length]; exact c), List.getElem?_map, k1]
            rfl
          · rw [List.getElem?_append_right (by rw [List.length_map]; omega), List.getElem?_replicate] at hi
            rw [List.getElem?_append_right (by rw [List.length_map, ra.length]; omega), List.getElem?_replicate]
            rw [List.length_map] at hi ⊢
            rw [ra.length]
            split at hi
            · rename_i c2
              cases hi
              exact ⟨none, by rw [if_pos c2], rfl⟩
            · cases hi
      · cases hv
        unfold L2.start
        rfl
    refine hX (some (.ref a)) F T H _ _ o _ st h1 ?_
    cases o with
    | retO r1 ρ1 =>
      obtain ⟨c1, k1, k2⟩ := bind_some h
      intro v A σ T' H' st' ndA offA fr vis owR
      have k2 : (r1, c1) = (d, cs') := Option.some.inj k2
      cases k2
      obtain ⟨a', us, B', g1, g2, g3, g4⟩ := st'.at_own (ownAt_eq k1)
      have hp := st'.pin _ rfl
      have ea : a' = a := by rw [g1] at hp; cases hp; rfl
      subst ea
      have sub : Ex (hid (SF (FL F A) T') H') (hid (FL (FL F A) (a' :: B')) H') := hid_sub fun x hx => hx.elim .inl fun z => .inr ⟨0, by rw [g4]; exact z⟩
      exact q v A B' H' fr (by rw [eh]; exact vis.trans sub) (fun x hx => st'.off 0 x (by rw [g4]; exact hx)) (by rw [← g4]; exact st'.nd 0) ndA offA ⟨a', us, B', rfl, g2, g3.mv sub fun _ _ => rfl, rfl⟩ (owR.mv sub fun _ _ => rfl)
    | ret _ _ => cases h
    | nxt _ => cases h
    | brk _ => cases h
    | cnt _ => cases h
  · rw [if_neg hn] at h; cases h
def flatC : List Cel → Bool
  | [] => true
  | .dat d :: r => flat d && flatC r
  | .sub ds :: r => flats ds && flatC r
theorem Cels.flat {G G' H : Hp} (e : ∀ x o u, G x = some (.frz o u) → G' x = some (.frz o u)) : ∀ {vs : List V} {cs : List Cel} {B : List Addr}, flatC cs = true → Cels G H vs cs B → Cels G' H vs cs B
  | _, _, _, _, .nil => .nil
  | _, _, _, f, .dat r c => by
    rw [flatC, Bool.and_eq_true] at f
    exact .dat (Rp.flat e r f.1) (c.flat e f.2)
  | _, _, _, f, .sub hb r c => by
    rw [flatC, Bool.and_eq_true] at f
    exact .sub hb (RpAll.flat e r f.1) (c.flat e f.2)
theorem Own.flat {G G' H : Hp} (e : ∀ x o u, G x = some (.frz o u) → G' x = some (.frz o u)) {v : V} {cs : List Cel} {A : List Addr} (f : flatC cs = true) (o : Own G H v cs A) : Own G' H v cs A := by
  obtain ⟨a, vs, B, rfl, ha, c, rfl⟩ := o
  exact ⟨a, vs, B, rfl, ha, c.flat e f, rfl⟩
def wCallV (i m : Nat) (g : List Cel → List PD → Option (List Cel × List Cel)) (a : XW) : XWO := fun ρ => (ownAt ρ i).bind fun _ => (a ρ).bind fun x => (ownAt x.2 i).bind fun cs => (ownAt x.2 m).bind fun ms => (allDat ms).bind fun ds => (g cs [x.1, .list ds]).bind fun y => if flatC y.1 = true ∧ flatC y.2 = true then some (y.1, x.2.set i (.own y.2)) else none
theorem swo_callV {i m : Nat} {g : List Cel → List PD → Option (List Cel × List Cel)} {ta : TE} {w : XW} (him : m ≠ i) (hw : SW ta w) : SWO (tCall (spV g) [] E0 (tCons (tVar i) (tCons ta (tCons (tVar m) tNil)))) (wCallV i m g w) := fun pn F T H σ ρ r ρ' st e Q q => by
  obtain ⟨cs0, h0, e⟩ := bind_some e
  obtain ⟨⟨d, ρ1⟩, h1, e⟩ := bind_some e
  obtain ⟨cs, hi, e⟩ := bind_some e
  obtain ⟨ms, hm, e⟩ := bind_some e
  obtain ⟨ds, hd, e⟩ := bind_some e
  obtain ⟨⟨z, cs'⟩, h3, e⟩ := bind_some e
  have hi : ρ1[i]? = some (.own cs) := ownAt_eq hi
  have hm : ρ1[m]? = some (.own (ds.map Cel.dat)) := by rw [← allDat_eq hd]; exact ownAt_eq hm
  have e : (if flatC z = true ∧ flatC cs' = true then some (z, ρ1.set i (.own cs')) else none) = some (r, ρ') := e
  by_cases fl : flatC z = true ∧ flatC cs' = true
  rotate_left
  · rw [if_neg fl] at e; cases e
  rw [if_pos fl] at e
  obtain ⟨rfl, rfl⟩ := Prod.mk.inj (Option.some.inj e)
  obtain ⟨a, _, _, ha, _⟩ := st.at_own (ownAt_eq h0)
  refine ⟨.ref a, ha, hw pn F T H σ ρ d ρ1 st h1 _ fun vd T1 H1 st1 s1 rd => ?_⟩
  obtain ⟨a', us, B, ha', hl, hc, hT⟩ := st1.at_own hi
  have ea : a' = a := by rw [ha'] at ha; cases ha; rfl
  subst ea
  obtain ⟨b, vs, Bm, hb, hlb, hcb, hTm⟩ := st1.at_own hm
  obtain ⟨rb, eB⟩ := hcb.dats_inv
  subst eB
  refine ⟨.ref b, hb, ?_⟩
  show spV g ([.ref a', vd, .ref b] ++ []) H1 Q E0
  rw [List.append_nil]
  obtain ⟨F1, hF1⟩ : ∃ F1 : Hs, F1 = fun x => F x ∨ ∃ j, j ≠ i ∧ j ≠ m ∧ x ∈ T1 j := ⟨_, rfl⟩
  have f1 : ∀ x, FL F1 (a' :: B) x → SF F T1 x := fun x => by
    rw [hF1]
    rintro ((h | ⟨j, _, _, h⟩) | h)
    · exact .inl h
    · exact .inr ⟨j, h⟩
    · exact .inr ⟨i, by rw [hT]; exact h⟩
  have bT : b ∈ T1 m := by rw [hTm]; exact List.mem_cons_self ..
  have bn : ¬ FL F1 (a' :: B) b := by
    rw [hF1]
    rintro ((h | ⟨j, _, c, h⟩) | h)
    · exact st1.off m b bT h
    · exact c (st1.dis j m b h bT)
    · exact him (st1.dis m i b bT (by rw [hT]; exact h))
  have sub : Ex (hid (SF F T1) H1) (hid (FL F1 (a' :: B)) H1) := hid_sub f1
  refine ⟨F1, a', B, cs, [vd, .ref b], [d, .list ds], z, cs', rfl, ?_, ?_, by rw [← hT]; exact st1.nd i, ⟨a', us, B, rfl, hl, hc.mv sub fun _ _ => rfl, rfl⟩, .cons (rd.ex sub) (.cons (.lst (by rw [hid_out bn]; exact hlb) (rb.ex sub)) .nil), h3, fun v A B' H' fr vis off nd ndA offA owD owR => ?_⟩
  · intro x hx
    rw [hF1] at hx
    exact st1.als x (hx.elim .inl fun ⟨j, _, _, h⟩ => .inr ⟨j, h⟩)
  · intro x hx hx2
    rw [hF1] at hx2
    have hx3 : x ∈ T1 i := by rw [hT]; exact hx
    rcases hx2 with h | ⟨j, c, _, h⟩
    · exact st1.off i x hx3 h
    · exact c (st1.dis j i x h hx3)
  · -- the lent list stands as it was, and is no part of what came
    have hvis : hid (FL F1 (a' :: B)) H1 b = some (.lst vs) := by rw [hid_out bn]; exact hlb
    obtain ⟨bn', hb'⟩ := hid_some (vis b _ hvis)
    have il : i < ρ1.length := (List.getElem?_eq_some_iff.mp hi).1
    have inm : ∀ x, x ∈ T1 m → x = b := fun x hx => by rw [hTm] at hx; simpa using hx
    have F1' : ∀ j x, j ≠ i → j ≠ m → x ∈ T1 j → F1 x := fun j x c1 c2 hx => by rw [hF1]; exact .inr ⟨j, c1, c2, hx⟩
    have FF : ∀ x, F x → F1 x := fun x hx => by rw [hF1]; exact .inl hx
    have up : ∀ x, SF (FL F A) (setT T1 i (a' :: B')) x → FL (FL F1 A) (a' :: B') x ∨ x = b := fun x => by
      rintro ((h | h) | ⟨j, h⟩)
      · exact .inl (.inl (.inl (FF x h)))
      · exact .inl (.inl (.inr h))
      · by_cases c : j = i
        · subst c; rw [setT_same] at h; exact .inl (.inr h)
        · rw [setT_ne c] at h
          by_cases c2 : j = m
          · subst c2; exact .inr (inm x h)
          · exact .inl (.inl (.inl (F1' j x c c2 h)))
    have dn : ∀ x, FL (FL F1 A) (a' :: B') x → SF (FL F A) (setT T1 i (a' :: B')) x := fun x => by
      rintro ((h | h) | h)
      · rw [hF1] at h
        rcases h with h | ⟨j, c, _, h⟩
        · exact .inl (.inl h)
        · exact .inr ⟨j, by rw [setT_ne c]; exact h⟩
      · exact .inl (.inr h)
      · exact .inr ⟨i, by rw [setT_same]; exact h⟩
    have vis' : Ex (hid (SF F T1) H1) (hid (SF (FL F A) (setT T1 i (a' :: B'))) H') := fun x o hx => by
      obtain ⟨c, hx⟩ := hid_some hx
      obtain ⟨c', hx'⟩ := hid_some (vis x o (by rw [hid_out fun z => c (f1 x z)]; exact hx))
      rw [hid_out]
      · exact hx'
      · intro z
        rcases up x z with z | z
        · exact c' z
        · subst z; exact c (.inr ⟨m, bT⟩)
    have keep : ∀ j x, j ≠ i → x ∈ T1 j → H' x = H1 x := fun j x c hx => by
      by_cases c2 : j = m
      · subst c2
        rw [inm x hx, hb', hlb]
      · exact fr x (F1' j x c c2 hx)
    have fz : ∀ x o u, hid (FL (FL F1 A) (a' :: B')) H' x = some (.frz o u) → hid (SF (FL F A) (setT T1 i (a' :: B'))) H' x = some (.frz o u) := fun x o u h => by
      obtain ⟨c, h⟩ := hid_some h
      rw [hid_out]
      · exact h
      · intro y
        rcases up x y with y | y
        · exact c y
        · subst y
          rw [hb'] at h
          cases h
    refine q v A (setT T1 i (a' :: B')) H' ⟨by rw [List.length_set]; exact st1.len, fun x hx => ?_, fun j x h => ?_, fun j k x h h' => ?_, fun j => ?_, fun j hj => ?_, fun j s hs => ?_, st1.pin⟩ ndA (fun x hx z => offA x hx (FF x z)) (fun x hx => (fr x (FF x hx)).trans (s1.fr x hx)) (s1.vis.trans vis') (owR.flat fz fl.1)
    · rcases hx with hx | hx
      · rw [fr x (FF x hx)]; exact st1.al x hx
      · obtain ⟨ws, g⟩ := owR.lst x hx
        intro y
        rw [g] at y
        cases y
    · by_cases c : j = i
      · subst c
        rw [setT_same] at h
        rintro (y | y)
        · exact off x h (.inl (FF x y))
        · exact off x h (.inr y)
      · rw [setT_ne c] at h
        rintro (y | y)
        · exact st1.off j x h y
        · by_cases c2 : j = m
          · subst c2
            rw [inm x h] at y
            exact bn' (.inl (.inr y))
          · exact offA x y (F1' j x c c2 h)
    · have one : ∀ j x, j ≠ i → x ∈ T1 j → x ∈ a' :: B' → False := fun j x c hx hy => by
        by_cases c2 : j = m
        · subst c2
          rw [inm x hx] at hy
          exact bn' (.inr hy)
        · exact off x hy (.inl (F1' j x c c2 hx))
      by_cases c : j = i
      · subst c
        rw [setT_same] at h
        by_cases c2 : k = j
        · exact c2.symm
        · rw [setT_ne c2] at h'
          exact absurd h fun h => one k x c2 h' h
      · rw [setT_ne c] at h
        by_cases c2 : k = i
        · subst c2
          rw [setT_same] at h'
          exact absurd h' fun h' => one j x c h h'
        · rw [setT_ne c2] at h'
          exact st1.dis j k x h h'
    · by_cases c : j = i
      · subst c; rw [setT_same]; exact nd
      · rw [setT_ne c]; exact st1.nd j
    · rw [List.length_set] at hj
      rw [setT_ne (by omega)]
      exact st1.out j hj
    · by_cases c : i = j
      · subst c
        rw [List.getElem?_set_self il] at hs
        cases hs
        rw [setT_same]
        exact ⟨_, ha', _, rfl, owD.flat fz fl.2⟩
      · rw [List.getElem?_set_ne c] at hs
        obtain ⟨o, g1, g2⟩ := st1.sl j s hs
        rw [setT_ne (fun y => c y.symm)]
        exact ⟨o, g1, g2.mv vis' fun x hx => keep j x (fun y => c y.symm) hx⟩
theorem sof_repV : SOF (rMulV K) repP := fun x y z h => by
  obtain ⟨ds, e, r⟩ := sof_rep x y z h
  exact ⟨ds, e, fun S H vx vy al rx ry Q q => .inl (r S H vx vy al rx ry Q q)⟩
end Uv

namespace Uv
open PySem PySem.Spec PyProof.Rows L2
open Evl (Ex)
variable [kk : KK]
def wOMv (i : Nat) : XWO := fun ρ => match ρ[i]? with
  | some (.own cs) => some (cs, ρ.set i .un)
  | _ => none
end Uv

namespace Uv
open PySem PySem.Spec PyProof.Rows L2
open Evl (Ex)
variable [kk : KK]
def dcGo (g : XGV) (t : XT) (k e : XE) (ρ : VE) : List PD → List (Int × PD) → Option (List (Int × PD))
  | [], l => some l
  | x :: xs, l => (g x ρ).bind fun ρ1 => (t ρ1).bind fun b => if b = true then ((k ρ1).bind isI).bind fun n => (e ρ1).bind fun d => if flat d = true then dcGo g t k e ρ xs (putD l n d) else none else dcGo g t k e ρ xs l
def sDComp (i : Nat) (src : XI) (g : XGV) (t : XT) (k e : XE) (vs : List Nat) : XS := fun ρ => (src (vw ρ)).bind fun xs => if xs.length ≤ 40000 then (dcGo g t k e (clear (vw ρ) vs) xs []).bind fun l => if i < ρ.length then some (.nxt (ρ.set i (.dic l))) else none else none
theorem Kvs.length {G : Hp} : ∀ {ks : List (Key × V)} {l : List (Int × PD)}, Kvs G ks l → ks.length = l.length
  | _, _, .nil => rfl
  | _, _, .cons _ c => by rw [List.length_cons, List.length_cons, c.length]
theorem Kvs.flat {G G' : Hp} (e : ∀ x o u, G x = some (.frz o u) → G' x = some (.frz o u)) : ∀ {ks : List (Key × V)} {l : List (Int × PD)}, Kvs G ks l → (∀ p ∈ l, Uv.flat p.2 = true) → Kvs G' ks l
  | _, _, .nil, _ => .nil
  | _, _, .cons r c, h => .cons (r.flat e (h _ (List.mem_cons_self ..))) (c.flat e fun p hp => h p (List.mem_cons_of_mem _ hp))
end Uv

namespace Uv
open PySem PySem.Spec PyProof.Rows L2
open Evl (Ex)
section
variable {X : Cx}
end
end Uv

namespace Uv
open PySem PySem.Spec PyProof.Rows L2
open Evl (Ex)
variable [kk : KK]
def fzO (i : Nat) : Out → Out
  | .nxt ρ => .nxt (fzE ρ i)
  | .brk ρ => .brk (fzE ρ i)
  | .cnt ρ => .cnt (fzE ρ i)
  | o => o
def sEn (i : Nat) (y : XS) : XS := fun ρ => (y ρ).bind fun o => some (fzO i o)
end Uv

namespace Uv
open PySem PySem.Spec PyProof.Rows L2
open Evl (Ex)
variable [kk : KK]
end Uv

namespace Uv
open PySem PySem.Spec PyProof.Rows L2
open Evl (Ex)
variable [kk : KK]
def vA (ρ : Env) (r : List PD) : VE := (vw ρ).set 4 (some (.list r))
structure AlsD (σ : L2.St) (H : Hp) : Prop where
  ex : ∃ a vs c, σ[0]? = some (some (.ref a)) ∧ H a = some (.lst vs) ∧ vs[2]? = some (.ref c) ∧ σ[4]? = some (some (.ref c))
section
variable {pn : Option V} {F : Hs} {T : Trs} {H H' : Hp} {σ : L2.St} {ρ : Env}
theorem AlsD.mv (e : Ex H H') (h : AlsD σ H) : AlsD σ H' := by
  obtain ⟨a, vs, c, h1, h2, h4, h6⟩ := h.ex
  exact ⟨a, vs, c, h1, e _ _ h2, h4, h6⟩
theorem AlsD.set {i : Nat} {o : Option V} (h : AlsD σ H) (h0 : i ≠ 0) (h4' : i ≠ 4) : AlsD (σ.set i o) H := by
  obtain ⟨a, vs, c, h1, h2, h4, h6⟩ := h.ex
  exact ⟨a, vs, c, by rw [List.getElem?_set_ne h0]; exact h1, h2, h4, by rw [List.getElem?_set_ne h4']; exact h6⟩
theorem StOk.subs (st : StOk pn F T H σ ρ) {i n : Nat} {cs : List Cel} {ds : List PD} (hi : ρ[i]? = some (.own cs)) (hn : cs[n]? = some (.sub ds)) : ∃ a vs b, σ[i]? = some (some (.ref a)) ∧ H a = some (.lst vs) ∧ vs[n]? = some (.ref b) ∧ Rp (hid F H) (.ref b) (.list ds) := by
  obtain ⟨a, vs, b, ws, g1, g2, g3, g4, g5, g6, f⟩ := st.writeSub (ds' := ds) hi hn
  refine ⟨a, vs, b, g1, g2, g3, ?_⟩
  have v1 : (Uv.vw ρ)[i]? = some (some (PyData.list (cs.map Cel.pd))) := by
    unfold Uv.vw
    rw [List.getElem?_map, hi]
    rfl
  obtain ⟨v, e1, r⟩ := st.vw.2 i _ v1
  rw [g1] at e1
  cases e1
  cases r with
  | lst h ra =>
    have h := hid_le _ _ h
    rw [g2] at h
    cases h
    obtain ⟨u, hu, ru⟩ := ra.get (i := n) (by rw [List.getElem?_map, hn]; rfl)
    rw [g3] at hu
    cases hu
    exact ru
theorem AlsD.en (st : StOk pn F T H σ ρ) (al : AlsD σ H) {r : List PD} {cs : List Cel} (hi : ρ[0]? = some (.own cs)) (h2 : cs[2]? = some (.sub r)) : En (hid F H) σ (vA ρ r) := by
  obtain ⟨a, vs, d, g1, g2, g4, g6⟩ := al.ex
  obtain ⟨a2, vs2, b2, j1, j2, j3, j4⟩ := st.subs hi h2
  rw [g1] at j1
  cases j1
  rw [g2] at j2
  cases j2
  rw [g4] at j3
  cases j3
  refine ⟨by unfold vA; simpa using st.vw.1, fun i x hx => ?_⟩
  unfold vA at hx
  by_cases c4 : i = 4
  · subst c4
    by_cases l : 4 < (Uv.vw ρ).length
    · rw [List.getElem?_set_self l] at hx
      cases hx
      exact ⟨_, g6, j4⟩
    · rw [List.getElem?_eq_none (by simp; omega)] at hx
      cases hx
  · rw [List.getElem?_set_ne (fun z => c4 z.symm)] at hx
    exact st.vw.2 i x hx
end

section
variable {pn : Option V} {F : Hs} {T : Trs} {H H' : Hp} {σ : L2.St} {c : PD} {r : List PD} {n b t0 b0 : Int} {m : PD} {z6 z7 : Sl}
end
end Uv

namespace Uv
open PySem PySem.Spec PyProof.Rows L2
open Evl (Ex)
def rStr1 : List V → Hp → VK → Prop := fun vs H Q => (∃ i, vs = [.int i] ∧ i.natAbs.log2 < 1920 ∧ Q (.str (toString i)) H) ∨ (∃ b : Bool, vs = [.bl b] ∧ Q (.str (if b then "True" else "False")) H) ∨ ∃ x, vs = [.str x] ∧ Q (.str x) H
theorem cr_str1 {X : Cx} : CallR X (.type "str") rStr1 := by
  intro pins s σ H xs us Q I r h
  rcases h with ⟨i, rfl, hz, q⟩ | ⟨b, rfl, q⟩ | ⟨x, rfl, q⟩
  · obtain ⟨u, rfl, t, rfl⟩ := vals1 r
    exact PySem.P.str_of_int hz ⟨.str _, H, I.tok _, ⟨_, rfl⟩, q⟩
  · obtain ⟨u, rfl, r1⟩ := vals1 r
    cases r1
    exact PySem.P.str_of_bool ⟨.str _, H, I.tok _, ⟨_, rfl⟩, q⟩
  · obtain ⟨u, rfl, t, rfl⟩ := vals1 r
    exact PySem.P.str_of_str ⟨.str x, H, I, ⟨t, rfl⟩, q⟩
def strP : PD → Option PD
  | .int i => if i.natAbs.log2 < 1920 then some (.str (toString i)) else none
  | .bool b => some (.str (if b then "True" else "False"))
  | .str x => some (.str x)
  | _ => none
variable [kk : KK]
theorem sc_str1 : SC rStr1 (on1 strP) := sc_on1 fun x z h S H v al rv Q q => by
  cases rv with
  | int i =>
    have h : (if i.natAbs.log2 < 1920 then some (PyData.str (toString i)) else none) = some z := h
    by_cases c : i.natAbs.log2 < 1920
    · rw [if_pos c] at h
      cases h
      exact .inl ⟨i, rfl, c, q _ H (Ex.refl H) (.str _)⟩
    · rw [if_neg c] at h; cases h
  | bl b => cases h; exact .inr (.inl ⟨b, rfl, q _ H (Ex.refl H) (.str _)⟩)
  | str x => cases h; exact .inr (.inr ⟨x, rfl, q _ H (Ex.refl H) (.str _)⟩)
  | _ => cases h
end Uv

namespace Uv
open PySem PySem.Spec PyProof.Rows L2
open Evl (Ex)
variable [kk : KK]
end Uv

namespace Uv
open PySem PySem.Spec PyProof.Rows L2
open Evl (Ex)
variable [kk : KK]
end Uv

namespace Uv
open PySem PySem.Spec PyProof.Rows L2
open Evl (Ex)
structure Z2 (h : Heap) (n l1 l2 : Nat) (k : Nat) : Prop where
  z : IsZip h (n + 4) (n + 2) (n + 3) .none
  ti : IsPair h (n + 2) (.ref n) (.ref (n + 1))
  to : ∃ a b, IsPair h (n + 3) a b
  t1 : h.IsTupleIter n l1 k
  t2 : h.IsListIter (n + 1) l2 k
section
variable {prog : Program} {w : World} {A : Around} {E : Value → Shared → Prop} {s : Shared}
end
section
variable {prog : Program} {w : World} {A : Around} {E : Value → Shared → Prop} {s : Shared}
end
variable [kk : KK]
section
variable {S : Hs} {H : Hp}
end
section
variable {ts : TA}
end
end Uv

namespace Uv
open PySem PySem.Spec PyProof.Rows L2
open Evl (Ex)
variable [kk : KK]
end Uv

namespace Uv
open PySem PySem.Spec PyProof.Rows L2
open Evl (Ex)
structure ZL2 (h : Heap) (n l1 l2 : Nat) (k : Nat) : Prop where
  z : IsZip h (n + 4) (n + 2) (n + 3) .none
  ti : IsPair h (n + 2) (.ref n) (.ref (n + 1))
  to : ∃ a b, IsPair h (n + 3) a b
  t1 : h.IsListIter n l1 k
  t2 : h.IsTupleIter (n + 1) l2 k
section
variable {prog : Program} {w : World} {A : Around} {E : Value → Shared → Prop} {s : Shared}
end
section
variable {prog : Program} {w : World} {A : Around} {E : Value → Shared → Prop} {s : Shared}
end
variable [kk : KK]
section
variable {S : Hs} {H : Hp}
end
section
variable {ts : TA}
end
end Uv

namespace Uv
open PySem PySem.Spec PyProof.Rows L2
open Evl (Ex)
section
variable {X : Cx}
end
variable [kk : KK]
end Uv

namespace Uv
open PySem PySem.Spec PyProof.Rows L2
open Evl (Ex)
variable [kk : KK]
end Uv

namespace Uv
open PySem PySem.Spec PyProof.Rows L2
open Evl (Ex)
variable [kk : KK]
end Uv

namespace Uv
open PySem PySem.Spec PyProof.Rows L2
open Evl (Ex)
variable [kk : KK]
end Uv

namespace Uv
open PySem PySem.Spec PyProof.Rows L2
open Evl (Ex)
variable [kk : KK]
end Uv

namespace Uv
open PySem PySem.Spec PyProof.Rows L2
open Evl (Ex)
def isExc : PD → Option Nat
  | .dict [(.bool true, .int i)] => some i.toNat
  | _ => none
section
variable {P : Program} {w : World} {K : PySem.W.Frag} {mg : Str → Option Value} {base : Heap}
structure FnX (P : Program) (w : World) (K : PySem.W.Frag) (mg : Str → Option Value) (base : Heap) (k : Nat) (f : Addr) (fd : FuncData) (ps : List Str) (sp : Sp) : Prop where
  len : ∀ vs H Q E, sp vs H Q E → vs.length = ps.length
  run : ∀ (A : Around) (outer : List PySem.Env) (s : Shared) (H : Hp) (args : Args) (us : List Value) (vs : List V) (Q : VK) (E : XK), A.guards = some [] → Room k A → Env0 P w K mg base A outer s H → BindsTo s fd args (ps.zip us) → Vals vs us → sp vs H Q E →
    codeAny (model P w) A (.call (.ref f) args) (CR (L2.CX P w) outer P w H s Q E) s
structure CalX (P : Program) (w : World) (K : PySem.W.Frag) (mg : Str → Option Value) (base : Heap) (k : Nat) (x : Str) (sp : Sp) : Prop where
  ex : ∃ (f : Addr) (fd : FuncData) (ps : List Str), FnX P w K mg base k f fd ps sp ∧ mg x = some (.ref f) ∧ PySem.W.keepIn K (.ref f) = true ∧ Binds K fd ps []
theorem pe_gx {X : Cx} {j k : Nat} {x : Str} {sp : Sp} {p pos : Pos} {e : Expr} {es : List Expr} {t : TA} {W : WX} (c : CalX X.prog X.w X.K X.mg X.base k x sp) (hr : Room j X.A) (hk : k ≤ j) (hG : X.A.guards = some []) (hg : Gl X x) (tk : Takes X W) (ha : PA X (e :: es) t)
    (hdb : (x == ("__debug__" : Str)) = false := by decide) (he : starEach (e :: es) X.env = (false, eval e X.env) :: starEach es X.env := by rfl) (hpl : (backTo pos (starEach es X.env)).any (·.1) = false := by rfl) :
    PE X (.Call (.Name x p) (e :: es) [] pos) (tCallS sp (WE W) t) := by
  obtain ⟨f, fd, ps, F, hm, kp, b⟩ := c.ex
  refine ⟨fun pins s σ H Q I h => wpAny_Call_Name_kw (ld_glob I hg hm ?_ hdb)⟩
  refine PySem.W.callWith_K (h₀ := X.base) I.ok.mod.kin kp (thn (ha.run pos pins s σ H _ I h) fun us s1 hh => ?_) he hpl
  obtain ⟨vs, H1, I1, r, q⟩ := hh
  have hl : us.length = ps.length := by rw [← r.length]; exact F.len _ _ _ _ q
  have bd := b s1 us I1.kIn (by rw [List.append_nil]; exact hl)
  rw [List.append_nil] at bd
  refine ⟨I1.kIn, wpAny_call (codeAny_mono (F.run X.A X.stack s1 H1 ⟨us, []⟩ us vs Q (WE W σ) hG (hr.mono hk) I1.env0 bd r q) fun rr s' hq => ?_)⟩
  match rr, hq with
  | .error e, hq => exact passAt tk σ pins H1 s1 e s' I1 hq
  | .ok (.ret u), hq => exact I1.after hq
  | .ok .next, hq => exact hq.elim
  | .ok .brk, hq => exact hq.elim
  | .ok .cont, hq => exact hq.elim
theorem fn_x {x : Str} {st : Stmt} {f : Addr} {fd : FuncData} {N ps : List Str} {k : Nat} {sp : Sp} (F : Fun K x x st f fd) (S : FnScope N ps (defScope st)) (len : ∀ vs H Q E, sp vs H Q E → vs.length = ps.length)
    (hb : ∀ (cdv : Value) (A : Around) (outer : List PySem.Env) (s : Shared) (H : Hp) (E : XK), (A.deeper (envOfC x (defScope st) s.heap.objs.size f cdv)).guards = some [] → Room k (A.deeper (envOfC x (defScope st) s.heap.objs.size f cdv)) →
      ∃ t, PSs (cxOf (L2.CX P w) P w K mg base N x (defScope st) f cdv A outer s H E) (defBody st) t ∧ ∀ vs Q, sp vs H Q E → t { nx := fun _ H' => Q .non H', rt := Q } (L2.start N vs) H) : FnX P w K mg base (k + 1) f fd ps sp := by
  obtain ⟨oc, od, kV, doc, pm, an, cdv, ct, osl, rfl, lk, hcd⟩ := F.ex
  refine ⟨len, fun A outer s H args us vs Q E hG hr e0 hbd r hsp => ?_⟩
  obtain ⟨t, ht, hq⟩ := hb cdv A outer s H E hG (hr.deeper _)
  have keep : ∀ b o, base.get? b = some o → s.heap.get? b = some o := fun b o e => (e0.bs b o e).1
  have KX : K.In s.heap := e0.mod.kin.keeps keep
  have lim : s.heap.NoLimit := e0.mod.nolimit.keeps keep
  refine codeAny_call_function hr.depth (KX _ _ lk) rfl S.co S.gen rfl (PySem.W.codeRec_of KX hcd) (hbd _ _ _ _ ?_)
  refine wpAny_newFunctionEnv_cells S.kind (fun y hy => ?_) fun env he s1 ic => ?_
  · rcases S.par y.1 (List.of_mem_zip hy).1 with q | q
    · exact .inl q
    · exact .inr ⟨q, PySem.W.cellsFrom_some _ _ _ (.inl q)⟩
  · subst he
    have I : Inv (cxOf (L2.CX P w) P w K mg base N x (defScope st) f cdv A outer s H E) [] (L2.start N vs) H s1 := inv_start S hr.hd e0 (len _ _ _ _ hsp) r ic
    refine ⟨lim.keeps ic.toInCall.keep, codeAny_func (wpAny_mono (ht.run [] s1 (L2.start N vs) H _ I (hq vs Q hsp)) (fun fl s' hs => ?_) fun e s' hs => hs)⟩
    match fl, hs with
    | .ret u, ⟨v, σ', H', J, rv, q⟩ => exact ⟨v, H', J.os, J.bare, J.base, J.hok, rv, q⟩
    | .next, ⟨σ', H', J, q⟩ => exact ⟨.non, H', J.os, J.bare, J.base, J.hok, rfl, q⟩
    | .brk, ⟨_, _, _, q⟩ => exact q.elim
    | .cont, ⟨_, _, _, q⟩ => exact q.elim
theorem cal_x {x : Str} {st : Stmt} {N ps : List Str} {k : Nat} {sp : Sp} (F : Dfn K mg x st ps) (S : FnScope N ps (defScope st)) (len : ∀ vs H Q E, sp vs H Q E → vs.length = ps.length)
    (hb : ∀ (f : Addr) (cdv : Value) (A : Around) (outer : List PySem.Env) (s : Shared) (H : Hp) (E : XK), (A.deeper (envOfC x (defScope st) s.heap.objs.size f cdv)).guards = some [] → Room k (A.deeper (envOfC x (defScope st) s.heap.objs.size f cdv)) →
      ∃ t, PSs (cxOf (L2.CX P w) P w K mg base N x (defScope st) f cdv A outer s H E) (defBody st) t ∧ ∀ vs Q, sp vs H Q E → t { nx := fun _ H' => Q .non H', rt := Q } (L2.start N vs) H) : CalX P w K mg base (k + 1) x sp := by
  obtain ⟨f, fd, F, hm, b⟩ := F.ex
  exact ⟨f, fd, ps, fn_x F S len (hb f), hm, F.kp, b⟩
end
theorem takes_no {X : Cx} : Takes X (fun _ _ _ _ => False) := fun _ _ x => by
  obtain ⟨_, _, _, _, _, _, _, _, _, _, _, _, _, _, _, _, z⟩ := x
  exact z.elim
def clsL (Cs : List Addr) (n : Nat) : Value := match Cs[n]? with
  | some C => .ref C
  | none => .none
variable [kk : KK]
def OutX (W : WX) (cl : Nat → Value) (pn : Option V) (F : Hs) (T : Trs) (H : Hp) (D : Ends) (o : Out) : Prop :=
  (∀ n ρ d, o = .ret d ρ → isExc d = some n → ∀ σ T' H', StOk pn F T' H' σ ρ → Stp F T H T' H' → W (cl n) none σ H') ∧ ((∀ d ρ, o = .ret d ρ → isExc d = none) → OutOk pn F T H D o)
section
variable {W : WX} {cl : Nat → Value} {t u : TS} {x y : XS} {ct : TT} {c : XWT}
theorem OutX.step {pn : Option V} {F : Hs} {T T1 : Trs} {H H1 : Hp} {D : Ends} (s : Stp F T H T1 H1) {o : Out} (h : OutX W cl pn F T H D o) : OutX W cl pn F T1 H1 D o :=
  ⟨fun n ρ d e i σ T' H' st s' => h.1 n ρ d e i σ T' H' st (s.trans s'), fun z => (h.2 z).step s⟩
end
end Uv

namespace Uv
open PySem PySem.Spec PyProof.Rows L2
open Evl (Ex)
theorem vals_refsE : ∀ {Cs : List Addr} {us : List Value}, Vals (Cs.map V.ref) us → us = Cs.map Value.ref
  | [], _, .nil => rfl
  | C :: Cs, u :: us, .cons h r => by
    have : u = Value.ref C := h
    rw [this, vals_refsE r]
    rfl
theorem kit_ref {K : PySem.W.Frag} {t : Value} {C : Addr} {b : Bool} (hd : PySem.W.hasDictIn K C = true) (ht : PySem.W.typeIn K (.ref C) = some (.type "type")) (h : PySem.W.subIn K t (.ref C) = some b) (hs : t = .ref C → b = true) : PySem.W.kitOne K t (.ref C) = some b := by
  obtain ⟨cd, hc, _⟩ := PySem.W.any_some hd
  unfold PySem.W.kitOne
  by_cases z : (t == Value.ref C) = true
  · rw [if_pos z, hs (by simpa using z)]
  · rw [if_neg z]
    unfold PySem.W.kitCls
    have e2 : ((PySem.W.clsIn K C).isSome && PySem.W.typeIn K (.ref C) == some (.type "type")) = true := by rw [hc, ht] <;> rfl
    show (if ((PySem.W.clsIn K C).isSome && PySem.W.typeIn K (.ref C) == some (.type "type")) = true then PySem.W.subIn K t (.ref C) else none) = some b
    rw [if_pos e2, h]
variable [kk : KK]
end Uv

namespace Uv
open PySem PySem.Spec PyProof.Rows L2
open Evl (Ex)
variable [kk : KK]
end Uv

namespace Uv
open PySem PySem.Spec PyProof.Rows L2
open Evl (Ex)
section
variable {P : Program} {w : World} {K : PySem.W.Frag} {mg : Str → Option Value} {base : Heap}
structure FnE (P : Program) (w : World) (K : PySem.W.Frag) (mg : Str → Option Value) (base : Heap) (k : Nat) (f : Addr) (fd : FuncData) (p : Str) (D : Addr) (b : Bool) : Prop where
  run : ∀ (A : Around) (outer : List PySem.Env) (s : Shared) (H : Hp) (args : Args) (a : Addr) (oe : Obj) (Q : VK) (E : XK), L2H.RoomH k A → L2H.PinOk outer H s (a, oe) → Zc (.ref D) none oe → (∃ vs, oe.data = .fields vs) → Env0 P w K mg base A outer s H → BindsTo s fd args [(p, .ref a)] → (∀ H', Ex H H' → Q (.bl b) H') →
    codeAny (model P w) A (.call (.ref f) args) (CR CX0 outer P w H s Q E) s
structure CalE (P : Program) (w : World) (K : PySem.W.Frag) (mg : Str → Option Value) (base : Heap) (k : Nat) (x : Str) (D : Addr) (b : Bool) : Prop where
  ex : ∃ (f : Addr) (fd : FuncData) (p : Str), FnE P w K mg base k f fd p D b ∧ mg x = some (.ref f) ∧ PySem.W.keepIn K (.ref f) = true ∧ Binds K fd [p] []
end
end Uv

namespace Uv
open PySem PySem.Spec PyProof.Rows L2
open Evl (Ex)
theorem ex_free0 {H H1 : Hp} {p : Addr} (e : Ex H H1) (hp : H1 p = none) : H p = none := by
  cases q : H p with
  | none => rfl
  | some o => rw [e _ _ q] at hp; cases hp
variable [kk : KK]
section
variable {W : WX} {cl : Nat → Value}
end
end Uv

namespace Uv
open PySem PySem.Spec PyProof.Rows L2
open Evl (Ex)
structure KwB (K : PySem.W.Frag) (fd : FuncData) (ps : List Str) (kw : Str) : Prop where
  one : ∀ (s : Shared) (us : List Value) (w : Value), K.In s.heap → (us ++ [w]).length = ps.length → BindsTo s fd ⟨us, [(kw, w)]⟩ (ps.zip (us ++ [w]))
  dfl : ∀ (s : Shared) (us : List Value), K.In s.heap → (us ++ [Value.bool true]).length = ps.length → BindsTo s fd ⟨us, []⟩ (ps.zip (us ++ [.bool true]))
section
variable {P : Program} {w : World} {K : PySem.W.Frag} {mg : Str → Option Value} {base : Heap}
structure CalK (P : Program) (w : World) (K : PySem.W.Frag) (mg : Str → Option Value) (base : Heap) (k : Nat) (x kw : Str) (sp : Sp) : Prop where
  ex : ∃ (f : Addr) (fd : FuncData) (ps : List Str), FnG P w K mg base k f fd ps sp ∧ mg x = some (.ref f) ∧ PySem.W.keepIn K (.ref f) = true ∧ KwB K fd ps kw
structure DfnK (K : PySem.W.Frag) (mg : Str → Option Value) (x : Str) (st : Stmt) (ps : List Str) (kw : Str) : Prop where
  ex : ∃ f fd, Fun K x x st f fd ∧ mg x = some (.ref f) ∧ KwB K fd ps kw
end
variable [kk : KK]
theorem RpAll.snoc {H : Hp} {v : V} {d : PD} (h2 : Rp H v d) : ∀ {vs : List V} {ds : List PD}, RpAll H vs ds → RpAll H (vs ++ [v]) (ds ++ [d])
  | _, _, .nil => .cons h2 .nil
  | _, _, .cons h t => .cons h (RpAll.snoc h2 t)
section
variable {X : Cx} {j k : Nat} {x kw : Str} {sp : Sp} {p pos kpos : Pos} {e ke : Expr} {es : List Expr} {t : TA} {te : TE}
end
end Uv

namespace Uv
open PySem PySem.Spec PyProof.Rows L2
open Evl (Ex)
structure K58 (K : PySem.W.Frag) (G F N B : Addr) : Prop where
  vG : PySem.W.kitOne K (.ref G) (.type "ValueError") = some true
  vF : PySem.W.kitOne K (.ref F) (.type "ValueError") = some true
  gg : PySem.W.kitOne K (.ref G) (.ref G) = some true
  gf : PySem.W.kitOne K (.ref G) (.ref F) = some false
  fg : PySem.W.kitOne K (.ref F) (.ref G) = some false
  ff : PySem.W.kitOne K (.ref F) (.ref F) = some true
  gn : PySem.W.kitAny K (.ref G) [.ref F, .ref N, .ref B] = some false
  fn : PySem.W.kitAny K (.ref F) [.ref G, .ref N, .ref B] = some false
theorem set_at {σ : L2.St} {i j : Nat} {v w : Option V} (h : σ[i]? = some v) (ij : i ≠ j) : (σ.set j w)[i]? = some v := by rw [List.getElem?_set_ne (Ne.symm ij)]; exact h
variable [kk : KK]
def tTryC (K : PySem.W.Frag) (c : Value) (i : Nat) (Tb : WX → TS) (tsu : Addr → Value → Option Addr → TS) : TS := fun D σ H => Tb (wAs K c i tsu (fun _ _ _ _ => False) D) D σ H
theorem ps_tryC {X : Cx} {x n : Str} {c : Value} {i : Nat} {Tb : WX → TS} {np pos pos' : Pos} {b₀ b₁ : Stmt} {suite : List Stmt} {tsu : Addr → Value → Option Addr → TS}
    (hs : X.stack = X.env :: X.outer) (hf : X.env.frame = some X.env.locals) (hN : X.N.Nodup) (hi : X.N[i]? = some n) (hln : X.env.kindOf n = some .local) (hc : Names X x c) (tk : Takes X fun _ _ _ _ => False)
    (hb : ∀ (W : WX) (pn : List (Addr × Obj)) (xe : Value → Shared → Prop), Takes (X.tr pn xe) W → PS (X.tr pn xe) b₀ (Tb W))
    (hsu : ∀ (a : Addr) (oe : Obj) (cls : Value) (d : Option Addr) (pn : List (Addr × Obj)), Zc cls d oe → (∃ vs, oe.data = .fields vs) → PSs (X.suite a ((a, oe) :: pn)) (b₁ :: suite) (tsu a cls d)) :
    PS X (.Try [b₀] [.ExceptHandler (some (.Name x np)) (some n) (b₁ :: suite) pos'] [] [] pos) (tTryC X.K c i Tb tsu) :=
  ps_try_as (tb := Tb) hs hf hN hi hln hc tk (fun W pn xe tk _ => pss_one (hb W pn xe tk)) hsu
end Uv

namespace Uv
open PySem PySem.Spec PyProof.Rows L2
open Evl (Ex)
variable [kk : KK]
end Uv

namespace Uv
open PySem PySem.Spec PyProof.Rows L2
open Evl (Ex)
variable [kk : KK]
theorem Kvs.at {G : Hp} : ∀ {ks : List (Key × V)} {l : List (Int × PD)} {i : Nat} {k : Int} {d : PD}, Kvs G ks l → l[i]? = some (k, d) → ∃ v, ks[i]? = some (.inl k, v) ∧ Rp G v d
  | _, _, _, _, _, .nil, h => nomatch h
  | _, _, 0, _, _, .cons r c, h => by
    injection h with h
    injection h with h1 h2
    subst h1 h2
    exact ⟨_, rfl, r⟩
  | _, _, i + 1, _, _, .cons r c, h => c.at (i := i) h
end Uv
namespace Uv
end Uv

namespace Uv
open PySem PySem.Spec PyProof.Rows L2
open Evl (Ex)
section
variable {prog : Program} {w : World} {A : Around}
end
variable [kk : KK]
section
variable {X : Cx} {ta te : TE} {a ke : Expr} {p pos kpos : Pos}
end
end Uv

namespace Uv
open PySem PySem.Spec PyProof.Rows L2
open Evl (Ex)
section
variable {prog : Program} {w : World} {A : Around} {K : Type} [DecidableEq K]
end
section
variable {X : Cx} {ta : TE} {a : Expr} {p p2 q pos : Pos}
end
variable [kk : KK]
end Uv

namespace Uv
open PySem PySem.Spec PyProof.Rows L2
open Evl (Ex)
section
variable {P : Program} {w : World} {A : Around}
end
variable [kk : KK]
end Uv

namespace Uv
open PySem PySem.Spec PyProof.Rows L2
open Evl (Ex)
section
variable {prog : Program} {w : World} {A : Around}
end
variable [kk : KK]
end Uv

namespace Uv
open PySem PySem.Spec PyProof.Rows L2
open Evl (Ex)
variable [kk : KK]
end Uv

namespace Uv
open PySem PySem.Spec PyProof.Rows L2
open Evl (Ex)
variable [kk : KK]
end Uv

namespace Uv
open PySem PySem.Spec PyProof.Rows L2
open Evl (Ex)
def rJoinS (K : PySem.W.Frag) : V → List V → Hp → VK → Prop := fun x xs H Q => ∃ a p, ∃ ys : List Str, x = .str a ∧ xs = [.ref p] ∧ (SqL K H p (ys.map V.str) ∨ SqT K H p (ys.map V.str)) ∧ (ys.map (·.length)).sum + ys.length * a.length ≤ 16777216 ∧ Q (.str (Txt.join a ys)) H
def rSplitS : V → List V → Hp → VK → Prop := fun x xs H Q => ∃ a b, x = .str a ∧ xs = [.str b] ∧ (b.length == 0) = false ∧ a.length + 2 ≤ sizeLine ∧ rNewStrs (Txt.split a b) H Q
def rStartS : V → List V → Hp → VK → Prop := fun x xs H Q => ∃ a b, x = .str a ∧ xs = [.str b] ∧ Q (.bl (Txt.startswith a b)) H
def rDigS : V → List V → Hp → VK → Prop := fun x xs H Q => ∃ a, x = .str a ∧ xs = [] ∧ True ∧ Q (.bl (Txt.isdigit a)) H
def rAscS : V → List V → Hp → VK → Prop := fun x xs H Q => ∃ a, x = .str a ∧ xs = [] ∧ True ∧ Q (.bl (Txt.isascii a)) H
section
variable {X : Cx} {o e : Expr} {to te : TE}
theorem pe_joinS {apos pos : Pos} (ho : PE X o to) (he : PE X e te) (hs : starEach [e] X.env = [(false, eval e X.env)] := by rfl) (hbase : attributeBase o "join" X.env (eval o X.env) = eval o X.env := by rfl) (hline : (apos.endLine == pos.line) = true := by rfl) :
    PE X (.Call (.Attribute o "join" apos) [e] [] pos) (tM1 (rJoinS X.K) to te) := pe_m1 F.slot_str_join F.type_str_join mt_join ho he hs hbase hline
theorem pe_splitS {apos pos : Pos} (ho : PE X o to) (he : PE X e te) (hs : starEach [e] X.env = [(false, eval e X.env)] := by rfl) (hbase : attributeBase o "split" X.env (eval o X.env) = eval o X.env := by rfl) (hline : (apos.endLine == pos.line) = true := by rfl) :
    PE X (.Call (.Attribute o "split" apos) [e] [] pos) (tM1 rSplitS to te) := pe_m1 F.slot_str_split F.type_str_split mt_split ho he hs hbase hline
theorem pe_startS {apos pos : Pos} (ho : PE X o to) (he : PE X e te) (hs : starEach [e] X.env = [(false, eval e X.env)] := by rfl) (hbase : attributeBase o "startswith" X.env (eval o X.env) = eval o X.env := by rfl) (hline : (apos.endLine == pos.line) = true := by rfl) :
    PE X (.Call (.Attribute o "startswith" apos) [e] [] pos) (tM1 rStartS to te) := pe_m1 F.slot_str_startswith F.type_str_startswith mt_startswith ho he hs hbase hline
theorem pe_digS {apos pos : Pos} (ho : PE X o to) (hbase : attributeBase o "isdigit" X.env (eval o X.env) = eval o X.env := by rfl) (hline : (apos.endLine == pos.line) = true := by rfl) :
    PE X (.Call (.Attribute o "isdigit" apos) [] [] pos) (tM0 rDigS to) := pe_m0 F.slot_str_isdigit F.type_str_isdigit mt_isdigit ho hbase hline
theorem pe_ascS {apos pos : Pos} (ho : PE X o to) (hbase : attributeBase o "isascii" X.env (eval o X.env) = eval o X.env := by rfl) (hline : (apos.endLine == pos.line) = true := by rfl) :
    PE X (.Call (.Attribute o "isascii" apos) [] [] pos) (tM0 rAscS to) := pe_m0 F.slot_str_isascii F.type_str_isascii mt_isascii ho hbase hline
end
def rLenS : List V → Hp → VK → Prop := fun xs H Q => ∃ z, xs = [.str z] ∧ z.length ≤ sizeLine ∧ Q (.int z.length) H
def rIntS : List V → Hp → VK → Prop := fun xs H Q => ∃ a n, xs = [.str a] ∧ PySem.intText? a = some n ∧ a.length ≤ 640 ∧ Q (.int n) H
def oAddS : R2 := fun x y H Q => ∃ i j, x = .str i ∧ y = .str j ∧ i.length + j.length ≤ sizeLine ∧ Q (.str (i ++ j)) H
variable [kk : KK]
def rAddX (K : PySem.W.Frag) : R2 := fun x y H Q => rAddU K x y H Q ∨ oAddS x y H Q
theorem op_addX {X : Cx} : OpR X (binaryOp .Add) (rAddX X.K) := OpR.or op_addU op_add_str
def unS : List PD → Option (List Str)
  | [] => some []
  | .str y :: r => (unS r).map (y :: ·)
  | _ => none
theorem unS_eq : ∀ {ds : List PD} {ys : List Str}, unS ds = some ys → ds = ys.map PyData.str := by
  intro ds
  induction ds with
  | nil => intro ys h; cases h; rfl
  | cons d r ih =>
    intro ys h
    unfold unS at h
    split at h
    · rename_i e; cases e
    · rename_i y r' e
      cases e
      cases q : unS r with
      | none => rw [q] at h; cases h
      | some ms =>
        rw [q] at h
        cases h
        rw [ih q]
        rfl
    · cases h
theorem unS_map : ∀ ys : List Str, unS (ys.map PyData.str) = some ys
  | [] => rfl
  | y :: ys => by
    show (unS (ys.map PyData.str)).map _ = _
    rw [unS_map ys]
    rfl
theorem RpAll.strs {H : Hp} : ∀ {vs : List V} {ys : List Str}, RpAll H vs (ys.map PyData.str) → vs = ys.map V.str
  | [], [], .nil => rfl
  | _ :: _, _ :: _, .cons h t => by cases h; rw [RpAll.strs t]; rfl
theorem RpAll.ofStrs {H : Hp} : ∀ ys : List Str, RpAll H (ys.map V.str) (ys.map PyData.str)
  | [] => .nil
  | y :: ys => .cons (.str y) (RpAll.ofStrs ys)
def joinT : PD → PD → Option PD
  | .str a, .list ds => (unS ds).bind fun ys => if (ys.map (·.length)).sum + ys.length * a.length ≤ 16777216 then some (.str (Txt.join a ys)) else none
  | _, _ => none
def splitT : PD → PD → Option PD
  | .str a, .str b => if (b.length == 0) = false ∧ a.length ≤ 16000000 then some (.list ((Txt.split a b).map PyData.str)) else none
  | _, _ => none
def startsT : PD → PD → Option PD
  | .str a, .str b => some (.bool (Txt.startswith a b))
  | _, _ => none
def isdigT : PD → Option PD
  | .str a => some (.bool (Txt.isdigit a))
  | _ => none
def isascT : PD → Option PD
  | .str a => some (.bool (Txt.isascii a))
  | _ => none
def SM1 (r : V → List V → Hp → VK → Prop) (f : PD → PD → Option PD) : Prop := ∀ x y z, f x y = some z → ∃ a, x = .str a ∧ ∀ S H vy, Al S H → Rp (hid S H) vy y → ∀ Q : VK, (∀ v H2, Ex H H2 → Rp (hid S H2) v z → Q v H2) → r (.str a) [vy] H Q
def SM0 (r : V → List V → Hp → VK → Prop) (f : PD → Option PD) : Prop := ∀ x z, f x = some z → ∃ a, x = .str a ∧ ∀ S H, Al S H → ∀ Q : VK, (∀ v H2, Ex H H2 → Rp (hid S H2) v z → Q v H2) → r (.str a) [] H Q
section
variable {ta tb : TE} {a b : XE} {r : V → List V → Hp → VK → Prop}
theorem se_m1 {f : PD → PD → Option PD} (sm : SM1 r f) (ha : SE ta a) (hb : SE tb b) : SE (tM1 r ta tb) (xOp f a b) := fun ρ d h S σ H al en Q q => by
  obtain ⟨x, h1, h⟩ := bind_some h
  obtain ⟨y, h2, h⟩ := bind_some h
  refine ha ρ x h1 S σ H al en _ fun vx H1 e1 rx => ?_
  obtain ⟨s, rfl, k⟩ := sm x y d h
  cases rx
  exact ⟨⟨s, rfl⟩, hb ρ y h2 S σ H1 (al.ex e1) (en.ex (hid_ex e1)) _ fun vy H2 e2 ry => k S H2 vy ((al.ex e1).ex e2) ry Q fun v H3 e3 rv => q v H3 ((e1.trans e2).trans e3) rv⟩
theorem se_m0 {f : PD → Option PD} (sm : SM0 r f) (ha : SE ta a) : SE (tM0 r ta) (xUn f a) := fun ρ d h S σ H al en Q q => by
  obtain ⟨x, h1, h⟩ := bind_some h
  refine ha ρ x h1 S σ H al en _ fun vx H1 e1 rx => ?_
  obtain ⟨s, rfl, k⟩ := sm x d h
  cases rx
  exact ⟨⟨s, rfl⟩, k S H1 (al.ex e1) Q fun v H3 e3 rv => q v H3 (e1.trans e3) rv⟩
end
theorem sm_join : SM1 (rJoinS K) joinT := fun x y z h => by
  unfold joinT at h
  split at h
  · rename_i a ds
    refine ⟨a, rfl, fun S H vy al ry Q q => ?_⟩
    cases ry with
    | lst ha ra =>
      obtain ⟨ys, h1, h2⟩ := bind_some h
      have e := unS_eq h1
      subst e
      have e := ra.strs
      subst e
      by_cases c : (ys.map (·.length)).sum + ys.length * a.length ≤ 16777216
      · rw [if_pos c] at h2
        cases h2
        exact ⟨a, _, ys, rfl, rfl, .inl (.inl (.inl (hid_le _ _ ha))), c, q _ H (Ex.refl H) (.str _)⟩
      · rw [if_neg c] at h2; cases h2
  · cases h
theorem sm_split : SM1 rSplitS splitT := fun x y z h => by
  unfold splitT at h
  split at h
  · rename_i a b
    refine ⟨a, rfl, fun S H vy al ry Q q => ?_⟩
    cases ry
    by_cases c : (b.length == 0) = false ∧ a.length ≤ 16000000
    · rw [if_pos c] at h
      cases h
      refine ⟨a, b, rfl, rfl, c.1, by rw [sizeLine_eq]; omega, fun p hp => ?_⟩
      exact q _ _ (Ex.new hp) (.lst (new_ok al hp) (RpAll.ofStrs _))
    · rw [if_neg c] at h; cases h
  · cases h
theorem sm_start : SM1 rStartS startsT := fun x y z h => by
  unfold startsT at h
  split at h
  · rename_i a b
    cases h
    refine ⟨a, rfl, fun S H vy al ry Q q => ?_⟩
    cases ry
    exact ⟨a, b, rfl, rfl, q _ H (Ex.refl H) (.bl _)⟩
  · cases h
theorem sm_dig : SM0 rDigS isdigT := fun x z h => by
  unfold isdigT at h
  split at h
  · rename_i a
    cases h
    exact ⟨a, rfl, fun S H al Q q => ⟨a, rfl, rfl, trivial, q _ H (Ex.refl H) (.bl _)⟩⟩
  · cases h
theorem sm_asc : SM0 rAscS isascT := fun x z h => by
  unfold isascT at h
  split at h
  · rename_i a
    cases h
    exact ⟨a, rfl, fun S H al Q q => ⟨a, rfl, rfl, trivial, q _ H (Ex.refl H) (.bl _)⟩⟩
  · cases h
def lenT : PD → Option PD
  | .str z => if z.length ≤ 16000000 then some (.int z.length) else none
  | _ => none
theorem sc_lenS : SC rLenS (on1 lenT) := sc_on1 fun x z h S H v al rv Q q => by
  cases rv with
  | str x =>
    have h : (if x.length ≤ 16000000 then some (PyData.int x.length) else none) = some z := h
    by_cases c : x.length ≤ 16000000
    · rw [if_pos c] at h
      cases h
      exact ⟨x, rfl, by rw [sizeLine_eq]; omega, q _ H (Ex.refl H) (.int _)⟩
    · rw [if_neg c] at h; cases h
  | _ => cases h
def intT : PD → Option PD
  | .str a => (PySem.intText? a).bind fun n => if a.length ≤ 640 then some (.int n) else none
  | _ => none
theorem sc_intS : SC rIntS (on1 intT) := sc_on1 fun x z h S H v al rv Q q => by
  cases rv with
  | str x =>
    obtain ⟨n, h1, h2⟩ := bind_some (show (PySem.intText? x).bind (fun n => if x.length ≤ 640 then some (PyData.int n) else none) = some z from h)
    by_cases c : x.length ≤ 640
    · rw [if_pos c] at h2
      cases h2
      exact ⟨x, n, rfl, h1, c, q _ H (Ex.refl H) (.int _)⟩
    · rw [if_neg c] at h2; cases h2
  | _ => cases h
def addX : PD → PD → Option PD
  | .str i, .str j => if i.length + j.length ≤ 16000000 then some (.str (i ++ j)) else none
  | x, y => addP x y
theorem so_addX : SO (rAddX K) addX := fun x y z h S H vx vy al rx ry Q q => by
  unfold addX at h
  split at h
  · rename_i i j
    cases rx
    cases ry
    by_cases c : i.length + j.length ≤ 16000000
    · rw [if_pos c] at h
      cases h
      exact .inr ⟨i, j, rfl, rfl, by rw [sizeLine_eq]; omega, q _ H (Ex.refl H) (.str _)⟩
    · rw [if_neg c] at h; cases h
  · exact .inl (so_add x y z h S H vx vy al rx ry Q q)
def xJs : List XE → Str → XE
  | [], acc => fun _ => some (.str acc)
  | x :: xs, acc => fun ρ => (x ρ).bind fun d => match d with
    | .str y => if (acc ++ y).length ≤ 16000000 then xJs xs (acc ++ y) ρ else none
    | _ => none
inductive SEs : List TE → List XE → Prop
  | nil : SEs [] []
  | cons {t : TE} {x : XE} {ts : List TE} {xs : List XE} : SE t x → SEs ts xs → SEs (t :: ts) (x :: xs)
end Uv

namespace Uv
open PySem PySem.Spec PyProof.Rows L2
open Evl (Ex)
def exvD (n : Nat) (d : PD) : PD := .dict [(.bool false, .int (n : Int)), (.bool true, d)]
def isExv : PD → Option (Nat × PD)
  | .dict [(.bool false, .int i), (.bool true, d)] => some (i.toNat, d)
  | _ => none
def spI (C : Addr) (fld : Str) : Sp := fun vs H Q E => ∃ (a : Addr) (v : V), vs = [.ref a, v] ∧ H a = some (exo a C none) ∧ ∀ dx, H dx = none → dx ≠ a → Q .non (upd (upd H dx (exd dx [(fld, v)])) a (exo a C (some dx)))
theorem fn_init {P : Program} {w : World} {K : PySem.W.Frag} {mg : Str → Option Value} {base : Heap} {CX : CXT} {C f : Addr} {fld name qual : Str} {params : Arguments} {body : List Stmt} {scope : Scope} {dV kV doc pm cdv ct oc : Value} {an od : Option Addr}
    {osl : Array (Option Value)} (lk : K.lookup f = some ⟨oc, od, .func (PySem.W.fnOf name qual params body scope dV kV doc pm an cdv ct), osl⟩) (hcd : PySem.W.codeIn K cdv qual = true) (S : FnScope ["self", fld] ["self", fld] scope)
    (T : OexC K C) (hno : PySem.W.findIn K (.ref C) fld = some none)
    (hb : ∀ (A : Around) (outer : List PySem.Env) (s : Shared) (H : Hp) (E : XK), PSs (cxOf CX P w K mg base ["self", fld] qual scope f cdv A outer s H E) body (tOst K fld (tVar 0) (tVar 1))) :
    FnOk P w K mg base CX 1 f (PySem.W.fnOf name qual params body scope dV kV doc pm an cdv ct) ["self", fld] (spI C fld) := by
  refine fn_of lk hcd S (fun vs H Q E h => ?_) fun A outer s H vs Q E hr h => ⟨_, hb A outer s H E, ?_⟩
  · obtain ⟨a, v, rfl, _⟩ := h
    rfl
  · obtain ⟨a, v, rfl, ea, q⟩ := h
    exact ⟨v, rfl, .ref a, rfl, a, C, rfl, T, hno, .inl ⟨ea, fun dx hn hne => q dx hn hne⟩⟩
def tRv (W : WX) (C : Addr) (fld : Str) (te : TE) : TS := fun _ σ H => tMkO C (spI C fld) [] (tCons te tNil) σ H fun cls d H' => W cls d σ H'
theorem ps_rv {X : Cx} {W : WX} {x : Str} {C fI : Addr} {fd : FuncData} {fld : Str} {e : Expr} {te : TE} {p pos pos' : Pos} {j : Nat} (hc : X.calm = true) (tk : Takes X W) (T : OexC X.K C) (iC : PySem.W.findIn X.K (.ref C) "__init__" = some (some (.ref fI))) (tI : PySem.W.typeIn X.K (.ref fI) = some (.type "function"))
    (F1 : FnOk X.prog X.w X.K X.mg X.base (L2.CX X.prog X.w) 1 fI fd ["self", fld] (spI C fld)) (hr : Room j X.A) (hk : 2 ≤ j) (hb : Binds X.K fd ["self", fld] []) (hg : Gl X x) (hm : X.mg x = some (.ref C)) (he : PE X e te)
    (hdb : (x == ("__debug__" : Str)) = false := by decide) (he' : starEach [e] X.env = (false, eval e X.env) :: starEach [] X.env := by rfl) (hpl : (backTo pos (starEach [] X.env)).any (·.1) = false := by rfl) : PS X (.Raise (some (.Call (.Name x p) [e] [] pos)) none pos') (tRv W C fld te) :=
  ps_raise hc tk (pmk_oex T iC tI F1 (hr.mono hk) hb .nil (fun pins σ H s e s' I c => passes_call tk (E := fun _ _ _ => False) (fun _ _ _ _ z => z.elim) pins σ H s e s' I c) hg hm (pa_cons he pa_nil (hs := he')) hdb he' hpl)
variable [kk : KK]
theorem rp_noexv {H : Hp} {v : V} {d : PD} (r : Rp H v d) : isExv d = none := by
  cases r with
  | dct h l e ra =>
    rename_i ks xs ds ps
    subst e
    cases ks with
    | nil => rfl
    | cons k ks => cases ds <;> rfl
  | _ => rfl
def OutY (W : WX) (cl : Nat → Value) (fld : Str) (pn : Option V) (F : Hs) (T : Trs) (H : Hp) (D : Ends) (o : Out) : Prop :=
  (∀ n x ρ d, o = .ret d ρ → isExv d = some (n, x) → ∀ σ T' H' dd v, StOk pn F T' H' σ ρ → Stp F T H T' H' → H' dd = some (.xd [(fld, v)]) → Rp (hid (SF F T') H') v x → W (cl n) (some dd) σ H') ∧ ((∀ d ρ, o = .ret d ρ → isExv d = none) → OutOk pn F T H D o)
def SSY (W : WX) (cl : Nat → Value) (fld : Str) (ts : TS) (x : XS) : Prop := ∀ pn F T H σ ρ o D, StOk pn F T H σ ρ → x ρ = some o → OutY W cl fld pn F T H D o → ts D σ H
def sRv (n : Nat) (x : XE) : XS := fun ρ => (x (mk ρ)).bind fun d => some (.ret (exvD n d) ρ)
section
variable {W : WX} {cl : Nat → Value} {fld : Str} {t u : TS} {x y : XS} {ct : TT} {c : XWT}
theorem ssy_of (h : SS t x) : SSY W cl fld t x := fun pn F T H σ ρ o D st e q => h pn F T H σ ρ o D st e <| by
  by_cases z : ∀ d ρ, o = .ret d ρ → isExv d = none
  · exact q.2 z
  · cases o with
    | ret d ρ' =>
      intro v σ T' H' st s rv
      exact absurd (fun d2 ρ2 e2 => by cases e2; exact rp_noexv rv) z
    | _ => exact absurd (fun _ _ e => nomatch e) z
theorem OutY.step {pn : Option V} {F : Hs} {T T1 : Trs} {H H1 : Hp} {D : Ends} (s : Stp F T H T1 H1) {o : Out} (h : OutY W cl fld pn F T H D o) : OutY W cl fld pn F T1 H1 D o :=
  ⟨fun n x ρ d e i σ T' H' dd v st s' => h.1 n x ρ d e i σ T' H' dd v st (s.trans s'), fun z => (h.2 z).step s⟩
theorem ssy_seq (hx : SSY W cl fld t x) (hy : SSY W cl fld u y) : SSY W cl fld (tSeq t u) (sSeq x y) := fun pn F T H σ ρ o D st e q => by
  obtain ⟨o1, h1, e⟩ := bind_some e
  cases o1 with
  | nxt ρ1 => exact hx pn F T H σ ρ _ { D with nx := u D } st h1 ⟨fun _ _ _ _ z => (nomatch z), fun _ σ2 T2 H2 st2 s2 => hy pn F T2 H2 σ2 ρ1 o D st2 e (q.step s2)⟩
  | ret d ρ1 => cases e; exact hx pn F T H σ ρ _ { D with nx := u D } st h1 ⟨q.1, fun z => q.2 z⟩
  | retO d ρ1 => cases e; exact hx pn F T H σ ρ _ { D with nx := u D } st h1 ⟨q.1, fun z => q.2 z⟩
  | brk ρ1 => cases e; exact hx pn F T H σ ρ _ { D with nx := u D } st h1 ⟨q.1, fun z => q.2 z⟩
  | cnt ρ1 => cases e; exact hx pn F T H σ ρ _ { D with nx := u D } st h1 ⟨q.1, fun z => q.2 z⟩
theorem ssy_if (hc : SWT ct c) (hx : SSY W cl fld t x) (hy : SSY W cl fld u y) : SSY W cl fld (tIfS ct t u) (sIf c x y) := fun pn F T H σ ρ o D st e q => by
  obtain ⟨⟨k, ρ1⟩, h1, e⟩ := bind_some e
  refine hc pn F T H σ ρ k ρ1 st h1 _ fun T1 H1 st1 s1 => ?_
  cases k with
  | true => exact hx pn F T1 H1 σ ρ1 o D st1 e (q.step s1)
  | false => exact hy pn F T1 H1 σ ρ1 o D st1 e (q.step s1)
theorem ex_let {H : Hp} {a dx : Addr} {u u' : HO} {o o' : HO} (ha : H a = none) (hd : H dx = none) : Ex H (upd (L2.del (upd (upd (upd H a u) dx u') a o) a) dx o') := fun b z e => by
  have b1 : b ≠ a := fun e1 => by rw [e1, ha] at e; cases e
  have b2 : b ≠ dx := fun e1 => by rw [e1, hd] at e; cases e
  rw [upd_ne b2, del_ne b1, upd_ne b1, upd_ne b2, upd_ne b1]
  exact e
theorem ssy_rv {n : Nat} {C : Addr} {te : TE} {x : XE} (hx : SE te x) (hC : cl n = .ref C) : SSY W cl fld (tRv W C fld te) (sRv n x) := fun pn F T H σ ρ o D st e q => by
  obtain ⟨d, h1, e⟩ := bind_some e
  cases e
  refine hx _ _ h1 (SF F T) σ H st.als st.mkd _ fun v H1 e1 rv => ?_
  refine ⟨by show 1 ≤ 1000; omega, fun a ha => ⟨a, v, rfl, upd_same, fun dx hd hne => ⟨rfl, dx, [(fld, v)], upd_same, ?_, ?_, ?_⟩⟩⟩
  · rw [upd_ne (Ne.symm hne.symm)]
    exact upd_same
  · rw [upd_ne hne] at hd
    exact hd
  · have hd' : H1 dx = none := by rw [upd_ne hne] at hd; exact hd
    have e2 := ex_let (u := exo a C none) (u' := exd dx [(fld, v)]) (o := exo a C (some dx)) (o' := .xd [(fld, v)]) ha hd'
    have st1 := st.ex e1
    rw [← hC]
    exact q.1 n d ρ _ rfl rfl σ T _ dx v (st1.ex e2) ((Stp.ex st.al e1).trans (Stp.ex st1.al e2)) upd_same (rv.ex (hid_ex e2))
end
end Uv

namespace Uv
open PySem PySem.Spec PyProof.Rows L2
open Evl (Ex)
def rIsV (K : PySem.W.Frag) (D a : Addr) (d : Option Addr) : List V → Hp → VK → Prop := fun xs H Q => ∃ (dd : Addr) (fs : List (Str × V)) (c : V) (cv : Value) (b : Bool), d = some dd ∧ H dd = some (.xd fs) ∧ xs = [.ref a, c] ∧ (∀ u, RelV c u → u = cv) ∧ PySem.W.kitOne K (.ref D) cv = some b ∧ Q (.bl b) H
def rIsVT (K : PySem.W.Frag) (D a : Addr) (d : Option Addr) : List V → Hp → VK → Prop := fun xs H Q => ∃ (dd : Addr) (fs : List (Str × V)) (tp : Addr) (Cs : List Addr) (b : Bool), d = some dd ∧ H dd = some (.xd fs) ∧ xs = [.ref a, .ref tp] ∧ H tp = some (.tup (Cs.map V.ref)) ∧ PySem.W.kitAny K (.ref D) (Cs.map Value.ref) = some b ∧ Q (.bl b) H
theorem kitx_exD {K : PySem.W.Frag} {D x : Addr} {ox : Obj} {od : Option Obj} (C : ExcC K D) : PySem.W.KitX K (.ref x) (.ref D) (fun h => PySem.W.InstAt h x ox D od) :=
  PySem.W.kitx_exc (by obtain ⟨cd, hc, _⟩ := PySem.W.any_some C.hd; rw [hc]; rfl) C.hg C.hk C.hs C.ha C.hn C.ht C.hm
theorem instD {X : Cx} {a D dd : Addr} {oe : Obj} {fs : List (Str × V)} {pn pins : List (Addr × Obj)} {σ : L2.St} {H : Hp} {s : Shared} (I : Inv (X.suite a ((a, oe) :: pn)) pins σ H s) (hz : Zc (.ref D) (some dd) oe) (hf : ∃ vs, oe.data = .fields vs) (ed : H dd = some (.xd fs)) :
    ∃ od, PySem.W.InstAt s.heap a oe D (some od) := by
  obtain ⟨hget, _⟩ := I.pin (a, oe) (List.mem_append.mpr (.inl List.mem_cons_self))
  obtain ⟨vs, hv⟩ := hf
  have hx : ObjOk X.prog X.w H s.heap dd (.xd fs) := I.hok dd _ ed
  obtain ⟨mA, hns, hr⟩ := hx
  obtain ⟨od, ho, hl⟩ := lookIn_ns hns
  exact ⟨od, hget, hz.1, by unfold PySem.W.notCls; rw [hv] <;> rfl, by rw [hz.2]; exact ho⟩
theorem call_isV {X : Cx} {a D : Addr} {d : Option Addr} {oe : Obj} {pn : List (Addr × Obj)} (C : ExcC X.K D) (hz : Zc (.ref D) d oe) (hf : ∃ vs, oe.data = .fields vs) : CallR (X.suite a ((a, oe) :: pn)) (.builtin "isinstance") (rIsV X.K D a d) := by
  intro pins s σ H xs us Q I r h
  obtain ⟨dd, fs, c, cv, b, rfl, ed, rfl, hcv, e, q⟩ := h
  cases r with
  | cons rx rr =>
    cases rr with
    | cons rt rr =>
      cases rr
      cases rx
      have ec := hcv _ rt
      subst ec
      obtain ⟨od, J⟩ := instD I hz hf ed
      exact PySem.W.kia_one (kitx_exD C) I.kIn J e (fun z => nomatch z) fun tk => ⟨.bl b, H, I.kept (t' := tk) fun _ _ z => z, rfl, q⟩
theorem call_isVT {X : Cx} {a D : Addr} {d : Option Addr} {oe : Obj} {pn : List (Addr × Obj)} (C : ExcC X.K D) (hz : Zc (.ref D) d oe) (hf : ∃ vs, oe.data = .fields vs) : CallR (X.suite a ((a, oe) :: pn)) (.builtin "isinstance") (rIsVT X.K D a d) := by
  intro pins s σ H xs us Q I r h
  obtain ⟨dd, fs, tp, Cs, b, rfl, ed, rfl, hT, e, q⟩ := h
  cases r with
  | cons rx rr =>
    cases rr with
    | cons rt rr =>
      cases rr
      cases rx
      cases rt
      obtain ⟨od, J⟩ := instD I hz hf ed
      obtain ⟨_, its, rv, o, h1, h2, n, h3⟩ := (show ObjOk X.prog X.w H s.heap tp (.tup (Cs.map V.ref)) from I.hok tp _ hT)
      have e3 := vals_refsE rv
      subst e3
      obtain ⟨oc, od', dt, sl⟩ := o
      simp only at h2 h3
      subst h2 h3
      exact PySem.W.kia_tup (kitx_exD C) I.kIn J h1 e (fun z => nomatch z) fun tk => ⟨.bl b, H, I.kept (t' := tk) fun _ _ z => z, rfl, q⟩
def suite79 (K : PySem.W.Frag) (i j : Nat) (fld : Str) (D C1 C2 C3 C4 : Addr) (a : Addr) (cls : Value) (d : Option Addr) : TS :=
  tSeq (tAsg (tLst (tCons (tC (.str "other")) (tCons (tC .non) tNil))) (gName j))
    (tIfS (tAnd (tB (tCB (rIsV K D a d) (tCons (tVar i) (tCons (tC (.ref D)) tNil)))) (tNot (tB (tCB (rIsVT K D a d) (tCons (tVar i) (tCons (tTup (tCons (tC (.ref C1)) (tCons (tC (.ref C2)) (tCons (tC (.ref C3)) (tCons (tC (.ref C4)) tNil))))) tNil))))))
      (tAsg (tLst (tCons (tC (.str "no")) (tCons (tXf a cls d D fld (tVar i)) tNil))) (gName j)) tNext)
theorem suite79_ok {K : PySem.W.Frag} {i j : Nat} {fld : Str} {D C1 C2 C3 C4 a dd : Addr} {v : V} {D' : Ends} {σ : L2.St} {H : Hp} (ij : i ≠ j) (h : σ[i]? = some (some (.ref a))) (ed : H dd = some (.xd [(fld, v)]))
    (k1 : PySem.W.kitOne K (.ref D) (.ref D) = some true) (k3 : PySem.W.kitAny K (.ref D) [.ref C1, .ref C2, .ref C3, .ref C4] = some false)
    (q : ∀ p H', Ex H H' → H p = none → H' p = some (.lst [.str "no", v]) → D'.nx (σ.set j (some (.ref p))) H') : suite79 K i j fld D C1 C2 C3 C4 a (.ref D) (some dd) D' σ H := by
  refine ⟨(by show 2 ≤ sizeLine; rw [sizeLine_eq]; omega), fun p hp => ?_⟩
  have e1 := Ex.new (o := .lst [.str "other", .non]) hp
  refine ⟨.ref a, set_at h ij, dd, _, .ref D, .ref D, true, rfl, e1 _ _ ed, rfl, fun u r => r, k1, true, rfl, ?_⟩
  show if true = true then _ else _
  rw [if_pos rfl]
  refine ⟨.ref a, set_at h ij, (by show 4 ≤ sizeLine; rw [sizeLine_eq]; omega), fun tp htp => ⟨dd, _, tp, [C1, C2, C3, C4], false, rfl, (Ex.new htp) _ _ (e1 _ _ ed), rfl, upd_same, k3, false, rfl, ?_⟩⟩
  have e2 := Ex.new (o := .tup [.ref C1, .ref C2, .ref C3, .ref C4]) htp
  show if (!false) = true then _ else _
  rw [if_pos (show (!false) = true from rfl)]
  refine ⟨.ref a, set_at h ij, rfl, rfl, dd, _, v, rfl, e2 _ _ (e1 _ _ ed), ?_, (by show 2 ≤ sizeLine; rw [sizeLine_eq]; omega), fun p2 hp2 => ?_⟩
  · simp [List.lookup]
  · show D'.nx ((σ.set j (some (.ref p))).set j (some (.ref p2))) _
    rw [List.set_set]
    exact q p2 _ ((e1.trans e2).trans (Ex.new hp2)) (ex_free0 (e1.trans e2) hp2) upd_same
def oneT (D : Addr) (t : Addr → Value → Option Addr → TS) : Addr → Value → Option Addr → TS := fun a cls d D' σ H => cls = .ref D ∧ t a cls d D' σ H
theorem pss_oneT {X : Cx} {D a : Addr} {cls : Value} {d : Option Addr} {b : List Stmt} {t : Addr → Value → Option Addr → TS} (h : cls = .ref D → PSs X b (t a cls d)) : PSs X b (oneT D t a cls d) := ⟨fun pins s σ H D' I ⟨e1, q⟩ => (h e1).run pins s σ H D' I q⟩
end Uv

namespace Uv
open PySem PySem.Spec PyProof.Rows L2
open Evl (Ex)
variable [kk : KK]
def spY (cl : Nat → Value) (fld : Str) (f : List PD → Option PD) : Sp := fun vs H Q E => ∃ S ds d, Al S H ∧ RpAll (hid S H) vs ds ∧ f ds = some d ∧ (∀ n x, isExv d = some (n, x) → ∀ H2 dd v, Ex H H2 → H2 dd = some (.xd [(fld, v)]) → Rp (hid S H2) v x → E (cl n) (some dd) H2) ∧ (isExv d = none → ∀ v H2, Ex H H2 → Rp (hid S H2) v d → Q v H2)
theorem len_Y {cl : Nat → Value} {fld : Str} {n k : Nat} {X : XS} {vs : List V} {H : Hp} {Q : VK} {E : XK} (h : spY cl fld (runP n k X) vs H Q E) : vs.length = n := by
  obtain ⟨S, ds, d, _, ra, h, _⟩ := h
  unfold runP at h
  by_cases hn : ds.length = n
  · rw [ra.length]; exact hn
  · rw [if_neg hn] at h; cases h
theorem go_Y {cl : Nat → Value} {fld : Str} {t : TS} {X : XS} {N : List Str} {vs : List V} {H : Hp} {Q : VK} {E : XK} {n k : Nat} (hX : SSY (fun cls d _ H => E cls d H) cl fld t X) (hN : N.length = n + k) (hs : spY cl fld (runP n k X) vs H Q E) : t { nx := fun _ H' => Q .non H', rt := Q } (L2.start N vs) H := by
  obtain ⟨S, ds, d, al, ra, h, qx, q⟩ := hs
  unfold runP at h
  by_cases hn : ds.length = n
  · rw [if_pos hn] at h
    obtain ⟨o, h1, h⟩ := bind_some h
    have ex : ∀ {T' : Trs} {H' : Hp}, Stp S (fun _ => []) H T' H' → Ex H H' := fun {T' H'} s x o hx => by
      by_cases c : S x
      · rw [s.fr x c]; exact hx
      · exact hid_le _ _ (s.vis x o (by rw [hid_out (fun z => z.elim c fun ⟨_, z⟩ => nomatch z)]; exact hx))
    refine hX none S _ H _ _ o _ (st0 al ra hn hN) h1 ⟨fun n x ρ d' e i σ T' H' dd v st s hd rv => ?_, fun z => ?_⟩
    · subst e
      cases h
      exact qx n x i H' dd v (ex s) hd (rv.ex (hid_sub fun x hx => .inl hx))
    · cases o with
      | ret d' ρ' => cases h; exact fun v σ T' H' st' s' rv => q (z _ _ rfl) v H' (ex s') (rv.ex (hid_sub fun x hx => .inl hx))
      | nxt ρ' => cases h; exact fun σ T' H' st' s' => q rfl .non H' (ex s') .non
      | retO _ _ => cases h
      | brk _ => cases h
      | cnt _ => cases h
  · rw [if_neg hn] at h; cases h
section
variable {W : WX} {cl : Nat → Value} {fld : Str}
def sDropY (f : List PD → Option PD) (as : XA) : XS := fun ρ => (as (mk ρ)).bind fun xs => (f xs).bind fun d => match isExv d with
  | none => some (.nxt ρ)
  | some (n, x) => some (.ret (exvD n x) ρ)
theorem ssy_dropY {f : List PD → Option PD} {ts : TA} {as : XA} (hs : SA ts as) : SSY W cl fld (tDrop (tCallS (spY cl fld f) (WE W) ts)) (sDropY f as) := fun pn F T H σ ρ o D st e q => by
  obtain ⟨xs, h1, e⟩ := bind_some e
  obtain ⟨d, h2, e⟩ := bind_some e
  refine hs _ _ h1 (SF F T) σ H st.als st.mkd _ fun vs H1 e1 rv => ⟨SF F T, xs, d, st.als.ex e1, rv, h2, fun n x i H2 dd v e2 hd rv2 => ?_, fun i v H2 e2 r2 => ?_⟩
  · rw [i] at e
    have e : some (Out.ret (exvD n x) ρ) = some o := e
    cases e
    exact q.1 n x ρ _ rfl rfl σ T H2 dd v ((st.ex e1).ex e2) ((Stp.ex st.al e1).trans (Stp.ex (st.ex e1).al e2)) hd rv2
  · rw [i] at e
    have e : some (Out.nxt ρ) = some o := e
    cases e
    exact q.2 (fun _ _ z => nomatch z) σ T H2 ((st.ex e1).ex e2) ((Stp.ex st.al e1).trans (Stp.ex (st.ex e1).al e2))
def SEY (W : WX) (cl : Nat → Value) (fld : Str) (te : TE) (x : XE) : Prop := ∀ ρ d, x ρ = some d → ∀ S σ H, Al S H → En (hid S H) σ ρ → ∀ Q : VK, (∀ n y, isExv d = some (n, y) → ∀ H2 dd v, Ex H H2 → H2 dd = some (.xd [(fld, v)]) → Rp (hid S H2) v y → W (cl n) (some dd) σ H2) → (isExv d = none → ∀ v H2, Ex H H2 → Rp (hid S H2) v d → Q v H2) → te σ H Q
theorem sey_call {f : List PD → Option PD} {ts : TA} {as : XA} (hs : SA ts as) : SEY W cl fld (tCallS (spY cl fld f) (WE W) ts) (xCB f as) := fun ρ d h S σ H al en Q qx q => by
  obtain ⟨ds, h1, h2⟩ := bind_some h
  exact hs ρ ds h1 S σ H al en _ fun vs H1 e1 rv => ⟨S, ds, d, al.ex e1, rv, h2, fun n x i H2 dd v e2 hd rv2 => qx n x i H2 dd v (e1.trans e2) hd rv2, fun i v H2 e2 r2 => q i v H2 (e1.trans e2) r2⟩
def sAsgL (w : Str) (x : XE) (j : Nat) : XS := fun ρ => (x (mk ρ)).bind fun d => match isExv d with
  | none => some (.nxt (ρ.set j (.dat (.list [.str w, d]))))
  | some (n, y) => some (.ret (exvD n y) ρ)
theorem ssy_asgL {w : Str} {te : TE} {x : XE} {j : Nat} (hx : SEY W cl fld te x) (j0 : j ≠ 0) : SSY W cl fld (tAsg (tLst (tCons (tC (.str w)) (tCons te tNil))) (gName j)) (sAsgL w x j) := fun pn F T H σ ρ o D st e q => by
  obtain ⟨d, h1, e⟩ := bind_some e
  refine hx _ _ h1 (SF F T) σ H st.als st.mkd _ (fun n y i H2 dd v e2 hd rv => ?_) fun i v H1 e1 rv => ?_
  · rw [i] at e
    have e : some (Out.ret (exvD n y) ρ) = some o := e
    cases e
    exact q.1 n y ρ _ rfl rfl σ T H2 dd v (st.ex e2) (Stp.ex st.al e2) hd rv
  · rw [i] at e
    have e : some (Out.nxt (ρ.set j (.dat (.list [.str w, d])))) = some o := e
    cases e
    refine ⟨by show 2 ≤ sizeLine; rw [sizeLine_eq]; omega, fun p hp => ?_⟩
    have st1 := st.ex e1
    have e2 := Ex.new (o := .lst [.str w, v]) hp
    have rp : Rp (hid (SF F T) (upd H1 p (.lst [.str w, v]))) (.ref p) (.list [.str w, d]) := .lst (new_ok st1.als hp) (.cons (.str w) (.cons (rv.ex (hid_ex e2)) .nil))
    obtain ⟨st5, s5⟩ := (st1.ex e2).set (i := j) j0 rp
    exact q.2 (fun _ _ z => nomatch z) _ _ _ st5 (((Stp.ex st.al e1).trans (Stp.ex st1.al e2)).trans s5)
end
def sTryV (y : XS) (cs : List Nat) (i j m : Nat) : XS := fun ρ => (y ρ).bind fun o => match o with
  | .ret d ρ' => (match isExv d with
    | some (n, x) => if n ∈ cs ∧ ρ'.length = m then some (.nxt ((ρ'.set i .un).set j (.dat (.list [.str "no", x])))) else none
    | none => none)
  | .nxt ρ' => some (.nxt ρ')
  | _ => none
theorem ss_tryV {cl : Nat → Value} {fld : Str} {c : Value} {i j m : Nat} {Tb : WX → TS} {y : XS} {tsu : Addr → Value → Option Addr → TS} {cs : List Nat} (hb : ∀ W, SSY W cl fld (Tb W) y) (hc : ∀ n ∈ cs, PySem.W.exmOne K (cl n) c = some true)
    (hy : ∀ (a : Addr) (n : Nat), n ∈ cs → ∀ (D' : Ends) (σ : L2.St) (H : Hp) (dd : Addr) (v : V), i < σ.length → H dd = some (.xd [(fld, v)]) → (∀ p H', Ex H H' → H p = none → H' p = some (.lst [.str "no", v]) → D'.nx ((σ.set i (some (.ref a))).set j (some (.ref p))) H') → tsu a (cl n) (some dd) D' (σ.set i (some (.ref a))) H) (im : i < m) (i0 : i ≠ 0) (j0 : j ≠ 0) (ij : i ≠ j) : SS (tTryC K c i Tb tsu) (sTryV y cs i j m) := fun pn F T H σ ρ o D st e q => by
  obtain ⟨o1, h1, e⟩ := bind_some e
  refine hb _ pn F T H σ ρ o1 D st h1 ⟨fun n x ρ' d e1 i1 σ' T2 H2 dd v st2 s2 hd rv => ?_, fun z => ?_⟩
  · subst e1
    have e : (match isExv d with
      | some (n, x) => if n ∈ cs ∧ ρ'.length = m then some (Out.nxt ((ρ'.set i .un).set j (.dat (.list [.str "no", x])))) else none
      | none => none) = some o := e
    rw [i1] at e
    have e : (if n ∈ cs ∧ ρ'.length = m then some (Out.nxt ((ρ'.set i .un).set j (.dat (.list [.str "no", x])))) else none) = some o := e
    by_cases m' : n ∈ cs ∧ ρ'.length = m
    · rw [if_pos m'] at e
      cases e
      refine ⟨true, hc n m'.1, fun _ a _ => hy a n m'.1 _ σ' H2 dd v (by rw [st2.len]; omega) hd fun p H' e3 hp hp' => ?_, fun z => nomatch z⟩
      have st3 := st2.ex e3
      obtain ⟨st4, s4⟩ := st3.drop (i := i) (o := none) (s := .un) i0 rfl
      have rp : Rp (hid (SF F (setT T2 i [])) H') (.ref p) (.list [.str "no", x]) := .lst (by rw [hid_out]; exact hp'; exact st2.als.new hp ∘ fun z => SF_setT_nil p z) (.cons (.str "no") (.cons ((rv.ex (hid_ex e3)).ex (hid_sub fun x hx => SF_setT_nil x hx)) .nil))
      obtain ⟨st5, s5⟩ := st4.set (i := j) j0 rp
      have es : (((σ'.set i (some (.ref a))).set j (some (.ref p))).set i none) = (σ'.set i none).set j (some (.ref p)) := by
        rw [List.set_comm _ _ (Ne.symm ij), List.set_set]
      show D.nx (((σ'.set i (some (.ref a))).set j (some (.ref p))).set i none) H'
      rw [es]
      exact q _ _ H' st5 ((s2.trans (Stp.ex st2.al e3)).trans (s4.trans s5))
    · rw [if_neg m'] at e
      cases e
  · cases o1 with
    | nxt ρ' => cases e; exact q
    | ret d ρ' =>
      have e : (match isExv d with
        | some (n, x) => if n ∈ cs ∧ ρ'.length = m then some (Out.nxt ((ρ'.set i .un).set j (.dat (.list [.str "no", x])))) else none
        | none => none) = some o := e
      rw [z d ρ' rfl] at e
      cases e
    | retO _ _ => cases e
    | brk _ => cases e
    | cnt _ => cases e
end Uv

namespace Uv
open PySem PySem.Spec PyProof.Rows L2
open Evl (Ex)
variable [kk : KK]
def sgnD (z : Str) : List PD := z.cps.toList.map fun c => .str ⟨#[c]⟩
def xiS (a : XE) : XI := fun ρ => (a ρ).bind fun d => match d with
  | .str z => some (sgnD z)
  | _ => none
theorem si_str {te : TE} {a : XE} (ha : SE te a) : SI false (iStr te) (xiS a) := fun ρ xs h S σ H al en R q => by
  obtain ⟨d, h1, h⟩ := bind_some h
  cases d with
  | str z =>
    have h : some (sgnD z) = some xs := h
    cases h
    refine ha ρ _ h1 S σ H al en _ fun v H1 e1 rv => ?_
    cases rv
    refine ⟨z, rfl, q _ H1 e1 fun S' H2 e2 al2 => ⟨?_, fun i x hx => ?_⟩⟩
    · show z.cps.size ≤ (sgnD z).length
      unfold sgnD
      rw [List.length_map, Array.length_toList]
      exact Nat.le_refl _
    · unfold sgnD at hx
      rw [List.getElem?_map] at hx
      cases g : z.cps.toList[i]? with
      | none => rw [g] at hx; cases hx
      | some c =>
        rw [g] at hx
        cases hx
        obtain ⟨hi, ec⟩ := List.getElem?_eq_some_iff.mp g
        have hi2 : i < z.cps.size := by rw [Array.length_toList] at hi; exact hi
        refine ⟨hi2, fun v H3 y => ?_⟩
        obtain ⟨y1, c', y2, y3⟩ := y
        subst y1 y3
        have : c' = c := by
          rw [Array.getElem?_eq_getElem hi2] at y2
          rw [← ec, Array.getElem_toList]
          exact (Option.some.inj y2).symm
        rw [this]
        exact ⟨Ex.refl _, .inl (.str _)⟩
  | _ => cases h
def notinS : PD → PD → Option PD
  | .str x, .str z => match x.cps.toList with
    | [c] => some (.bool (!decide (c ∈ z.cps.toList)))
    | _ => none
  | _, _ => none
theorem so_notinS : SO rNotInS notinS := fun x y z h S H vx vy al rx ry Q q => by
  unfold notinS at h
  split at h
  · rename_i a b
    split at h
    · rename_i c e
      cases h
      cases rx
      cases ry
      have : a = ⟨#[c]⟩ := TL.ext_tl (by show a.cps.toList = _; rw [e])
      subst this
      exact ⟨c, b, rfl, rfl, q _ H (Ex.refl H) (.bl _)⟩
    · cases h
  · cases h
def ixT : PD → PD → Option PD
  | .str z, .int i => if z.length ≤ 16000000 then (L2.atI z.cps.toList i).map fun c => .str ⟨#[c]⟩ else none
  | x, y => ixP x y
theorem so_ixT : SO (rIx K) ixT := fun x y z h S H vx vy al rx ry Q q => by
  unfold ixT at h
  split at h
  · rename_i w i
    by_cases c : w.length ≤ 16000000
    · rw [if_pos c] at h
      cases g : L2.atI w.cps.toList i with
      | none => rw [g] at h; cases h
      | some k =>
        rw [g] at h
        cases h
        cases rx
        cases ry
        exact .inr (.inr ⟨w, i, k, rfl, rfl, by rw [sizeLine_eq]; omega, g, q _ H (Ex.refl H) (.str _)⟩)
    · rw [if_neg c] at h; cases h
  · exact so_ix x y z h S H vx vy al rx ry Q q
def slS : PD → Option Int → Option Int → Option PD
  | .str z, lo, hi => if z.length ≤ 16000000 then some (.str (L2.cutS z lo hi)) else none
  | _, _, _ => none
def xSlS (a : XE) (lo hi : XO) : XE := fun ρ => (a ρ).bind fun d => (lo ρ).bind fun l => (hi ρ).bind fun h => slS d l h
theorem se_slS {ta : TE} {tl th : TO} {a : XE} {lo hi : XO} (ha : SE ta a) (hl : SP tl lo) (hh : SP th hi) : SE (tSl rSlS ta tl th) (xSlS a lo hi) := fun ρ d h S σ H al en Q q => by
  obtain ⟨x, h1, h⟩ := bind_some h
  obtain ⟨l, h2, h⟩ := bind_some h
  obtain ⟨u, h3, h⟩ := bind_some h
  refine ha ρ x h1 S σ H al en _ fun v H1 e1 rv => hl ρ l h2 S σ H1 (al.ex e1) (en.ex (hid_ex e1)) _ fun H2 e2 => hh ρ u h3 S σ H2 ((al.ex e1).ex e2) ((en.ex (hid_ex e1)).ex (hid_ex e2)) _ fun H3 e3 => ?_
  cases x with
  | str z =>
    have h : (if z.length ≤ 16000000 then some (PyData.str (L2.cutS z l u)) else none) = some d := h
    by_cases c : z.length ≤ 16000000
    · rw [if_pos c] at h
      cases h
      cases rv
      exact ⟨z, rfl, by rw [sizeLine_eq]; omega, q _ _ ((e1.trans e2).trans e3) (.str _)⟩
    · rw [if_neg c] at h; cases h
  | _ => cases h
def replT (y z : Str) : PD → Option PD
  | .str x => if x.length + (x.length + 1) * z.length ≤ 16777216 then some (.str (Txt.replace x y z)) else none
  | _ => none
theorem se_replC {te : TE} {a : XE} {y z : Str} (ha : SE te a) : SE (CwR.tReplC te y z) (xUn (replT y z) a) := fun ρ d h S σ H al en Q q => by
  obtain ⟨x, h1, h⟩ := bind_some h
  refine ha ρ x h1 S σ H al en _ fun v H1 e1 rv => ?_
  cases x with
  | str x =>
    have h : (if x.length + (x.length + 1) * z.length ≤ 16777216 then some (PyData.str (Txt.replace x y z)) else none) = some d := h
    by_cases c : x.length + (x.length + 1) * z.length ≤ 16777216
    · rw [if_pos c] at h
      cases h
      cases rv
      exact ⟨x, rfl, c, q _ H1 e1 (.str _)⟩
    · rw [if_neg c] at h; cases h
  | _ => cases h
end Uv

namespace Uv
open PySem PySem.Spec PyProof.Rows L2
open Evl (Ex)
def revS (z : Str) : Str := ⟨((Builtin.Str.strSliceIndices none none (-1) z.length).filterMap (z.cps[·]?)).toArray⟩
def tRevS (te : TE) : TE := fun σ H Q => te σ H fun x H1 => ∃ z, x = .str z ∧ (revS z).length ≤ sizeLine ∧ Q (.str (revS z)) H1
theorem pe_revS {X : Cx} {e : Expr} {te : TE} {k : Nat} {p1 p2 p3 pos : Pos} (he : PE X e te) : PE X (.Subscript e (.Slice none none (some (.UnaryOp .USub (.Constant (.int 1) k p1) p2)) p3) pos) (tRevS te) := by
  refine ⟨fun pins s σ H Q I h => ?_⟩
  refine Subscript_ (thn (he.run pins s σ H _ I h) fun v s1 ⟨x, H1, I1, r1, q1⟩ => ?_)
  obtain ⟨z, ex, hz, q⟩ := q1
  subst ex
  obtain ⟨t, rfl⟩ := r1
  have hst : PO X (some (.UnaryOp .USub (.Constant (.int 1) k p1) p2)) (tPart (tUn (rU fun i => .int (-i)) (tC (.int 1)))) := po_some (pe_un un_neg pe_int)
  refine wpAny_Slice (thn (po_none.run pins s1 σ H1 (fun o H2 => o = none ∧ H2 = H1) I1 ⟨rfl, rfl⟩) fun vl s2 ⟨l, H2, I2, pl, el, e2⟩ => ?_)
  subst el e2
  refine thn (po_none.run pins s2 σ H2 (fun o H3 => o = none ∧ H3 = H2) I2 ⟨rfl, rfl⟩) fun vu s3 ⟨u, H3, I3, pu, eu, e3⟩ => ?_
  subst eu e3
  refine thn (hst.run pins s3 σ H3 (fun o H4 => o = some (-1) ∧ H4 = H3) I3 ⟨1, rfl, -1, rfl, rfl, rfl⟩) fun vs s4 ⟨o, H4, I4, ps, eo, e4⟩ => ?_
  subst eo e4
  have I5 : Inv X pins σ H4 { s4 with heap := s4.heap.push { cls := .type "slice", data := .fields #[vl, vu, vs] } } := I4.kept (t' := s4.toks) fun b ob q => Heap.get?_push_of_some _ q
  obtain ⟨l, rfl, el⟩ := IsPart.raw pl
  obtain ⟨u, rfl, eu⟩ := IsPart.raw pu
  obtain ⟨st, rfl, es⟩ := IsPart.raw ps
  cases l with
  | some _ => cases el
  | none =>
  cases u with
  | some _ => cases eu
  | none =>
  cases st with
  | none => cases es
  | some st =>
  obtain ⟨sv, tk⟩ := st
  have es : sv = -1 := by cases es; rfl
  subst es
  refine tail_any (ops := [.str z t, .ref s4.heap.objs.size]) (typeIs_str _ _ _) F.slot_str_getitem.lookup ?_ (by with_unfolding_all rfl)
  refine wpAny_getItem_str_slice (l := none) (u := none) (st := some (-1, tk)) (Heap.IsSliceOf.new _ _ _ _) rfl ?_
  show Made.post (if ((-1 : Int) == 1 && (Builtin.Str.strSliceIndices none none (-1) z.length).length == z.length) = true then Made.val (.str z t) else Made.str (revS z)) _ _
  rw [if_neg (by rw [show ((-1 : Int) == 1) = false from rfl, Bool.false_and]; exact Bool.false_ne_true)]
  exact ⟨hz, .str _, H4, I5.tok _, ⟨_, rfl⟩, q⟩
section
variable {X : Cx}
theorem pat_pa {es : List Expr} {t : TA} (h : PA X es t) : PAT X es t := fun pos pins s σ H Q _ I q => h.run pos pins s σ H Q I q
theorem pa_bump {op : Operator} {r : R2} {y : Str} {b : Expr} {es : List Expr} {tb : TE} {t : TA} {j : Nat} {p0 pos' : Pos} (ho : OpR X (binaryOp op) r) (hb : PE X b tb) (hr : PAT X es t)
    (hs : starEach (.BinOp (.Constant (.str y) j p0) op b pos' :: es) X.env = (false, eval (.BinOp (.Constant (.str y) j p0) op b pos') X.env) :: starEach es X.env := by rfl) : PA X (.BinOp (.Constant (.str y) j p0) op b pos' :: es) (tCons (tOp r (tC (.str y)) tb) t) := by
  refine ⟨fun pos pins s σ H Q I h => ?_⟩
  rw [hs]
  show wpAny _ _ (spliced ((false, eval (.BinOp (.Constant (.str y) j p0) op b pos') X.env) :: backTo pos (starEach es X.env))) _ _ s
  refine Calls.spliced_cons (wpAny_BinOp (Calls.Constant_str ?_))
  have I1 : Inv X pins σ H { s with toks := s.toks + 1 } := I.tok _
  have h1 : tb σ H fun y' H1 => r (.str y) y' H1 fun z H2 => t σ H2 fun xs H3 => Q (z :: xs) H3 := h
  refine wpAny_mono (PySem.wpAny_toks_of (n := 1) (by show 1 ≤ s.toks + 1; omega) (hb.run pins _ σ H _ I1 h1)) (fun u s2 q => ?_) fun _ _ z => z.2
  obtain ⟨k2, x2, H2, I2, r2, q2⟩ := q
  refine wpAny_mono (PySem.wpAny_toks_of (n := 1) k2 (ho pins s2 σ H2 (.str y) x2 _ u _ I2 ⟨s.toks, rfl⟩ r2 q2)) (fun v s3 q => ?_) fun _ _ z => z.2
  obtain ⟨k3, x3, H3, I3, r3, q3⟩ := q
  exact thn (hr pos pins s3 σ H3 _ k3 I3 q3) fun us s4 ⟨xs, H4, I4, r4, q4⟩ => ⟨x3 :: xs, H4, I4, .cons r3 r4, q4⟩
end
variable [kk : KK]
def revT : PD → Option PD
  | .str z => if z.length ≤ 16000000 ∧ (revS z).length ≤ 16000000 then some (.str (revS z)) else none
  | _ => none
theorem se_revS {te : TE} {a : XE} (ha : SE te a) : SE (tRevS te) (xUn revT a) := fun ρ d h S σ H al en Q q => by
  obtain ⟨x, h1, h⟩ := bind_some h
  refine ha ρ x h1 S σ H al en _ fun v H1 e1 rv => ?_
  cases x with
  | str z =>
    have h : (if z.length ≤ 16000000 ∧ (revS z).length ≤ 16000000 then some (PyData.str (revS z)) else none) = some d := h
    by_cases c : z.length ≤ 16000000 ∧ (revS z).length ≤ 16000000
    · rw [if_pos c] at h
      cases h
      cases rv
      exact ⟨z, rfl, by rw [sizeLine_eq]; omega, q _ H1 e1 (.str _)⟩
    · rw [if_neg c] at h; cases h
  | _ => cases h
end Uv

namespace Uv
open PySem PySem.Spec PyProof.Rows L2
open Evl (Ex)
def oexO (C : Addr) : Obj → Bool
  | ⟨.type "type", _, .cls cd, sl⟩ => (match cd.mro, sl.toList with
    | .ref C' :: bm, [_, _, _, _, some (.builtin n), _] => C' == C && n == "ValueError.__new__" && !cd.hasDel && cd.hasDict && PySem.HandSPX.refsVE bm
    | _, _ => false)
  | _ => false
theorem oex_cls {K : PySem.W.Frag} {C : Addr} {o : Obj} (l : K.lookup C = some o) (q : oexO C o = true) :
    ∃ nm q N bs bm sn sub ab col dd k0 k1 k2 k3 k5, K.lookup C = some (excClassObj nm q C N bs bm true sn sub ab col dd k0 k1 k2 k3 k5 "ValueError.__new__") ∧ PySem.HandSPX.refsVE bm = true := by
  unfold oexO at q
  split at q
  · rename_i dd cd sl
    split at q
    · rename_i C' bm k0 k1 k2 k3 n k5 hm hs
      simp only [Bool.and_eq_true, beq_iff_eq, Bool.not_eq_true'] at q
      obtain ⟨⟨⟨⟨rfl, rfl⟩, hdel⟩, hdct⟩, ht⟩ := q
      obtain ⟨nm, bs, mro, ns, qn, hd, sn, sub, ab, col, del⟩ := cd
      dsimp only at hm hdel hdct
      subst hm hdel hdct
      have hsl : sl = #[k0, k1, k2, k3, some (.builtin "ValueError.__new__"), k5] := by
        obtain ⟨l⟩ := sl
        simp only at hs
        rw [hs]
      subst hsl
      exact ⟨nm, qn, ns, bs, bm, sn, sub, ab, col, dd, k0, k1, k2, k3, k5, l, ht⟩
    · cases q
  · cases q
structure InitOk (P : Program) (w : World) (K : PySem.W.Frag) (mg : Str → Option Value) (base : Heap) (x : Str) (C : Addr) (fld : Str) : Prop where
  ex : ∃ (fI : Addr) (fd : FuncData), OexC K C ∧ PySem.W.findIn K (.ref C) "__init__" = some (some (.ref fI)) ∧ PySem.W.typeIn K (.ref fI) = some (.type "function") ∧ FnOk P w K mg base (L2.CX P w) 1 fI fd ["self", fld] (spI C fld) ∧ Binds K fd ["self", fld] [] ∧ mg x = some (.ref C)
theorem ps_rvI {X : Cx} {W : WX} {x : Str} {C : Addr} {fld : Str} {e : Expr} {te : TE} {p pos pos' : Pos} {j : Nat} (i : InitOk X.prog X.w X.K X.mg X.base x C fld) (hc : X.calm = true) (tk : Takes X W) (hr : Room j X.A) (hk : 2 ≤ j) (hg : Gl X x) (he : PE X e te)
    (hdb : (x == ("__debug__" : Str)) = false := by decide) (he' : starEach [e] X.env = (false, eval e X.env) :: starEach [] X.env := by rfl) (hpl : (backTo pos (starEach [] X.env)).any (·.1) = false := by rfl) : PS X (.Raise (some (.Call (.Name x p) [e] [] pos)) none pos') (tRv W C fld te) := by
  obtain ⟨fI, fd, T, iC, tI, F1, hb, hm⟩ := i.ex
  exact ps_rv hc tk T iC tI F1 hr hk hb hg hm he hdb he' hpl
theorem init_ok {P : Program} {w : World} {K : PySem.W.Frag} {mg : Str → Option Value} {base : Heap} {x qual : Str} {C f : Addr} {fld : Str} {st : Stmt} {o : Obj} {kV doc pm cdv ct oc : Value} {an od : Option Addr} {osl : Array (Option Value)}
    (hm : mg x = some (.ref C)) (lc : K.lookup C = some o) (ob : oexO C o = true) (sa : PySem.W.findIn K (.ref C) "__setattr__" = some (some (.builtin "object.__setattr__"))) (exC : PySem.W.subIn K (.ref C) (.type "BaseException") = some true) (tyC : PySem.W.typeIn K (.ref C) = some (.type "type")) (kC : PySem.W.keepIn K (.ref C) = true)
    (iC : PySem.W.findIn K (.ref C) "__init__" = some (some (.ref f))) (tI : PySem.W.typeIn K (.ref f) = some (.type "function")) (no : PySem.W.findIn K (.ref C) fld = some none)
    (lk : K.lookup f = some ⟨oc, od, .func (PySem.W.fnOf "__init__" qual (defArgs st) (defBody st) (defScope st) .none kV doc pm an cdv ct), osl⟩) (hcd : PySem.W.codeIn K cdv qual = true) (S : FnScope ["self", fld] ["self", fld] (defScope st))
    (hbi : ∀ (kV doc pm : Value) (an : Option Addr) (cdv ct : Value) (us : List Value), us.length = 2 → bindArgs (PySem.W.fnOf "__init__" qual (defArgs st) (defBody st) (defScope st) .none kV doc pm an cdv ct) ⟨us, []⟩ = pure ((["self", fld] : List Str).zip us))
    (hb : ∀ (A : Around) (outer : List PySem.Env) (s : Shared) (H : Hp) (E : XK), PSs (cxOf (L2.CX P w) P w K mg base ["self", fld] qual (defScope st) f cdv A outer s H E) (defBody st) (tOst K fld (tVar 0) (tVar 1))) : InitOk P w K mg base x C fld := by
  have T : OexC K C := ⟨oex_cls lc ob, sa, exC, tyC, kC⟩
  exact ⟨f, _, T, iC, tI, fn_init lk hcd S T no hb, .all (hbi kV doc pm an cdv ct), hm⟩
end Uv

namespace Uv
open PySem PySem.Spec PyProof.Rows L2
def Tag {α : Type} (x : α) : Type := Unit
def tag {α : Type} (x : α) : Tag x := ()
def wp {α : Type} (o : Option α) {Q : α → Prop} (_ : Tag Q) : Prop := ∃ a, o = some a ∧ Q a
@[simp] theorem wp_some {α : Type} {a : α} {Q : α → Prop} : wp (some a) (tag Q) = Q a := propext ⟨fun ⟨b, e, q⟩ => by cases e; exact q, fun q => ⟨a, rfl, q⟩⟩
@[simp] theorem wp_none {α : Type} {Q : α → Prop} : wp none (tag Q) = False := propext ⟨fun ⟨b, e, q⟩ => (nomatch e), fun q => q.elim⟩
@[simp] theorem wp_bind {α β : Type} {o : Option α} {f : α → Option β} {Q : β → Prop} : wp (o.bind f) (tag Q) = wp o (tag fun a => wp (f a) (tag Q)) := propext (by
  cases o with
  | none => simp
  | some a => simp)
theorem wp_mono {α : Type} {o : Option α} {Q R : α → Prop} (h : wp o (tag Q)) (hq : ∀ a, Q a → R a) : wp o (tag R) := let ⟨a, e, q⟩ := h; ⟨a, e, hq a q⟩
theorem wp_eq {α : Type} {o : Option α} {a : α} : wp o (tag fun x => x = a) ↔ o = some a := ⟨fun ⟨b, e, q⟩ => by rw [e, q], fun e => ⟨a, e, rfl⟩⟩
def alt {α : Type} (b : Bool) {x y : Option α} (_ : Tag x) (_ : Tag y) : Option α := if b = true then x else y
@[simp] theorem alt_t {α : Type} {x y : Option α} : alt true (tag x) (tag y) = x := (rfl)
@[simp] theorem alt_f {α : Type} {x y : Option α} : alt false (tag x) (tag y) = y := (rfl)
theorem wp_alt {α : Type} {b : Bool} {x y : Option α} {Q : α → Prop} (h1 : b = true → wp x (tag Q)) (h2 : b = false → wp y (tag Q)) : wp (alt b (tag x) (tag y)) (tag Q) := by cases b; exact h2 rfl; exact h1 rfl
theorem wp_altd {α : Type} {c : Prop} [Decidable c] {x y : Option α} {Q : α → Prop} (h1 : c → wp x (tag Q)) (h2 : ¬ c → wp y (tag Q)) : wp (alt (decide c) (tag x) (tag y)) (tag Q) := wp_alt (fun h => h1 (of_decide_eq_true h)) (fun h => h2 (of_decide_eq_false h))
def orO (b : Bool) (x : Option Bool) : Option Bool := if b = true then some true else x
def andO (b : Bool) (x : Option Bool) : Option Bool := if b = true then x else some false
def orV (b : Bool) (x : Option PD) : Option PD := if b = true then some (.bool true) else x
def andV (b : Bool) (x : Option PD) : Option PD := if b = true then x else some (.bool false)
@[simp] theorem orO_s {b c : Bool} : orO b (some c) = some (b || c) := by cases b <;> rfl
@[simp] theorem andO_s {b c : Bool} : andO b (some c) = some (b && c) := by cases b <;> rfl
@[simp] theorem orV_s {b c : Bool} : orV b (some (.bool c)) = some (.bool (b || c)) := by cases b <;> rfl
@[simp] theorem andV_s {b c : Bool} : andV b (some (.bool c)) = some (.bool (b && c)) := by cases b <;> rfl
@[simp] theorem orO_t {x : Option Bool} : orO true x = some true := (rfl)
@[simp] theorem orO_f {x : Option Bool} : orO false x = x := (rfl)
@[simp] theorem andO_t {x : Option Bool} : andO true x = x := (rfl)
@[simp] theorem andO_f {x : Option Bool} : andO false x = some false := (rfl)
@[simp] theorem orV_t {x : Option PD} : orV true x = some (.bool true) := (rfl)
@[simp] theorem orV_f {x : Option PD} : orV false x = x := (rfl)
@[simp] theorem andV_t {x : Option PD} : andV true x = x := (rfl)
@[simp] theorem andV_f {x : Option PD} : andV false x = some (.bool false) := (rfl)
noncomputable def grd {α : Type} (c : Prop) (x : Option α) : Option α := open Classical in if c then x else none
theorem grd_ite {α : Type} {c : Prop} [Decidable c] {x : Option α} : (if c then x else none) = grd c x := by
  unfold grd
  by_cases h : c
  · rw [if_pos h, if_pos h]
  · rw [if_neg h, if_neg h]
theorem grd_pos {α : Type} {c : Prop} {x : Option α} (h : c) : grd c x = x := if_pos h
theorem grd_iff {α : Type} {c c' : Prop} {x : Option α} (h : c ↔ c') : grd c x = grd c' x := by rw [propext h]
@[simp] theorem grd_true {α : Type} {x : Option α} : grd True x = x := grd_pos trivial
@[simp] theorem wp_grd {α : Type} {c : Prop} {x : Option α} {Q : α → Prop} : wp (grd c x) (tag Q) = (c ∧ wp x (tag Q)) := by
  by_cases h : c
  · rw [grd_pos h]; simp [h]
  · unfold grd; rw [if_neg h]; simp [h]
@[simp] theorem bind_some' {α β : Type} {x : α} {f : α → Option β} : (some x).bind f = f x := (rfl)
def seqK (y : XS) : Out → Option Out
  | .nxt ρ => y ρ
  | o => some o
@[simp] theorem q_sSeq {x y : XS} {ρ : Env} : sSeq x y ρ = (x ρ).bind (seqK y) := by
  unfold sSeq
  congr 1
@[simp] theorem seqK_nxt {y : XS} {ρ : Env} : seqK y (.nxt ρ) = y ρ := (rfl)
@[simp] theorem seqK_ret {y : XS} {d : PD} {ρ : Env} : seqK y (.ret d ρ) = some (.ret d ρ) := (rfl)
@[simp] theorem seqK_retO {y : XS} {d : List Cel} {ρ : Env} : seqK y (.retO d ρ) = some (.retO d ρ) := (rfl)
@[simp] theorem seqK_brk {y : XS} {ρ : Env} : seqK y (.brk ρ) = some (.brk ρ) := (rfl)
@[simp] theorem seqK_cnt {y : XS} {ρ : Env} : seqK y (.cnt ρ) = some (.cnt ρ) := (rfl)

structure In62 (j : Int) : Prop where
  lo : -(2 ^ 62) ≤ j
  hi : j < 2 ^ 62
structure In63 (j : Int) : Prop where
  lo : -(2 ^ 63) < j
  hi : j < 2 ^ 63
structure In63e (j : Int) : Prop where
  lo : -(2 ^ 63) ≤ j
  hi : j < 2 ^ 63
theorem in63e_nat {n : Nat} (h : n < 1000000000000) : In63e (n : Int) := ⟨by omega, by omega⟩
structure In64 (j : Int) : Prop where
  lo : -(2 ^ 64) < j
  hi : j < 2 ^ 64
theorem in62_nat {n : Nat} (h : n < 1000000000000) : In62 (n : Int) := ⟨by omega, by omega⟩
structure Dvr (j : Int) : Prop where
  lo : 0 < j
  hi : j < 2 ^ 64
@[simp] theorem in62_l0 : In62 0 = True := eq_true ⟨by decide, by decide⟩
@[simp] theorem in63_l0 : In63 0 = True := eq_true ⟨by decide, by decide⟩
@[simp] theorem in63e_l0 : In63e 0 = True := eq_true ⟨by decide, by decide⟩
@[simp] theorem in64_l0 : In64 0 = True := eq_true ⟨by decide, by decide⟩
@[simp] theorem in62_l1 : In62 1 = True := eq_true ⟨by decide, by decide⟩
@[simp] theorem in63_l1 : In63 1 = True := eq_true ⟨by decide, by decide⟩
@[simp] theorem in63e_l1 : In63e 1 = True := eq_true ⟨by decide, by decide⟩
@[simp] theorem in64_l1 : In64 1 = True := eq_true ⟨by decide, by decide⟩
@[simp] theorem dvr_l1 : Dvr 1 = True := eq_true ⟨by decide, by decide⟩
@[simp] theorem in62_l2 : In62 2 = True := eq_true ⟨by decide, by decide⟩
@[simp] theorem in63_l2 : In63 2 = True := eq_true ⟨by decide, by decide⟩
@[simp] theorem in63e_l2 : In63e 2 = True := eq_true ⟨by decide, by decide⟩
@[simp] theorem in64_l2 : In64 2 = True := eq_true ⟨by decide, by decide⟩
@[simp] theorem dvr_l2 : Dvr 2 = True := eq_true ⟨by decide, by decide⟩
@[simp] theorem in62_l3 : In62 3 = True := eq_true ⟨by decide, by decide⟩
@[simp] theorem in63_l3 : In63 3 = True := eq_true ⟨by decide, by decide⟩
@[simp] theorem in63e_l3 : In63e 3 = True := eq_true ⟨by decide, by decide⟩
@[simp] theorem in64_l3 : In64 3 = True := eq_true ⟨by decide, by decide⟩
@[simp] theorem dvr_l3 : Dvr 3 = True := eq_true ⟨by decide, by decide⟩
@[simp] theorem in62_l4 : In62 4 = True := eq_true ⟨by decide, by decide⟩
@[simp] theorem in63_l4 : In63 4 = True := eq_true ⟨by decide, by decide⟩
@[simp] theorem in63e_l4 : In63e 4 = True := eq_true ⟨by decide, by decide⟩
@[simp] theorem in64_l4 : In64 4 = True := eq_true ⟨by decide, by decide⟩
@[simp] theorem dvr_l4 : Dvr 4 = True := eq_true ⟨by decide, by decide⟩
@[simp] theorem in62_l5 : In62 5 = True := eq_true ⟨by decide, by decide⟩
@[simp] theorem in63_l5 : In63 5 = True := eq_true ⟨by decide, by decide⟩
@[simp] theorem in63e_l5 : In63e 5 = True := eq_true ⟨by decide, by decide⟩
@[simp] theorem in64_l5 : In64 5 = True := eq_true ⟨by decide, by decide⟩
@[simp] theorem dvr_l5 : Dvr 5 = True := eq_true ⟨by decide, by decide⟩
@[simp] theorem in62_l6 : In62 6 = True := eq_true ⟨by decide, by decide⟩
@[simp] theorem in63_l6 : In63 6 = True := eq_true ⟨by decide, by decide⟩
@[simp] theorem in63e_l6 : In63e 6 = True := eq_true ⟨by decide, by decide⟩
@[simp] theorem in64_l6 : In64 6 = True := eq_true ⟨by decide, by decide⟩
@[simp] theorem dvr_l6 : Dvr 6 = True := eq_true ⟨by decide, by decide⟩
@[simp] theorem in62_l7 : In62 7 = True := eq_true ⟨by decide, by decide⟩
@[simp] theorem in63_l7 : In63 7 = True := eq_true ⟨by decide, by decide⟩
@[simp] theorem in63e_l7 : In63e 7 = True := eq_true ⟨by decide, by decide⟩
@[simp] theorem in64_l7 : In64 7 = True := eq_true ⟨by decide, by decide⟩
@[simp] theorem dvr_l7 : Dvr 7 = True := eq_true ⟨by decide, by decide⟩
@[simp] theorem in62_l8 : In62 8 = True := eq_true ⟨by decide, by decide⟩
@[simp] theorem in63_l8 : In63 8 = True := eq_true ⟨by decide, by decide⟩
@[simp] theorem in63e_l8 : In63e 8 = True := eq_true ⟨by decide, by decide⟩
@[simp] theorem in64_l8 : In64 8 = True := eq_true ⟨by decide, by decide⟩
@[simp] theorem dvr_l8 : Dvr 8 = True := eq_true ⟨by decide, by decide⟩
@[simp] theorem in62_l9 : In62 9 = True := eq_true ⟨by decide, by decide⟩
@[simp] theorem in63_l9 : In63 9 = True := eq_true ⟨by decide, by decide⟩
@[simp] theorem in63e_l9 : In63e 9 = True := eq_true ⟨by decide, by decide⟩
@[simp] theorem in64_l9 : In64 9 = True := eq_true ⟨by decide, by decide⟩
@[simp] theorem dvr_l9 : Dvr 9 = True := eq_true ⟨by decide, by decide⟩
@[simp] theorem in62_l10 : In62 10 = True := eq_true ⟨by decide, by decide⟩
@[simp] theorem in63_l10 : In63 10 = True := eq_true ⟨by decide, by decide⟩
@[simp] theorem in63e_l10 : In63e 10 = True := eq_true ⟨by decide, by decide⟩
@[simp] theorem in64_l10 : In64 10 = True := eq_true ⟨by decide, by decide⟩
@[simp] theorem dvr_l10 : Dvr 10 = True := eq_true ⟨by decide, by decide⟩
@[simp] theorem in62_l11 : In62 11 = True := eq_true ⟨by decide, by decide⟩
@[simp] theorem in63_l11 : In63 11 = True := eq_true ⟨by decide, by decide⟩
@[simp] theorem in63e_l11 : In63e 11 = True := eq_true ⟨by decide, by decide⟩
@[simp] theorem in64_l11 : In64 11 = True := eq_true ⟨by decide, by decide⟩
@[simp] theorem dvr_l11 : Dvr 11 = True := eq_true ⟨by decide, by decide⟩
@[simp] theorem in62_l12 : In62 12 = True := eq_true ⟨by decide, by decide⟩
@[simp] theorem in63_l12 : In63 12 = True := eq_true ⟨by decide, by decide⟩
@[simp] theorem in63e_l12 : In63e 12 = True := eq_true ⟨by decide, by decide⟩
@[simp] theorem in64_l12 : In64 12 = True := eq_true ⟨by decide, by decide⟩
@[simp] theorem dvr_l12 : Dvr 12 = True := eq_true ⟨by decide, by decide⟩
@[simp] theorem in62_l13 : In62 13 = True := eq_true ⟨by decide, by decide⟩
@[simp] theorem in63_l13 : In63 13 = True := eq_true ⟨by decide, by decide⟩
@[simp] theorem in63e_l13 : In63e 13 = True := eq_true ⟨by decide, by decide⟩
@[simp] theorem in64_l13 : In64 13 = True := eq_true ⟨by decide, by decide⟩
@[simp] theorem dvr_l13 : Dvr 13 = True := eq_true ⟨by decide, by decide⟩
@[simp] theorem in62_l14 : In62 14 = True := eq_true ⟨by decide, by decide⟩
@[simp] theorem in63_l14 : In63 14 = True := eq_true ⟨by decide, by decide⟩
@[simp] theorem in63e_l14 : In63e 14 = True := eq_true ⟨by decide, by decide⟩
@[simp] theorem in64_l14 : In64 14 = True := eq_true ⟨by decide, by decide⟩
@[simp] theorem dvr_l14 : Dvr 14 = True := eq_true ⟨by decide, by decide⟩
@[simp] theorem in62_l15 : In62 15 = True := eq_true ⟨by decide, by decide⟩
@[simp] theorem in63_l15 : In63 15 = True := eq_true ⟨by decide, by decide⟩
@[simp] theorem in63e_l15 : In63e 15 = True := eq_true ⟨by decide, by decide⟩
@[simp] theorem in64_l15 : In64 15 = True := eq_true ⟨by decide, by decide⟩
@[simp] theorem dvr_l15 : Dvr 15 = True := eq_true ⟨by decide, by decide⟩
@[simp] theorem in62_l16 : In62 16 = True := eq_true ⟨by decide, by decide⟩
@[simp] theorem in63_l16 : In63 16 = True := eq_true ⟨by decide, by decide⟩
@[simp] theorem in63e_l16 : In63e 16 = True := eq_true ⟨by decide, by decide⟩
@[simp] theorem in64_l16 : In64 16 = True := eq_true ⟨by decide, by decide⟩
@[simp] theorem dvr_l16 : Dvr 16 = True := eq_true ⟨by decide, by decide⟩
@[simp] theorem in62_l17 : In62 17 = True := eq_true ⟨by decide, by decide⟩
@[simp] theorem in63_l17 : In63 17 = True := eq_true ⟨by decide, by decide⟩
@[simp] theorem in63e_l17 : In63e 17 = True := eq_true ⟨by decide, by decide⟩
@[simp] theorem in64_l17 : In64 17 = True := eq_true ⟨by decide, by decide⟩
@[simp] theorem dvr_l17 : Dvr 17 = True := eq_true ⟨by decide, by decide⟩
@[simp] theorem in62_l18 : In62 18 = True := eq_true ⟨by decide, by decide⟩
@[simp] theorem in63_l18 : In63 18 = True := eq_true ⟨by decide, by decide⟩
@[simp] theorem in63e_l18 : In63e 18 = True := eq_true ⟨by decide, by decide⟩
@[simp] theorem in64_l18 : In64 18 = True := eq_true ⟨by decide, by decide⟩
@[simp] theorem dvr_l18 : Dvr 18 = True := eq_true ⟨by decide, by decide⟩
@[simp] theorem in62_l19 : In62 19 = True := eq_true ⟨by decide, by decide⟩
@[simp] theorem in63_l19 : In63 19 = True := eq_true ⟨by decide, by decide⟩
@[simp] theorem in63e_l19 : In63e 19 = True := eq_true ⟨by decide, by decide⟩
@[simp] theorem in64_l19 : In64 19 = True := eq_true ⟨by decide, by decide⟩
@[simp] theorem dvr_l19 : Dvr 19 = True := eq_true ⟨by decide, by decide⟩
@[simp] theorem in62_l20 : In62 20 = True := eq_true ⟨by decide, by decide⟩
@[simp] theorem in63_l20 : In63 20 = True := eq_true ⟨by decide, by decide⟩
@[simp] theorem in63e_l20 : In63e 20 = True := eq_true ⟨by decide, by decide⟩
@[simp] theorem in64_l20 : In64 20 = True := eq_true ⟨by decide, by decide⟩
@[simp] theorem dvr_l20 : Dvr 20 = True := eq_true ⟨by decide, by decide⟩
@[simp] theorem in62_l21 : In62 21 = True := eq_true ⟨by decide, by decide⟩
@[simp] theorem in63_l21 : In63 21 = True := eq_true ⟨by decide, by decide⟩
@[simp] theorem in63e_l21 : In63e 21 = True := eq_true ⟨by decide, by decide⟩
@[simp] theorem in64_l21 : In64 21 = True := eq_true ⟨by decide, by decide⟩
@[simp] theorem dvr_l21 : Dvr 21 = True := eq_true ⟨by decide, by decide⟩
@[simp] theorem in62_l22 : In62 22 = True := eq_true ⟨by decide, by decide⟩
@[simp] theorem in63_l22 : In63 22 = True := eq_true ⟨by decide, by decide⟩
@[simp] theorem in63e_l22 : In63e 22 = True := eq_true ⟨by decide, by decide⟩
@[simp] theorem in64_l22 : In64 22 = True := eq_true ⟨by decide, by decide⟩
@[simp] theorem dvr_l22 : Dvr 22 = True := eq_true ⟨by decide, by decide⟩
@[simp] theorem in62_l23 : In62 23 = True := eq_true ⟨by decide, by decide⟩
@[simp] theorem in63_l23 : In63 23 = True := eq_true ⟨by decide, by decide⟩
@[simp] theorem in63e_l23 : In63e 23 = True := eq_true ⟨by decide, by decide⟩
@[simp] theorem in64_l23 : In64 23 = True := eq_true ⟨by decide, by decide⟩
@[simp] theorem dvr_l23 : Dvr 23 = True := eq_true ⟨by decide, by decide⟩
@[simp] theorem in62_l24 : In62 24 = True := eq_true ⟨by decide, by decide⟩
@[simp] theorem in63_l24 : In63 24 = True := eq_true ⟨by decide, by decide⟩
@[simp] theorem in63e_l24 : In63e 24 = True := eq_true ⟨by decide, by decide⟩
@[simp] theorem in64_l24 : In64 24 = True := eq_true ⟨by decide, by decide⟩
@[simp] theorem dvr_l24 : Dvr 24 = True := eq_true ⟨by decide, by decide⟩
@[simp] theorem in62_l25 : In62 25 = True := eq_true ⟨by decide, by decide⟩
@[simp] theorem in63_l25 : In63 25 = True := eq_true ⟨by decide, by decide⟩
@[simp] theorem in63e_l25 : In63e 25 = True := eq_true ⟨by decide, by decide⟩
@[simp] theorem in64_l25 : In64 25 = True := eq_true ⟨by decide, by decide⟩
@[simp] theorem dvr_l25 : Dvr 25 = True := eq_true ⟨by decide, by decide⟩
@[simp] theorem in62_l26 : In62 26 = True := eq_true ⟨by decide, by decide⟩
@[simp] theorem in63_l26 : In63 26 = True := eq_true ⟨by decide, by decide⟩
@[simp] theorem in63e_l26 : In63e 26 = True := eq_true ⟨by decide, by decide⟩
@[simp] theorem in64_l26 : In64 26 = True := eq_true ⟨by decide, by decide⟩
@[simp] theorem dvr_l26 : Dvr 26 = True := eq_true ⟨by decide, by decide⟩
@[simp] theorem in62_l27 : In62 27 = True := eq_true ⟨by decide, by decide⟩
@[simp] theorem in63_l27 : In63 27 = True := eq_true ⟨by decide, by decide⟩
@[simp] theorem in63e_l27 : In63e 27 = True := eq_true ⟨by decide, by decide⟩
@[simp] theorem in64_l27 : In64 27 = True := eq_true ⟨by decide, by decide⟩
@[simp] theorem dvr_l27 : Dvr 27 = True := eq_true ⟨by decide, by decide⟩
@[simp] theorem in62_l28 : In62 28 = True := eq_true ⟨by decide, by decide⟩
@[simp] theorem in63_l28 : In63 28 = True := eq_true ⟨by decide, by decide⟩
@[simp] theorem in63e_l28 : In63e 28 = True := eq_true ⟨by decide, by decide⟩
@[simp] theorem in64_l28 : In64 28 = True := eq_true ⟨by decide, by decide⟩
@[simp] theorem dvr_l28 : Dvr 28 = True := eq_true ⟨by decide, by decide⟩
@[simp] theorem in62_l29 : In62 29 = True := eq_true ⟨by decide, by decide⟩
@[simp] theorem in63_l29 : In63 29 = True := eq_true ⟨by decide, by decide⟩
@[simp] theorem in63e_l29 : In63e 29 = True := eq_true ⟨by decide, by decide⟩
@[simp] theorem in64_l29 : In64 29 = True := eq_true ⟨by decide, by decide⟩
@[simp] theorem dvr_l29 : Dvr 29 = True := eq_true ⟨by decide, by decide⟩
@[simp] theorem in62_l30 : In62 30 = True := eq_true ⟨by decide, by decide⟩
@[simp] theorem in63_l30 : In63 30 = True := eq_true ⟨by decide, by decide⟩
@[simp] theorem in63e_l30 : In63e 30 = True := eq_true ⟨by decide, by decide⟩
@[simp] theorem in64_l30 : In64 30 = True := eq_true ⟨by decide, by decide⟩
@[simp] theorem dvr_l30 : Dvr 30 = True := eq_true ⟨by decide, by decide⟩
@[simp] theorem in62_l31 : In62 31 = True := eq_true ⟨by decide, by decide⟩
@[simp] theorem in63_l31 : In63 31 = True := eq_true ⟨by decide, by decide⟩
@[simp] theorem in63e_l31 : In63e 31 = True := eq_true ⟨by decide, by decide⟩
@[simp] theorem in64_l31 : In64 31 = True := eq_true ⟨by decide, by decide⟩
@[simp] theorem dvr_l31 : Dvr 31 = True := eq_true ⟨by decide, by decide⟩
@[simp] theorem in62_l32 : In62 32 = True := eq_true ⟨by decide, by decide⟩
@[simp] theorem in63_l32 : In63 32 = True := eq_true ⟨by decide, by decide⟩
@[simp] theorem in63e_l32 : In63e 32 = True := eq_true ⟨by decide, by decide⟩
@[simp] theorem in64_l32 : In64 32 = True := eq_true ⟨by decide, by decide⟩
@[simp] theorem dvr_l32 : Dvr 32 = True := eq_true ⟨by decide, by decide⟩
@[simp] theorem in62_l33 : In62 33 = True := eq_true ⟨by decide, by decide⟩
@[simp] theorem in63_l33 : In63 33 = True := eq_true ⟨by decide, by decide⟩
@[simp] theorem in63e_l33 : In63e 33 = True := eq_true ⟨by decide, by decide⟩
@[simp] theorem in64_l33 : In64 33 = True := eq_true ⟨by decide, by decide⟩
@[simp] theorem dvr_l33 : Dvr 33 = True := eq_true ⟨by decide, by decide⟩
@[simp] theorem in62_l34 : In62 34 = True := eq_true ⟨by decide, by decide⟩
@[simp] theorem in63_l34 : In63 34 = True := eq_true ⟨by decide, by decide⟩
@[simp] theorem in63e_l34 : In63e 34 = True := eq_true ⟨by decide, by decide⟩
@[simp] theorem in64_l34 : In64 34 = True := eq_true ⟨by decide, by decide⟩
@[simp] theorem dvr_l34 : Dvr 34 = True := eq_true ⟨by decide, by decide⟩
@[simp] theorem in62_l35 : In62 35 = True := eq_true ⟨by decide, by decide⟩
@[simp] theorem in63_l35 : In63 35 = True := eq_true ⟨by decide, by decide⟩
@[simp] theorem in63e_l35 : In63e 35 = True := eq_true ⟨by decide, by decide⟩
@[simp] theorem in64_l35 : In64 35 = True := eq_true ⟨by decide, by decide⟩
@[simp] theorem dvr_l35 : Dvr 35 = True := eq_true ⟨by decide, by decide⟩
@[simp] theorem in62_l36 : In62 36 = True := eq_true ⟨by decide, by decide⟩
@[simp] theorem in63_l36 : In63 36 = True := eq_true ⟨by decide, by decide⟩
@[simp] theorem in63e_l36 : In63e 36 = True := eq_true ⟨by decide, by decide⟩
@[simp] theorem in64_l36 : In64 36 = True := eq_true ⟨by decide, by decide⟩
@[simp] theorem dvr_l36 : Dvr 36 = True := eq_true ⟨by decide, by decide⟩
@[simp] theorem in62_l37 : In62 37 = True := eq_true ⟨by decide, by decide⟩
@[simp] theorem in63_l37 : In63 37 = True := eq_true ⟨by decide, by decide⟩
@[simp] theorem in63e_l37 : In63e 37 = True := eq_true ⟨by decide, by decide⟩
@[simp] theorem in64_l37 : In64 37 = True := eq_true ⟨by decide, by decide⟩
@[simp] theorem dvr_l37 : Dvr 37 = True := eq_true ⟨by decide, by decide⟩
@[simp] theorem in62_l38 : In62 38 = True := eq_true ⟨by decide, by decide⟩
@[simp] theorem in63_l38 : In63 38 = True := eq_true ⟨by decide, by decide⟩
@[simp] theorem in63e_l38 : In63e 38 = True := eq_true ⟨by decide, by decide⟩
@[simp] theorem in64_l38 : In64 38 = True := eq_true ⟨by decide, by decide⟩
@[simp] theorem dvr_l38 : Dvr 38 = True := eq_true ⟨by decide, by decide⟩
@[simp] theorem in62_l39 : In62 39 = True := eq_true ⟨by decide, by decide⟩
@[simp] theorem in63_l39 : In63 39 = True := eq_true ⟨by decide, by decide⟩
@[simp] theorem in63e_l39 : In63e 39 = True := eq_true ⟨by decide, by decide⟩
@[simp] theorem in64_l39 : In64 39 = True := eq_true ⟨by decide, by decide⟩
@[simp] theorem dvr_l39 : Dvr 39 = True := eq_true ⟨by decide, by decide⟩
@[simp] theorem in62_l40 : In62 40 = True := eq_true ⟨by decide, by decide⟩
@[simp] theorem in63_l40 : In63 40 = True := eq_true ⟨by decide, by decide⟩
@[simp] theorem in63e_l40 : In63e 40 = True := eq_true ⟨by decide, by decide⟩
@[simp] theorem in64_l40 : In64 40 = True := eq_true ⟨by decide, by decide⟩
@[simp] theorem dvr_l40 : Dvr 40 = True := eq_true ⟨by decide, by decide⟩
@[simp] theorem in62_l41 : In62 41 = True := eq_true ⟨by decide, by decide⟩
@[simp] theorem in63_l41 : In63 41 = True := eq_true ⟨by decide, by decide⟩
@[simp] theorem in63e_l41 : In63e 41 = True := eq_true ⟨by decide, by decide⟩
@[simp] theorem in64_l41 : In64 41 = True := eq_true ⟨by decide, by decide⟩
@[simp] theorem dvr_l41 : Dvr 41 = True := eq_true ⟨by decide, by decide⟩
@[simp] theorem in62_l42 : In62 42 = True := eq_true ⟨by decide, by decide⟩
@[simp] theorem in63_l42 : In63 42 = True := eq_true ⟨by decide, by decide⟩
@[simp] theorem in63e_l42 : In63e 42 = True := eq_true ⟨by decide, by decide⟩
@[simp] theorem in64_l42 : In64 42 = True := eq_true ⟨by decide, by decide⟩
@[simp] theorem dvr_l42 : Dvr 42 = True := eq_true ⟨by decide, by decide⟩
@[simp] theorem in62_l43 : In62 43 = True := eq_true ⟨by decide, by decide⟩
@[simp] theorem in63_l43 : In63 43 = True := eq_true ⟨by decide, by decide⟩
@[simp] theorem in63e_l43 : In63e 43 = True := eq_true ⟨by decide, by decide⟩
@[simp] theorem in64_l43 : In64 43 = True := eq_true ⟨by decide, by decide⟩
@[simp] theorem dvr_l43 : Dvr 43 = True := eq_true ⟨by decide, by decide⟩
@[simp] theorem in62_l44 : In62 44 = True := eq_true ⟨by decide, by decide⟩
@[simp] theorem in63_l44 : In63 44 = True := eq_true ⟨by decide, by decide⟩
@[simp] theorem in63e_l44 : In63e 44 = True := eq_true ⟨by decide, by decide⟩
@[simp] theorem in64_l44 : In64 44 = True := eq_true ⟨by decide, by decide⟩
@[simp] theorem dvr_l44 : Dvr 44 = True := eq_true ⟨by decide, by decide⟩
@[simp] theorem in62_l45 : In62 45 = True := eq_true ⟨by decide, by decide⟩
@[simp] theorem in63_l45 : In63 45 = True := eq_true ⟨by decide, by decide⟩
@[simp] theorem in63e_l45 : In63e 45 = True := eq_true ⟨by decide, by decide⟩
@[simp] theorem in64_l45 : In64 45 = True := eq_true ⟨by decide, by decide⟩
@[simp] theorem dvr_l45 : Dvr 45 = True := eq_true ⟨by decide, by decide⟩
@[simp] theorem in62_l46 : In62 46 = True := eq_true ⟨by decide, by decide⟩
@[simp] theorem in63_l46 : In63 46 = True := eq_true ⟨by decide, by decide⟩
@[simp] theorem in63e_l46 : In63e 46 = True := eq_true ⟨by decide, by decide⟩
@[simp] theorem in64_l46 : In64 46 = True := eq_true ⟨by decide, by decide⟩
@[simp] theorem dvr_l46 : Dvr 46 = True := eq_true ⟨by decide, by decide⟩
@[simp] theorem in62_l47 : In62 47 = True := eq_true ⟨by decide, by decide⟩
@[simp] theorem in63_l47 : In63 47 = True := eq_true ⟨by decide, by decide⟩
@[simp] theorem in63e_l47 : In63e 47 = True := eq_true ⟨by decide, by decide⟩
@[simp] theorem in64_l47 : In64 47 = True := eq_true ⟨by decide, by decide⟩
@[simp] theorem dvr_l47 : Dvr 47 = True := eq_true ⟨by decide, by decide⟩
@[simp] theorem in62_l48 : In62 48 = True := eq_true ⟨by decide, by decide⟩
@[simp] theorem in63_l48 : In63 48 = True := eq_true ⟨by decide, by decide⟩
@[simp] theorem in63e_l48 : In63e 48 = True := eq_true ⟨by decide, by decide⟩
@[simp] theorem in64_l48 : In64 48 = True := eq_true ⟨by decide, by decide⟩
@[simp] theorem dvr_l48 : Dvr 48 = True := eq_true ⟨by decide, by decide⟩
@[simp] theorem in62_l49 : In62 49 = True := eq_true ⟨by decide, by decide⟩
@[simp] theorem in63_l49 : In63 49 = True := eq_true ⟨by decide, by decide⟩
@[simp] theorem in63e_l49 : In63e 49 = True := eq_true ⟨by decide, by decide⟩
@[simp] theorem in64_l49 : In64 49 = True := eq_true ⟨by decide, by decide⟩
@[simp] theorem dvr_l49 : Dvr 49 = True := eq_true ⟨by decide, by decide⟩
@[simp] theorem in62_l50 : In62 50 = True := eq_true ⟨by decide, by decide⟩
@[simp] theorem in63_l50 : In63 50 = True := eq_true ⟨by decide, by decide⟩
@[simp] theorem in63e_l50 : In63e 50 = True := eq_true ⟨by decide, by decide⟩
@[simp] theorem in64_l50 : In64 50 = True := eq_true ⟨by decide, by decide⟩
@[simp] theorem dvr_l50 : Dvr 50 = True := eq_true ⟨by decide, by decide⟩
@[simp] theorem in62_l51 : In62 51 = True := eq_true ⟨by decide, by decide⟩
@[simp] theorem in63_l51 : In63 51 = True := eq_true ⟨by decide, by decide⟩
@[simp] theorem in63e_l51 : In63e 51 = True := eq_true ⟨by decide, by decide⟩
@[simp] theorem in64_l51 : In64 51 = True := eq_true ⟨by decide, by decide⟩
@[simp] theorem dvr_l51 : Dvr 51 = True := eq_true ⟨by decide, by decide⟩
@[simp] theorem in62_l52 : In62 52 = True := eq_true ⟨by decide, by decide⟩
@[simp] theorem in63_l52 : In63 52 = True := eq_true ⟨by decide, by decide⟩
@[simp] theorem in63e_l52 : In63e 52 = True := eq_true ⟨by decide, by decide⟩
@[simp] theorem in64_l52 : In64 52 = True := eq_true ⟨by decide, by decide⟩
@[simp] theorem dvr_l52 : Dvr 52 = True := eq_true ⟨by decide, by decide⟩
@[simp] theorem in62_l53 : In62 53 = True := eq_true ⟨by decide, by decide⟩
@[simp] theorem in63_l53 : In63 53 = True := eq_true ⟨by decide, by decide⟩
@[simp] theorem in63e_l53 : In63e 53 = True := eq_true ⟨by decide, by decide⟩
@[simp] theorem in64_l53 : In64 53 = True := eq_true ⟨by decide, by decide⟩
@[simp] theorem dvr_l53 : Dvr 53 = True := eq_true ⟨by decide, by decide⟩
@[simp] theorem in62_l54 : In62 54 = True := eq_true ⟨by decide, by decide⟩
@[simp] theorem in63_l54 : In63 54 = True := eq_true ⟨by decide, by decide⟩
@[simp] theorem in63e_l54 : In63e 54 = True := eq_true ⟨by decide, by decide⟩
@[simp] theorem in64_l54 : In64 54 = True := eq_true ⟨by decide, by decide⟩
@[simp] theorem dvr_l54 : Dvr 54 = True := eq_true ⟨by decide, by decide⟩
@[simp] theorem in62_l55 : In62 55 = True := eq_true ⟨by decide, by decide⟩
@[simp] theorem in63_l55 : In63 55 = True := eq_true ⟨by decide, by decide⟩
@[simp] theorem in63e_l55 : In63e 55 = True := eq_true ⟨by decide, by decide⟩
@[simp] theorem in64_l55 : In64 55 = True := eq_true ⟨by decide, by decide⟩
@[simp] theorem dvr_l55 : Dvr 55 = True := eq_true ⟨by decide, by decide⟩
@[simp] theorem in62_l56 : In62 56 = True := eq_true ⟨by decide, by decide⟩
@[simp] theorem in63_l56 : In63 56 = True := eq_true ⟨by decide, by decide⟩
@[simp] theorem in63e_l56 : In63e 56 = True := eq_true ⟨by decide, by decide⟩
@[simp] theorem in64_l56 : In64 56 = True := eq_true ⟨by decide, by decide⟩
@[simp] theorem dvr_l56 : Dvr 56 = True := eq_true ⟨by decide, by decide⟩
@[simp] theorem in62_l57 : In62 57 = True := eq_true ⟨by decide, by decide⟩
@[simp] theorem in63_l57 : In63 57 = True := eq_true ⟨by decide, by decide⟩
@[simp] theorem in63e_l57 : In63e 57 = True := eq_true ⟨by decide, by decide⟩
@[simp] theorem in64_l57 : In64 57 = True := eq_true ⟨by decide, by decide⟩
@[simp] theorem dvr_l57 : Dvr 57 = True := eq_true ⟨by decide, by decide⟩
@[simp] theorem in62_l58 : In62 58 = True := eq_true ⟨by decide, by decide⟩
@[simp] theorem in63_l58 : In63 58 = True := eq_true ⟨by decide, by decide⟩
@[simp] theorem in63e_l58 : In63e 58 = True := eq_true ⟨by decide, by decide⟩
@[simp] theorem in64_l58 : In64 58 = True := eq_true ⟨by decide, by decide⟩
@[simp] theorem dvr_l58 : Dvr 58 = True := eq_true ⟨by decide, by decide⟩
@[simp] theorem in62_l59 : In62 59 = True := eq_true ⟨by decide, by decide⟩
@[simp] theorem in63_l59 : In63 59 = True := eq_true ⟨by decide, by decide⟩
@[simp] theorem in63e_l59 : In63e 59 = True := eq_true ⟨by decide, by decide⟩
@[simp] theorem in64_l59 : In64 59 = True := eq_true ⟨by decide, by decide⟩
@[simp] theorem dvr_l59 : Dvr 59 = True := eq_true ⟨by decide, by decide⟩
@[simp] theorem in62_l60 : In62 60 = True := eq_true ⟨by decide, by decide⟩
@[simp] theorem in63_l60 : In63 60 = True := eq_true ⟨by decide, by decide⟩
@[simp] theorem in63e_l60 : In63e 60 = True := eq_true ⟨by decide, by decide⟩
@[simp] theorem in64_l60 : In64 60 = True := eq_true ⟨by decide, by decide⟩
@[simp] theorem dvr_l60 : Dvr 60 = True := eq_true ⟨by decide, by decide⟩
@[simp] theorem in62_l61 : In62 61 = True := eq_true ⟨by decide, by decide⟩
@[simp] theorem in63_l61 : In63 61 = True := eq_true ⟨by decide, by decide⟩
@[simp] theorem in63e_l61 : In63e 61 = True := eq_true ⟨by decide, by decide⟩
@[simp] theorem in64_l61 : In64 61 = True := eq_true ⟨by decide, by decide⟩
@[simp] theorem dvr_l61 : Dvr 61 = True := eq_true ⟨by decide, by decide⟩
@[simp] theorem in62_l62 : In62 62 = True := eq_true ⟨by decide, by decide⟩
@[simp] theorem in63_l62 : In63 62 = True := eq_true ⟨by decide, by decide⟩
@[simp] theorem in63e_l62 : In63e 62 = True := eq_true ⟨by decide, by decide⟩
@[simp] theorem in64_l62 : In64 62 = True := eq_true ⟨by decide, by decide⟩
@[simp] theorem dvr_l62 : Dvr 62 = True := eq_true ⟨by decide, by decide⟩
@[simp] theorem in62_l63 : In62 63 = True := eq_true ⟨by decide, by decide⟩
@[simp] theorem in63_l63 : In63 63 = True := eq_true ⟨by decide, by decide⟩
@[simp] theorem in63e_l63 : In63e 63 = True := eq_true ⟨by decide, by decide⟩
@[simp] theorem in64_l63 : In64 63 = True := eq_true ⟨by decide, by decide⟩
@[simp] theorem dvr_l63 : Dvr 63 = True := eq_true ⟨by decide, by decide⟩
@[simp] theorem in62_l64 : In62 64 = True := eq_true ⟨by decide, by decide⟩
@[simp] theorem in63_l64 : In63 64 = True := eq_true ⟨by decide, by decide⟩
@[simp] theorem in63e_l64 : In63e 64 = True := eq_true ⟨by decide, by decide⟩
@[simp] theorem in64_l64 : In64 64 = True := eq_true ⟨by decide, by decide⟩
@[simp] theorem dvr_l64 : Dvr 64 = True := eq_true ⟨by decide, by decide⟩
@[simp] theorem in62_l70 : In62 70 = True := eq_true ⟨by decide, by decide⟩
@[simp] theorem in63_l70 : In63 70 = True := eq_true ⟨by decide, by decide⟩
@[simp] theorem in63e_l70 : In63e 70 = True := eq_true ⟨by decide, by decide⟩
@[simp] theorem in64_l70 : In64 70 = True := eq_true ⟨by decide, by decide⟩
@[simp] theorem dvr_l70 : Dvr 70 = True := eq_true ⟨by decide, by decide⟩
@[simp] theorem in62_l200 : In62 200 = True := eq_true ⟨by decide, by decide⟩
@[simp] theorem in63_l200 : In63 200 = True := eq_true ⟨by decide, by decide⟩
@[simp] theorem in63e_l200 : In63e 200 = True := eq_true ⟨by decide, by decide⟩
@[simp] theorem in64_l200 : In64 200 = True := eq_true ⟨by decide, by decide⟩
@[simp] theorem dvr_l200 : Dvr 200 = True := eq_true ⟨by decide, by decide⟩
@[simp] theorem in62_l300 : In62 300 = True := eq_true ⟨by decide, by decide⟩
@[simp] theorem in63_l300 : In63 300 = True := eq_true ⟨by decide, by decide⟩
@[simp] theorem in63e_l300 : In63e 300 = True := eq_true ⟨by decide, by decide⟩
@[simp] theorem in64_l300 : In64 300 = True := eq_true ⟨by decide, by decide⟩
@[simp] theorem dvr_l300 : Dvr 300 = True := eq_true ⟨by decide, by decide⟩
@[simp] theorem in62_l400 : In62 400 = True := eq_true ⟨by decide, by decide⟩
@[simp] theorem in63_l400 : In63 400 = True := eq_true ⟨by decide, by decide⟩
@[simp] theorem in63e_l400 : In63e 400 = True := eq_true ⟨by decide, by decide⟩
@[simp] theorem in64_l400 : In64 400 = True := eq_true ⟨by decide, by decide⟩
@[simp] theorem dvr_l400 : Dvr 400 = True := eq_true ⟨by decide, by decide⟩
@[simp] theorem in62_l600 : In62 600 = True := eq_true ⟨by decide, by decide⟩
@[simp] theorem in63_l600 : In63 600 = True := eq_true ⟨by decide, by decide⟩
@[simp] theorem in63e_l600 : In63e 600 = True := eq_true ⟨by decide, by decide⟩
@[simp] theorem in64_l600 : In64 600 = True := eq_true ⟨by decide, by decide⟩
@[simp] theorem dvr_l600 : Dvr 600 = True := eq_true ⟨by decide, by decide⟩
@[simp] theorem in62_l700 : In62 700 = True := eq_true ⟨by decide, by decide⟩
@[simp] theorem in63_l700 : In63 700 = True := eq_true ⟨by decide, by decide⟩
@[simp] theorem in63e_l700 : In63e 700 = True := eq_true ⟨by decide, by decide⟩
@[simp] theorem in64_l700 : In64 700 = True := eq_true ⟨by decide, by decide⟩
@[simp] theorem dvr_l700 : Dvr 700 = True := eq_true ⟨by decide, by decide⟩
@[simp] theorem in62_l729 : In62 729 = True := eq_true ⟨by decide, by decide⟩
@[simp] theorem in63_l729 : In63 729 = True := eq_true ⟨by decide, by decide⟩
@[simp] theorem in63e_l729 : In63e 729 = True := eq_true ⟨by decide, by decide⟩
@[simp] theorem in64_l729 : In64 729 = True := eq_true ⟨by decide, by decide⟩
@[simp] theorem dvr_l729 : Dvr 729 = True := eq_true ⟨by decide, by decide⟩
@[simp] theorem in62_l924 : In62 924 = True := eq_true ⟨by decide, by decide⟩
@[simp] theorem in63_l924 : In63 924 = True := eq_true ⟨by decide, by decide⟩
@[simp] theorem in63e_l924 : In63e 924 = True := eq_true ⟨by decide, by decide⟩
@[simp] theorem in64_l924 : In64 924 = True := eq_true ⟨by decide, by decide⟩
@[simp] theorem dvr_l924 : Dvr 924 = True := eq_true ⟨by decide, by decide⟩
@[simp] theorem in62_l1000 : In62 1000 = True := eq_true ⟨by decide, by decide⟩
@[simp] theorem in63_l1000 : In63 1000 = True := eq_true ⟨by decide, by decide⟩
@[simp] theorem in63e_l1000 : In63e 1000 = True := eq_true ⟨by decide, by decide⟩
@[simp] theorem in64_l1000 : In64 1000 = True := eq_true ⟨by decide, by decide⟩
@[simp] theorem dvr_l1000 : Dvr 1000 = True := eq_true ⟨by decide, by decide⟩
@[simp] theorem in62_l3000 : In62 3000 = True := eq_true ⟨by decide, by decide⟩
@[simp] theorem in63_l3000 : In63 3000 = True := eq_true ⟨by decide, by decide⟩
@[simp] theorem in63e_l3000 : In63e 3000 = True := eq_true ⟨by decide, by decide⟩
@[simp] theorem in64_l3000 : In64 3000 = True := eq_true ⟨by decide, by decide⟩
@[simp] theorem dvr_l3000 : Dvr 3000 = True := eq_true ⟨by decide, by decide⟩
@[simp] theorem in62_l4096 : In62 4096 = True := eq_true ⟨by decide, by decide⟩
@[simp] theorem in63_l4096 : In63 4096 = True := eq_true ⟨by decide, by decide⟩
@[simp] theorem in63e_l4096 : In63e 4096 = True := eq_true ⟨by decide, by decide⟩
@[simp] theorem in64_l4096 : In64 4096 = True := eq_true ⟨by decide, by decide⟩
@[simp] theorem dvr_l4096 : Dvr 4096 = True := eq_true ⟨by decide, by decide⟩
@[simp] theorem in62_l7919 : In62 7919 = True := eq_true ⟨by decide, by decide⟩
@[simp] theorem in63_l7919 : In63 7919 = True := eq_true ⟨by decide, by decide⟩
@[simp] theorem in63e_l7919 : In63e 7919 = True := eq_true ⟨by decide, by decide⟩
@[simp] theorem in64_l7919 : In64 7919 = True := eq_true ⟨by decide, by decide⟩
@[simp] theorem dvr_l7919 : Dvr 7919 = True := eq_true ⟨by decide, by decide⟩
@[simp] theorem in62_l10007 : In62 10007 = True := eq_true ⟨by decide, by decide⟩
@[simp] theorem in63_l10007 : In63 10007 = True := eq_true ⟨by decide, by decide⟩
@[simp] theorem in63e_l10007 : In63e 10007 = True := eq_true ⟨by decide, by decide⟩
@[simp] theorem in64_l10007 : In64 10007 = True := eq_true ⟨by decide, by decide⟩
@[simp] theorem dvr_l10007 : Dvr 10007 = True := eq_true ⟨by decide, by decide⟩
@[simp] theorem in62_l30011 : In62 30011 = True := eq_true ⟨by decide, by decide⟩
@[simp] theorem in63_l30011 : In63 30011 = True := eq_true ⟨by decide, by decide⟩
@[simp] theorem in63e_l30011 : In63e 30011 = True := eq_true ⟨by decide, by decide⟩
@[simp] theorem in64_l30011 : In64 30011 = True := eq_true ⟨by decide, by decide⟩
@[simp] theorem dvr_l30011 : Dvr 30011 = True := eq_true ⟨by decide, by decide⟩
@[simp] theorem in62_l40503 : In62 40503 = True := eq_true ⟨by decide, by decide⟩
@[simp] theorem in63_l40503 : In63 40503 = True := eq_true ⟨by decide, by decide⟩
@[simp] theorem in63e_l40503 : In63e 40503 = True := eq_true ⟨by decide, by decide⟩
@[simp] theorem in64_l40503 : In64 40503 = True := eq_true ⟨by decide, by decide⟩
@[simp] theorem dvr_l40503 : Dvr 40503 = True := eq_true ⟨by decide, by decide⟩
@[simp] theorem in62_l40692 : In62 40692 = True := eq_true ⟨by decide, by decide⟩
@[simp] theorem in63_l40692 : In63 40692 = True := eq_true ⟨by decide, by decide⟩
@[simp] theorem in63e_l40692 : In63e 40692 = True := eq_true ⟨by decide, by decide⟩
@[simp] theorem in64_l40692 : In64 40692 = True := eq_true ⟨by decide, by decide⟩
@[simp] theorem dvr_l40692 : Dvr 40692 = True := eq_true ⟨by decide, by decide⟩
@[simp] theorem in62_l48271 : In62 48271 = True := eq_true ⟨by decide, by decide⟩
@[simp] theorem in63_l48271 : In63 48271 = True := eq_true ⟨by decide, by decide⟩
@[simp] theorem in63e_l48271 : In63e 48271 = True := eq_true ⟨by decide, by decide⟩
@[simp] theorem in64_l48271 : In64 48271 = True := eq_true ⟨by decide, by decide⟩
@[simp] theorem dvr_l48271 : Dvr 48271 = True := eq_true ⟨by decide, by decide⟩
@[simp] theorem in62_l69621 : In62 69621 = True := eq_true ⟨by decide, by decide⟩
@[simp] theorem in63_l69621 : In63 69621 = True := eq_true ⟨by decide, by decide⟩
@[simp] theorem in63e_l69621 : In63e 69621 = True := eq_true ⟨by decide, by decide⟩
@[simp] theorem in64_l69621 : In64 69621 = True := eq_true ⟨by decide, by decide⟩
@[simp] theorem dvr_l69621 : Dvr 69621 = True := eq_true ⟨by decide, by decide⟩
@[simp] theorem in62_l1000000 : In62 1000000 = True := eq_true ⟨by decide, by decide⟩
@[simp] theorem in63_l1000000 : In63 1000000 = True := eq_true ⟨by decide, by decide⟩
@[simp] theorem in63e_l1000000 : In63e 1000000 = True := eq_true ⟨by decide, by decide⟩
@[simp] theorem in64_l1000000 : In64 1000000 = True := eq_true ⟨by decide, by decide⟩
@[simp] theorem dvr_l1000000 : Dvr 1000000 = True := eq_true ⟨by decide, by decide⟩
@[simp] theorem in62_l1000003 : In62 1000003 = True := eq_true ⟨by decide, by decide⟩
@[simp] theorem in63_l1000003 : In63 1000003 = True := eq_true ⟨by decide, by decide⟩
@[simp] theorem in63e_l1000003 : In63e 1000003 = True := eq_true ⟨by decide, by decide⟩
@[simp] theorem in64_l1000003 : In64 1000003 = True := eq_true ⟨by decide, by decide⟩
@[simp] theorem dvr_l1000003 : Dvr 1000003 = True := eq_true ⟨by decide, by decide⟩
@[simp] theorem in62_l2147483587 : In62 2147483587 = True := eq_true ⟨by decide, by decide⟩
@[simp] theorem in63_l2147483587 : In63 2147483587 = True := eq_true ⟨by decide, by decide⟩
@[simp] theorem in63e_l2147483587 : In63e 2147483587 = True := eq_true ⟨by decide, by decide⟩
@[simp] theorem in64_l2147483587 : In64 2147483587 = True := eq_true ⟨by decide, by decide⟩
@[simp] theorem dvr_l2147483587 : Dvr 2147483587 = True := eq_true ⟨by decide, by decide⟩
@[simp] theorem in62_l2147483629 : In62 2147483629 = True := eq_true ⟨by decide, by decide⟩
@[simp] theorem in63_l2147483629 : In63 2147483629 = True := eq_true ⟨by decide, by decide⟩
@[simp] theorem in63e_l2147483629 : In63e 2147483629 = True := eq_true ⟨by decide, by decide⟩
@[simp] theorem in64_l2147483629 : In64 2147483629 = True := eq_true ⟨by decide, by decide⟩
@[simp] theorem dvr_l2147483629 : Dvr 2147483629 = True := eq_true ⟨by decide, by decide⟩
@[simp] theorem in62_l2147483647 : In62 2147483647 = True := eq_true ⟨by decide, by decide⟩
@[simp] theorem in63_l2147483647 : In63 2147483647 = True := eq_true ⟨by decide, by decide⟩
@[simp] theorem in63e_l2147483647 : In63e 2147483647 = True := eq_true ⟨by decide, by decide⟩
@[simp] theorem in64_l2147483647 : In64 2147483647 = True := eq_true ⟨by decide, by decide⟩
@[simp] theorem dvr_l2147483647 : Dvr 2147483647 = True := eq_true ⟨by decide, by decide⟩
@[simp] theorem in62_l100000000000 : In62 100000000000 = True := eq_true ⟨by decide, by decide⟩
@[simp] theorem in63_l100000000000 : In63 100000000000 = True := eq_true ⟨by decide, by decide⟩
@[simp] theorem in63e_l100000000000 : In63e 100000000000 = True := eq_true ⟨by decide, by decide⟩
@[simp] theorem in64_l100000000000 : In64 100000000000 = True := eq_true ⟨by decide, by decide⟩
@[simp] theorem dvr_l100000000000 : Dvr 100000000000 = True := eq_true ⟨by decide, by decide⟩
@[simp] theorem in62_l1000000000000 : In62 1000000000000 = True := eq_true ⟨by decide, by decide⟩
@[simp] theorem in63_l1000000000000 : In63 1000000000000 = True := eq_true ⟨by decide, by decide⟩
@[simp] theorem in63e_l1000000000000 : In63e 1000000000000 = True := eq_true ⟨by decide, by decide⟩
@[simp] theorem in64_l1000000000000 : In64 1000000000000 = True := eq_true ⟨by decide, by decide⟩
@[simp] theorem dvr_l1000000000000 : Dvr 1000000000000 = True := eq_true ⟨by decide, by decide⟩
@[simp] theorem in62_l10000000000000 : In62 10000000000000 = True := eq_true ⟨by decide, by decide⟩
@[simp] theorem in63_l10000000000000 : In63 10000000000000 = True := eq_true ⟨by decide, by decide⟩
@[simp] theorem in63e_l10000000000000 : In63e 10000000000000 = True := eq_true ⟨by decide, by decide⟩
@[simp] theorem in64_l10000000000000 : In64 10000000000000 = True := eq_true ⟨by decide, by decide⟩
@[simp] theorem dvr_l10000000000000 : Dvr 10000000000000 = True := eq_true ⟨by decide, by decide⟩
@[simp] theorem in62_l100000000000000 : In62 100000000000000 = True := eq_true ⟨by decide, by decide⟩
@[simp] theorem in63_l100000000000000 : In63 100000000000000 = True := eq_true ⟨by decide, by decide⟩
@[simp] theorem in63e_l100000000000000 : In63e 100000000000000 = True := eq_true ⟨by decide, by decide⟩
@[simp] theorem in64_l100000000000000 : In64 100000000000000 = True := eq_true ⟨by decide, by decide⟩
@[simp] theorem dvr_l100000000000000 : Dvr 100000000000000 = True := eq_true ⟨by decide, by decide⟩
@[simp] theorem in62_l1000000000000000 : In62 1000000000000000 = True := eq_true ⟨by decide, by decide⟩
@[simp] theorem in63_l1000000000000000 : In63 1000000000000000 = True := eq_true ⟨by decide, by decide⟩
@[simp] theorem in63e_l1000000000000000 : In63e 1000000000000000 = True := eq_true ⟨by decide, by decide⟩
@[simp] theorem in64_l1000000000000000 : In64 1000000000000000 = True := eq_true ⟨by decide, by decide⟩
@[simp] theorem dvr_l1000000000000000 : Dvr 1000000000000000 = True := eq_true ⟨by decide, by decide⟩
@[simp] theorem in62_l1000000000000000000 : In62 1000000000000000000 = True := eq_true ⟨by decide, by decide⟩
@[simp] theorem in63_l1000000000000000000 : In63 1000000000000000000 = True := eq_true ⟨by decide, by decide⟩
@[simp] theorem in63e_l1000000000000000000 : In63e 1000000000000000000 = True := eq_true ⟨by decide, by decide⟩
@[simp] theorem in64_l1000000000000000000 : In64 1000000000000000000 = True := eq_true ⟨by decide, by decide⟩
@[simp] theorem dvr_l1000000000000000000 : Dvr 1000000000000000000 = True := eq_true ⟨by decide, by decide⟩
def dats (ds : List PD) : List Cel := ds.map Cel.dat
@[simp] theorem dats_nil : dats [] = [] := (rfl)
@[simp] theorem dats_pd {ds : List PD} : (dats ds).map Cel.pd = ds := by unfold dats; rw [List.map_map, show Cel.pd ∘ Cel.dat = id from rfl, List.map_id]
@[simp] theorem dats_len {ds : List PD} : (dats ds).length = ds.length := by unfold dats; exact List.length_map ..
@[simp] theorem dats_app {ds es : List PD} : dats ds ++ dats es = dats (ds ++ es) := by unfold dats; exact List.map_append.symm
@[simp] theorem dats_app1 {ds : List PD} {d : PD} : dats ds ++ [Cel.dat d] = dats (ds ++ [d]) := by unfold dats; rw [List.map_append]; rfl
@[simp] theorem dats_set {ds : List PD} {d : PD} {i : Nat} : (dats ds).set i (Cel.dat d) = dats (ds.set i d) := by unfold dats; rw [List.map_set]
@[simp] theorem dats_erase {ds : List PD} {i : Nat} : (dats ds).eraseIdx i = dats (ds.eraseIdx i) := by
  unfold dats
  induction ds generalizing i with
  | nil => rfl
  | cons x xs ih => cases i with
    | zero => rfl
    | succ i => simp [ih]
@[simp] theorem dats_take {ds : List PD} {i : Nat} : (dats ds).take i = dats (ds.take i) := by unfold dats; rw [List.map_take]
@[simp] theorem dats_drop {ds : List PD} {i : Nat} : (dats ds).drop i = dats (ds.drop i) := by unfold dats; rw [List.map_drop]
theorem datAt_dats {ds : List PD} {i : Nat} : datAt (dats ds) i = ds[i]? := by
  unfold datAt dats
  rw [List.getElem?_map]
  cases ds[i]? <;> rfl
theorem datAt_at {ds : List PD} {i : Nat} (h : i < ds.length) : datAt (dats ds) i = some ds[i] := by rw [datAt_dats, List.getElem?_eq_getElem h]
abbrev natD (n : Nat) : PD := .int (n : Nat)
abbrev kk0 : KK := ⟨[]⟩
section
variable {ρ : Env} {v : VE}
@[simp] theorem q_mk_nil : mk [] = [] := (rfl)
@[simp] theorem q_mk_cons {s : Sl} {r : Env} : mk (s :: r) = s.mk :: mk r := (rfl)
@[simp] theorem q_vw_nil : vw [] = [] := (rfl)
@[simp] theorem q_vw_cons {s : Sl} {r : Env} : vw (s :: r) = s.vw :: vw r := (rfl)
@[simp] theorem q_mk_dat {d : PD} : (Sl.dat d).mk = some d := (rfl)
@[simp] theorem q_mk_un : Sl.un.mk = none := (rfl)
@[simp] theorem q_mk_own {cs : List Cel} : (Sl.own cs).mk = none := (rfl)
@[simp] theorem q_vw_dat {d : PD} : (Sl.dat d).vw = some d := (rfl)
@[simp] theorem q_vw_un : Sl.un.vw = none := (rfl)
@[simp] theorem q_vw_own {cs : List Cel} : (Sl.own cs).vw = some (.list (cs.map Cel.pd)) := (rfl)
@[simp] theorem q_pd_dat {d : PD} : (Cel.dat d).pd = d := (rfl)
@[simp] theorem q_pd_sub {ds : List PD} : (Cel.sub ds).pd = .list ds := (rfl)
@[simp] theorem q_var {i : Nat} : xVar i v = (v[i]?).bind id := (rfl)
@[simp] theorem q_c {d : PD} : xC d v = some d := (rfl)
@[simp] theorem q_op {f : PD → PD → Option PD} {a b : XE} : xOp f a b v = (a v).bind fun x => (b v).bind fun y => f x y := (rfl)
@[simp] theorem q_un {f : PD → Option PD} {a : XE} : xUn f a v = (a v).bind f := (rfl)
@[simp] theorem q_nil : xNil v = some [] := (rfl)
@[simp] theorem q_cons {a : XE} {as : XA} : xCons a as v = (a v).bind fun x => (as v).bind fun xs => some (x :: xs) := (rfl)
@[simp] theorem q_tup {as : XA} : xTup as v = (as v).bind fun ds => grd (ds.length ≤ 100000) (some (.tuple ds)) := by
  unfold xTup
  simp only [grd_ite]
@[simp] theorem q_lst {as : XA} : xLst as v = (as v).bind fun ds => grd (ds.length ≤ 100000) (some (.list ds)) := by
  unfold xLst
  simp only [grd_ite]
@[simp] theorem q_cb {f : List PD → Option PD} {as : XA} : xCB f as v = (as v).bind f := (rfl)
@[simp] theorem q_isB {b : Bool} : isB (.bool b) = some b := (rfl)
@[simp] theorem q_B {a : XE} : xB a v = (a v).bind isB := (rfl)
@[simp] theorem q_tand {a b : XT} : xTAnd a b v = (a v).bind fun c => andO c (b v) := (rfl)
@[simp] theorem q_tor {a b : XT} : xTOr a b v = (a v).bind fun c => orO c (b v) := (rfl)
@[simp] theorem q_tnot {a : XT} : xTNot a v = (a v).bind fun c => some (!c) := (rfl)
@[simp] theorem q_yes : xYes v = some true := (rfl)
@[simp] theorem q_and {a b : XE} : xAnd a b v = ((a v).bind isB).bind fun c => andV c (b v) := (rfl)
@[simp] theorem q_or {a b : XE} : xOr a b v = ((a v).bind isB).bind fun c => orV c (b v) := (rfl)
@[simp] theorem q_not {a : XE} : xNot a v = ((a v).bind isB).bind fun c => some (.bool (!c)) := (rfl)
@[simp] theorem q_if {c : XT} {a b : XE} : xIf c a b v = (c v).bind fun k => alt k (tag (a v)) (tag (b v)) := (rfl)
@[simp] theorem q_chain {f g : PD → PD → Option PD} {a b c : XE} : xChain f g a b c v = (a v).bind fun x => (b v).bind fun y => ((f x y).bind isB).bind fun k => andV k ((c v).bind fun z => g y z) := (rfl)
@[simp] theorem q_isi {t : Ty} {a : XE} : xIsi t a v = (a v).bind fun d => grd (full d = false) (some (.bool (isTy t d))) := by
  unfold xIsi
  congr 1
  funext d
  rw [← grd_ite]
  cases full d <;> rfl
@[simp] theorem q_nop : xNoPart v = some none := (rfl)
@[simp] theorem q_part {a : XE} : xPart a v = (a v).bind fun d => match d with | .int i => some (some i) | _ => none := (rfl)
@[simp] theorem q_sl {a : XE} {lo hi : XO} : xSl a lo hi v = (a v).bind fun d => (lo v).bind fun l => (hi v).bind fun h => slP d l h := (rfl)
@[simp] theorem q_idx {a b : XE} : xIdx a b v = (a v).bind fun x => (b v).bind fun y => idxP x y := (rfl)
@[simp] theorem q_on1 {f : PD → Option PD} {x : PD} : on1 f [x] = f x := (rfl)
@[simp] theorem q_on2 {f : PD → PD → Option PD} {x y : PD} : on2 f [x, y] = f x y := (rfl)
@[simp] theorem q_xiE {a : XE} : xiE a v = (a v).bind seqP := (rfl)
@[simp] theorem q_xiA {f : List PD → Option (List PD)} {as : XA} : xiA f as v = (as v).bind f := (rfl)
@[simp] theorem q_lc {src : XI} {g : XGV} {t : XT} {e : XE} {vs : List Nat} : xLc src g t e vs v = (src v).bind fun xs => grd (xs.length ≤ 40000) ((lcGo g t e (clear v vs) xs).bind fun ds => some (.list ds)) := by
  unfold xLc
  simp only [grd_ite]
@[simp] theorem q_clear_nil : clear v [] = v := (rfl)
@[simp] theorem q_clear_cons {i : Nat} {vs : List Nat} : clear v (i :: vs) = (clear v vs).set i none := (rfl)
@[simp] theorem q_gvName {i : Nat} {x : PD} : gvName i x v = some (v.set i (some x)) := (rfl)
@[simp] theorem q_gvNil : gvNil [] v = some v := (rfl)
@[simp] theorem q_gvCons {g : XGV} {gs : XGVs} {x : PD} {xs : List PD} : gvCons g gs (x :: xs) v = (g x v).bind fun v1 => gs xs v1 := (rfl)
@[simp] theorem q_gvTup {n : Nat} {gs : XGVs} {x : PD} : gvTup n gs x v = (seqP x).bind fun ds => grd (ds.length = n) (gs ds v) := by
  unfold gvTup
  simp only [grd_ite]
@[simp] theorem q_add_i {i j : Int} : addP (.int i) (.int j) = some (.int (i + j)) := (rfl)
@[simp] theorem q_add_l {xs ys : List PD} : addP (.list xs) (.list ys) = grd (xs.length + ys.length ≤ 100000) (some (.list (xs ++ ys))) := by
  unfold addP
  simp only [grd_ite]
@[simp] theorem q_add_t {xs ys : List PD} : addP (.tuple xs) (.tuple ys) = grd (xs.length + ys.length ≤ 100000) (some (.tuple (xs ++ ys))) := by
  unfold addP
  simp only [grd_ite]
@[simp] theorem q_sub {i j : Int} : subP (.int i) (.int j) = some (.int (i - j)) := (rfl)
@[simp] theorem q_div {i j : Int} : divP (.int i) (.int j) = grd (Dvr j) (some (.int (i / j))) := by
  unfold divP
  simp only [grd_ite]
  exact grd_iff ⟨fun h => ⟨h.1, h.2⟩, fun h => ⟨h.lo, h.hi⟩⟩
@[simp] theorem q_mod {i j : Int} : modP (.int i) (.int j) = grd (0 < j) (some (.int (i % j))) := by
  unfold modP
  simp only [grd_ite]
  rfl
@[simp] theorem q_pow {i j : Int} : powP (.int i) (.int j) = grd (0 ≤ j ∧ j ≤ 1000 ∧ In63 i) (some (.int (i ^ j.toNat))) := by
  unfold powP
  simp only [grd_ite]
  exact grd_iff ⟨fun h => ⟨h.1, h.2.1, h.2.2.1, h.2.2.2⟩, fun h => ⟨h.1, h.2.1, h.2.2.lo, h.2.2.hi⟩⟩
@[simp] theorem q_mul {i j : Int} : mulP (.int i) (.int j) = grd (In64 i ∨ In64 j) (some (.int (i * j))) := by
  unfold mulP
  simp only [grd_ite]
  exact grd_iff ⟨fun h => h.elim (fun h => .inl ⟨h.1, h.2⟩) fun h => .inr ⟨h.1, h.2⟩, fun h => h.elim (fun h => .inl ⟨h.lo, h.hi⟩) fun h => .inr ⟨h.lo, h.hi⟩⟩
@[simp] theorem q_lt {i j : Int} : ltP (.int i) (.int j) = some (.bool (decide (i < j))) := (rfl)
@[simp] theorem q_le {i j : Int} : leP (.int i) (.int j) = some (.bool (decide (i ≤ j))) := (rfl)
@[simp] theorem q_gtU {i j : Int} : gtU (.int i) (.int j) = some (.bool (decide (j < i))) := (rfl)
@[simp] theorem q_gt {i j : Int} : gtP (.int i) (.int j) = some (.bool (decide (j < i))) := (rfl)
@[simp] theorem q_ge {i j : Int} : geP (.int i) (.int j) = some (.bool (decide (j ≤ i))) := (rfl)
@[simp] theorem q_neg {i : Int} : negP (.int i) = some (.int (-i)) := (rfl)
@[simp] theorem q_eq_i {i j : Int} : eqP (.int i) (.int j) = some (.bool (i == j)) := (rfl)
@[simp] theorem q_ne_i {i j : Int} : neP (.int i) (.int j) = some (.bool (!(i == j))) := (rfl)
@[simp] theorem q_is {x : PD} : isU x .none = some (.bool (isNone x)) := by cases x <;> rfl
@[simp] theorem q_isnt {x : PD} : isntU x .none = some (.bool (!isNone x)) := by cases x <;> rfl
@[simp] theorem q_isb {b c : Bool} : isU (.bool b) (.bool c) = some (.bool (b == c)) := (rfl)
@[simp] theorem q_isntb {b c : Bool} : isntU (.bool b) (.bool c) = some (.bool (b != c)) := (rfl)
@[simp] theorem q_isNone_n : isNone .none = true := (rfl)
@[simp] theorem q_isNone_i {i : Int} : isNone (.int i) = false := (rfl)
@[simp] theorem q_isNone_t {ds : List PD} : isNone (.tuple ds) = false := (rfl)
@[simp] theorem q_ix_t {ds : List PD} {i : Int} : ixP (.tuple ds) (.int i) = atI ds i := (rfl)
@[simp] theorem q_ix_l {ds : List PD} {i : Int} : ixP (.list ds) (.int i) = atI ds i := (rfl)
@[simp] theorem q_ix_s {ds : List PD} {i : Int} : ixP (scrD ds) (.int i) = atI ds i := (rfl)
@[simp] theorem q_sl_t {ds : List PD} {lo hi : Option Int} : slP (.tuple ds) lo hi = some (.tuple (cutD ds lo hi)) := (rfl)
@[simp] theorem q_sl_l {ds : List PD} {lo hi : Option Int} : slP (.list ds) lo hi = some (.list (cutD ds lo hi)) := (rfl)
@[simp] theorem q_sl_s {ds : List PD} {lo hi : Option Int} : slP (scrD ds) lo hi = some (.list (cutD ds lo hi)) := (rfl)
@[simp] theorem q_seq_t {ds : List PD} : seqP (.tuple ds) = some ds := (rfl)
@[simp] theorem q_seq_l {ds : List PD} : seqP (.list ds) = some ds := (rfl)
@[simp] theorem q_seq_s {ds : List PD} : seqP (scrD ds) = some ds := (rfl)
@[simp] theorem q_len_t {ds : List PD} : lenP (.tuple ds) = some (natD ds.length) := (rfl)
@[simp] theorem q_len_l {ds : List PD} : lenP (.list ds) = some (natD ds.length) := (rfl)
@[simp] theorem q_len_s {ds : List PD} : lenP (scrD ds) = some (natD ds.length) := (rfl)
@[simp] theorem q_tupP_l {ds : List PD} : tupP (.list ds) = some (.tuple ds) := (rfl)
@[simp] theorem q_tupP_t {ds : List PD} : tupP (.tuple ds) = some (.tuple ds) := (rfl)
@[simp] theorem q_listP_l {ds : List PD} : listP (.list ds) = some (.list ds) := (rfl)
@[simp] theorem q_listP_t {ds : List PD} : listP (.tuple ds) = some (.list ds) := (rfl)
@[simp] theorem q_absP {i : Int} : absP (.int i) = some (.int (if i < 0 then -i else i)) := (rfl)
@[simp] theorem q_enum_t {ds : List PD} : enumP [.tuple ds] = some (pairsD ds) := (rfl)
@[simp] theorem q_enum_l {ds : List PD} : enumP [.list ds] = some (pairsD ds) := (rfl)
@[simp] theorem q_zip_t {ds es : List PD} : zipP [.tuple ds, .tuple es] = some (zipD ds es) := (rfl)
@[simp] theorem q_zip_l {ds es : List PD} : zipP [.list ds, .list es] = some (zipD ds es) := (rfl)
@[simp] theorem q_rng {j : Int} : rngP [.int j] = grd (In62 j) (some ((List.range j.toNat).map natD)) := by
  have e : (List.range j.toNat).map (fun k => PyData.int (0 + (k : Nat))) = (List.range j.toNat).map natD := by
    apply List.map_congr_left
    intro k _
    rw [Int.zero_add]
  unfold rngP
  dsimp only
  rw [e, grd_ite]
  exact grd_iff ⟨fun h => ⟨h.1, h.2⟩, fun h => ⟨h.lo, h.hi⟩⟩
@[simp] theorem q_full_n : full .none = false := (rfl)
@[simp] theorem q_full_b {b : Bool} : full (.bool b) = false := (rfl)
@[simp] theorem q_full_i {i : Int} : full (.int i) = false := (rfl)
@[simp] theorem q_full_s {x : Str} : full (.str x) = false := (rfl)
@[simp] theorem q_full_l {ds : List PD} : full (.list ds) = false := (rfl)
@[simp] theorem q_full_t {ds : List PD} : full (.tuple ds) = false := (rfl)
@[simp] theorem q_full_d : full (.dict []) = false := (rfl)
@[simp] theorem q_full_d1 {k : Str} {d : PD} {r : List (PD × PD)} : full (.dict ((.str k, d) :: r)) = false := (rfl)
@[simp] theorem q_xD1 {k : Str} {a : XE} {v : VE} : xD1 k a v = (a v).bind fun d => some (.dict [(.str k, d)]) := (rfl)
@[simp] theorem q_flat_n : flat .none = true := by simp [flat]
@[simp] theorem q_flat_b {b : Bool} : flat (.bool b) = true := by simp [flat]
@[simp] theorem q_flat_i {i : Int} : flat (.int i) = true := by simp [flat]
@[simp] theorem q_flat_s {x : Str} : flat (.str x) = true := by simp [flat]
@[simp] theorem q_flat_t {ds : List PD} : flat (.tuple ds) = flats ds := by simp [flat]
@[simp] theorem q_flats_nil : flats [] = true := by simp [flats]
@[simp] theorem q_flats_cons {d : PD} {ds : List PD} : flats (d :: ds) = (flat d && flats ds) := by simp [flats]
@[simp] theorem q_wM {x : XE} : wM x ρ = (x (mk ρ)).bind fun d => some (d, ρ) := (rfl)
@[simp] theorem q_wV {x : XE} : wV x ρ = (x (vw ρ)).bind fun d => grd (flat d = true) (some (d, ρ)) := by
  unfold wV
  simp only [grd_ite]
@[simp] theorem q_wMT {x : XT} : wMT x ρ = (x (mk ρ)).bind fun d => some (d, ρ) := (rfl)
@[simp] theorem q_wVT {x : XT} : wVT x ρ = (x (vw ρ)).bind fun d => some (d, ρ) := (rfl)
@[simp] theorem q_wNil : wNil ρ = some ([], ρ) := (rfl)
@[simp] theorem q_wCons {a : XW} {as : XWA} : wCons a as ρ = (a ρ).bind fun x => (as x.2).bind fun xs => some (x.1 :: xs.1, xs.2) := (rfl)
@[simp] theorem q_wOp {f : PD → PD → Option PD} {a b : XW} : wOp f a b ρ = (a ρ).bind fun x => (b x.2).bind fun y => (f x.1 y.1).bind fun z => some (z, y.2) := (rfl)
@[simp] theorem q_wTup {as : XWA} : wTup as ρ = (as ρ).bind fun x => grd (x.1.length ≤ 100000) (some (.tuple x.1, x.2)) := by
  unfold wTup
  simp only [grd_ite]
@[simp] theorem q_wLst {as : XWA} : wLst as ρ = (as ρ).bind fun x => grd (x.1.length ≤ 100000) (some (.list x.1, x.2)) := by
  unfold wLst
  simp only [grd_ite]
@[simp] theorem q_wCB {f : List PD → Option PD} {as : XWA} : wCB f as ρ = (as ρ).bind fun x => (f x.1).bind fun z => some (z, x.2) := (rfl)
@[simp] theorem q_wB {a : XW} : wB a ρ = (a ρ).bind fun x => (isB x.1).bind fun b => some (b, x.2) := (rfl)
@[simp] theorem q_wIf {c : XWT} {a b : XW} : wIf c a b ρ = (c ρ).bind fun k => alt k.1 (tag (a k.2)) (tag (b k.2)) := (rfl)
@[simp] theorem q_wCallK {i : Nat} {g : List Cel → List PD → Option (PD × List Cel)} {as : XWA} : wCallK i g as ρ = (ownAt ρ i).bind fun _ => (as ρ).bind fun x => (ownAt x.2 i).bind fun cs => (g cs x.1).bind fun y => some (y.1, x.2.set i (.own y.2)) := (rfl)
@[simp] theorem q_ownAt0 {cs : List Cel} {r : Env} : ownAt (.own cs :: r) 0 = some cs := (rfl)
@[simp] theorem q_ownAtS {s : Sl} {r : Env} {i : Nat} : ownAt (s :: r) (i + 1) = ownAt r i := (rfl)
@[simp] theorem q_wFz {o : XWO} : wFz o ρ = (o ρ).bind fun x => some (.list (x.1.map Cel.pd), x.2) := (rfl)
@[simp] theorem q_wOM {x : XE} : wOM x ρ = ((x (mk ρ)).bind asList).bind fun ds => some (dats ds, ρ) := (rfl)
@[simp] theorem q_wOV {x : XE} : wOV x ρ = ((x (vw ρ)).bind asList).bind fun ds => grd (flats ds = true) (some (dats ds, ρ)) := by
  unfold wOV
  simp only [grd_ite]
  rfl
@[simp] theorem q_asList {ds : List PD} : asList (.list ds) = some ds := (rfl)
@[simp] theorem q_wOL {as : XWC} : wOL as ρ = (as ρ).bind fun x => grd (x.1.length ≤ 100000) (some x) := by
  unfold wOL
  simp only [grd_ite]
@[simp] theorem q_wcNil : wcNil ρ = some ([], ρ) := (rfl)
@[simp] theorem q_wcDat {a : XW} {as : XWC} : wcDat a as ρ = (a ρ).bind fun x => (as x.2).bind fun xs => some (.dat x.1 :: xs.1, xs.2) := (rfl)
@[simp] theorem q_wcSub {a : XWO} {as : XWC} : wcSub a as ρ = (a ρ).bind fun x => (allDat x.1).bind fun ds => (as x.2).bind fun xs => some (.sub ds :: xs.1, xs.2) := (rfl)
@[simp] theorem q_allDat {ds : List PD} : allDat (dats ds) = some ds := @allDat_map kk0 ds
@[simp] theorem q_allDat_nil : allDat [] = some [] := (rfl)
@[simp] theorem q_wCallD {f : List PD → Option (List Cel)} {as : XWA} : wCallD f as ρ = (as ρ).bind fun x => (f x.1).bind fun cs => some (cs, x.2) := (rfl)
@[simp] theorem q_wPop {i : Nat} {a : XW} : wPop i a ρ = (ownAt ρ i).bind fun _ => (a ρ).bind fun x => (isI x.1).bind fun k => (ownAt x.2 i).bind fun cs => grd (In63e k) ((ixN cs.length k).bind fun n => (datAt cs n).bind fun d => some (d, x.2.set i (.own (cs.eraseIdx n)))) := by
  unfold wPop
  simp only [grd_ite]
  congr 1; funext _; congr 1; funext x; congr 1; funext k; congr 1; funext cs
  exact grd_iff ⟨fun h => ⟨h.1, h.2⟩, fun h => ⟨h.lo, h.hi⟩⟩
@[simp] theorem q_isI {i : Int} : isI (.int i) = some i := (rfl)
@[simp] theorem q_wiE {a : XW} : wiE a ρ = (a ρ).bind fun x => (seqP x.1).bind fun xs => some (xs, x.2) := (rfl)
@[simp] theorem q_wiA {f : List PD → Option (List PD)} {as : XWA} : wiA f as ρ = (as ρ).bind fun x => (f x.1).bind fun xs => some (xs, x.2) := (rfl)
@[simp] theorem q_gName {i : Nat} {x : PD} : gName' i x ρ = some (ρ.set i (.dat x)) := (rfl)
@[simp] theorem q_gNil : gNil' [] ρ = some ρ := (rfl)
@[simp] theorem q_gCons {g : XG} {gs : XGs} {x : PD} {xs : List PD} : gCons' g gs (x :: xs) ρ = (g x ρ).bind fun v1 => gs xs v1 := (rfl)
@[simp] theorem q_gTup {n : Nat} {gs : XGs} {x : PD} : gTup' n gs x ρ = (seqP x).bind fun ds => grd (ds.length = n) (gs ds ρ) := by
  unfold gTup'
  simp only [grd_ite]
@[simp] theorem q_sNext : sNext ρ = some (.nxt ρ) := (rfl)
@[simp] theorem q_sRet {w : XW} : sRet w ρ = (w ρ).bind fun x => some (.ret x.1 x.2) := (rfl)
@[simp] theorem q_sRetO {w : XWO} : sRetO w ρ = (w ρ).bind fun x => some (.retO x.1 x.2) := (rfl)
@[simp] theorem q_sIf {c : XWT} {x y : XS} : sIf c x y ρ = (c ρ).bind fun k => alt k.1 (tag (x k.2)) (tag (y k.2)) := (rfl)
@[simp] theorem q_sAsg {g : XG} {w : XW} : sAsg g w ρ = (w ρ).bind fun x => (g x.1 x.2).bind fun ρ1 => some (.nxt ρ1) := (rfl)
@[simp] theorem q_sOwn {i : Nat} {w : XWO} : sOwn i w ρ = (w ρ).bind fun x => grd (i < x.2.length) (some (.nxt (x.2.set i (.own x.1)))) := by
  unfold sOwn
  simp only [grd_ite]
@[simp] theorem q_sDrop {w : XW} : sDrop w ρ = (w ρ).bind fun x => some (.nxt x.2) := (rfl)
@[simp] theorem q_toSl_d {d : PD} : toSl (.dat d) = .dat d := (rfl)
@[simp] theorem q_toSl_s {ds : List PD} : toSl (.sub ds) = .own (dats ds) := (rfl)
@[simp] theorem q_two {c e : Cel} : two [c, e] = some (c, e) := (rfl)
@[simp] theorem q_sPar {i j : Nat} {as : XWC} : sPar i j as ρ = (as ρ).bind fun x => (two x.1).bind fun c => grd (i < x.2.length ∧ j < x.2.length) (some (.nxt ((x.2.set i (toSl c.1)).set j (toSl c.2)))) := by
  unfold sPar
  simp only [grd_ite]
@[simp] theorem q_sApp {i : Nat} {a : XW} : sApp i a ρ = (ownAt ρ i).bind fun _ => (a ρ).bind fun x => (ownAt x.2 i).bind fun cs => grd (cs.length < 100000) (some (.nxt (x.2.set i (.own (cs ++ [.dat x.1]))))) := by
  unfold sApp
  simp only [grd_ite]
@[simp] theorem q_sSet {i : Nat} {k : XE} {a : XW} : sSet i k a ρ = (a ρ).bind fun x => (ownAt x.2 i).bind fun cs => ((k (vw x.2)).bind isI).bind fun k => (ixN cs.length k).bind fun n => (datAt cs n).bind fun _ => some (.nxt (x.2.set i (.own (cs.set n (.dat x.1))))) := (rfl)
@[simp] theorem q_sSetS {i : Nat} {k j : XE} {a : XW} : sSetS i k j a ρ = (a ρ).bind fun x => (ownAt x.2 i).bind fun cs => ((k (vw x.2)).bind isI).bind fun k => (ixN cs.length k).bind fun n => (subAt cs n).bind fun ds => ((j (vw x.2)).bind isI).bind fun j => (ixN ds.length j).bind fun m => some (.nxt (x.2.set i (.own (cs.set n (.sub (ds.set m x.1)))))) := (rfl)
@[simp] theorem q_sFz {i : Nat} {y : XS} : sFz i y ρ = y (fzE ρ i) := (rfl)
@[simp] theorem q_fz0 {cs : List Cel} {r : Env} : fzE (.own cs :: r) 0 = .dat (.list (cs.map Cel.pd)) :: r := (rfl)
@[simp] theorem q_fzS {s : Sl} {r : Env} {i : Nat} : fzE (s :: r) (i + 1) = s :: fzE r i := by
  unfold fzE
  rw [List.getElem?_cons_succ]
  cases h : r[i]? with
  | none => rfl
  | some q => cases q <;> rfl
@[simp] theorem q_sFor {src : XWI} {g : XG} {b : XS} : sFor src g b ρ = (src ρ).bind fun x => forGo g b x.1 x.2 := (rfl)
end
end Uv

namespace Uv
open PySem PySem.Spec PyProof.Rows L2
section
variable {ρ : Env} {v : VE}
@[simp] theorem q_wUn {f : PD → Option PD} {a : XW} : wUn f a ρ = (a ρ).bind fun x => (f x.1).bind fun z => some (z, x.2) := (rfl)
@[simp] theorem q_wTAnd {a b : XWT} : wTAnd a b ρ = (a ρ).bind fun c => alt c.1 (tag (b c.2)) (tag (some (false, c.2))) := (rfl)
@[simp] theorem q_wTOr {a b : XWT} : wTOr a b ρ = (a ρ).bind fun c => alt c.1 (tag (some (true, c.2))) (tag (b c.2)) := (rfl)
@[simp] theorem q_wTNot {a : XWT} : wTNot a ρ = (a ρ).bind fun c => some (!c.1, c.2) := (rfl)
@[simp] theorem q_wAnd {a b : XW} : wAnd a b ρ = (wB a ρ).bind fun c => alt c.1 (tag (b c.2)) (tag (some (.bool false, c.2))) := (rfl)
@[simp] theorem q_wOr {a b : XW} : wOr a b ρ = (wB a ρ).bind fun c => alt c.1 (tag (some (.bool true, c.2))) (tag (b c.2)) := (rfl)
@[simp] theorem q_wNot {a : XW} : wNot a ρ = (wB a ρ).bind fun c => some (.bool (!c.1), c.2) := (rfl)
@[simp] theorem q_sExt {i : Nat} {a : XW} : sExt i a ρ = (ownAt ρ i).bind fun _ => (a ρ).bind fun x => (asList x.1).bind fun ds => (ownAt x.2 i).bind fun cs => grd (cs.length + ds.length ≤ 100000) (some (.nxt (x.2.set i (.own (cs ++ dats ds))))) := by
  unfold sExt
  simp only [grd_ite]
  rfl
@[simp] theorem q_sIns {i : Nat} {as : XWA} : sIns i as ρ = (ownAt ρ i).bind fun _ => (as ρ).bind fun x => (insA x.1).bind fun kd => (ownAt x.2 i).bind fun cs => grd (cs.length < 100000 ∧ 0 ≤ kd.1 ∧ In63e kd.1) (some (.nxt (x.2.set i (.own (cs.take kd.1.toNat ++ [.dat kd.2] ++ cs.drop kd.1.toNat))))) := by
  unfold sIns
  simp only [grd_ite]
  congr 1; funext _; congr 1; funext x; congr 1; funext k; congr 1; funext cs
  exact grd_iff ⟨fun h => ⟨h.1, h.2.1, by have := h.2.1; omega, h.2.2⟩, fun h => ⟨h.1, h.2.1, h.2.2.hi⟩⟩
@[simp] theorem q_insA {i : Int} {d : PD} : insA [.int i, d] = some (i, d) := (rfl)
@[simp] theorem q_sPopS {i : Nat} {k j : XE} : sPopS i k j ρ = (ownAt ρ i).bind fun cs => ((k (vw ρ)).bind isI).bind fun k => (ixN cs.length k).bind fun n => (subAt cs n).bind fun ds => ((j (vw ρ)).bind isI).bind fun j => grd (In63e j) ((ixN ds.length j).bind fun m => some (.nxt (ρ.set i (.own (cs.set n (.sub (ds.eraseIdx m))))))) := by
  unfold sPopS
  simp only [grd_ite]
  congr 1; funext cs; congr 1; funext k; congr 1; funext n; congr 1; funext ds; congr 1; funext j
  exact grd_iff ⟨fun h => ⟨h.1, h.2⟩, fun h => ⟨h.lo, h.hi⟩⟩
def unAt (ρ : Env) (i : Nat) (x : Option Out) : Option Out := match ρ[i]? with
  | some .un => x
  | _ => none
@[simp] theorem unAt_0 {r : Env} {x : Option Out} : unAt (.un :: r) 0 x = x := (rfl)
@[simp] theorem unAt_S {s : Sl} {r : Env} {i : Nat} {x : Option Out} : unAt (s :: r) (i + 1) x = unAt r i x := (rfl)
@[simp] theorem q_sAppS {i : Nat} {k : XE} {a : XW} : sAppS i k a ρ = (ownAt ρ i).bind fun cs => ((k (vw ρ)).bind isI).bind fun kk => (ixN cs.length kk).bind fun n => (subAt cs n).bind fun ds => (a (ρ.set i .un)).bind fun x => unAt x.2 i (grd (ds.length < 100000) (some (.nxt (x.2.set i (.own (cs.set n (.sub (ds ++ [x.1])))))))) := by
  unfold sAppS
  simp only [grd_ite]
  rfl
@[simp] theorem q_sRetN : sRetN ρ = some (.ret .none ρ) := (rfl)
@[simp] theorem q_sCont : sCont ρ = some (.cnt ρ) := (rfl)
@[simp] theorem q_sBreak : sBreak ρ = some (.brk ρ) := (rfl)
@[simp] theorem q_sWhile {n : Nat} {c : XWT} {b : XS} : sWhile n c b ρ = whGo c b n ρ := (rfl)
@[simp] theorem q_wLc {src : XWI} {g : XG} {t : XWT} {e : XW} {vs : List Nat} : wLc src g t e vs ρ = (src ρ).bind fun x => grd (x.1.length ≤ 40000) ((wlGo g t e vs x.1 x.2).bind fun r => some (dats r.1, backE x.2 r.2 vs)) := by
  unfold wLc
  simp only [grd_ite]
  rfl
@[simp] theorem q_backE_nil {ρ1 : Env} : backE ρ1 ρ [] = ρ := (rfl)
@[simp] theorem q_backE_cons {ρ1 : Env} {i : Nat} {vs : List Nat} : backE ρ1 ρ (i :: vs) = (backE ρ1 ρ vs).set i (keepD ρ1[i]?) := (rfl)
@[simp] theorem q_keepD_d {d : PD} : keepD (some (.dat d)) = .dat d := (rfl)
@[simp] theorem q_keepD_u : keepD (some .un) = .un := (rfl)
@[simp] theorem q_keepD_o {cs : List Cel} : keepD (some (.own cs)) = .un := (rfl)
@[simp] theorem q_clearE_nil : clearE ρ [] = ρ := (rfl)
@[simp] theorem q_clearE_cons {i : Nat} {vs : List Nat} : clearE ρ (i :: vs) = (clearE ρ vs).set i .un := (rfl)
def endP {Q : PD → Prop} (_ : Tag Q) : Out → Prop
  | .ret d _ => Q d
  | .nxt _ => Q .none
  | _ => False
def endW {Q : PD × List Cel → Prop} (_ : Tag Q) : Out → Prop
  | .ret d ρ => wp (ownAt ρ 0) (tag fun cs => Q (d, cs))
  | .nxt ρ => wp (ownAt ρ 0) (tag fun cs => Q (.none, cs))
  | _ => False
def endD' {Q : List Cel → Prop} (_ : Tag Q) : Out → Prop
  | .retO cs _ => Q cs
  | _ => False
section
variable {QP : PD → Prop} {QW : PD × List Cel → Prop} {QD : List Cel → Prop} {d : PD} {cs : List Cel}
@[simp] theorem endP_ret : endP (tag QP) (.ret d ρ) = QP d := (rfl)
@[simp] theorem endP_nxt : endP (tag QP) (.nxt ρ) = QP .none := (rfl)
@[simp] theorem endW_ret : endW (tag QW) (.ret d ρ) = wp (ownAt ρ 0) (tag fun cs => QW (d, cs)) := (rfl)
@[simp] theorem endW_nxt : endW (tag QW) (.nxt ρ) = wp (ownAt ρ 0) (tag fun cs => QW (.none, cs)) := (rfl)
@[simp] theorem endD_ret : endD' (tag QD) (.retO cs ρ) = QD cs := (rfl)
end
theorem wp_runP {n k : Nat} {X : XS} {ds : List PD} {Q : PD → Prop} (hn : ds.length = n) (h : wp (X (ds.map Sl.dat ++ List.replicate k Sl.un)) (tag (endP (tag Q)))) : wp (runP n k X ds) (tag Q) := by
  obtain ⟨o, e, h⟩ := h
  unfold runP
  rw [if_pos hn, e]
  cases o with
  | ret d ρ => exact ⟨_, rfl, h⟩
  | nxt ρ => exact ⟨_, rfl, h⟩
  | _ => exact h.elim
theorem wp_runW {n k : Nat} {X : XS} {cs : List Cel} {ds : List PD} {Q : PD × List Cel → Prop} (hn : ds.length = n) (h : wp (X (.own cs :: (ds.map Sl.dat ++ List.replicate k Sl.un))) (tag (endW (tag Q)))) : wp (runW n k X cs ds) (tag Q) := by
  obtain ⟨o, e, h⟩ := h
  unfold runW
  rw [if_pos hn, e]
  cases o with
  | ret d ρ =>
    obtain ⟨cs', e2, h2⟩ := h
    exact ⟨(d, cs'), by rw [Option.bind_some]; show (ownAt ρ 0).bind _ = _; rw [e2]; rfl, h2⟩
  | nxt ρ =>
    obtain ⟨cs', e2, h2⟩ := h
    exact ⟨(.none, cs'), by rw [Option.bind_some]; show (ownAt ρ 0).bind _ = _; rw [e2]; rfl, h2⟩
  | _ => exact h.elim
theorem wp_runD {n k : Nat} {X : XS} {ds : List PD} {Q : List Cel → Prop} (hn : ds.length = n) (h : wp (X (ds.map Sl.dat ++ List.replicate k Sl.un)) (tag (endD' (tag Q)))) : wp (runD n k X ds) (tag Q) := by
  obtain ⟨o, e, h⟩ := h
  unfold runD
  rw [if_pos hn, e]
  cases o with
  | retO d ρ => exact ⟨_, rfl, h⟩
  | _ => exact h.elim
theorem eq_of_wp {α : Type} {o : Option α} {a : α} (h : wp o (tag fun x => x = a)) : o = some a := wp_eq.mp h
structure Inv {J : Env → Prop} (t : Tag J) (ρ : Env) : Prop where
  of ::
  to : J ρ
def forK {J : Env → Prop} {Q : Out → Prop} (_ : Tag J) (_ : Tag Q) : Out → Prop
  | .nxt ρ => Inv (tag J) ρ
  | .cnt ρ => Inv (tag J) ρ
  | .brk ρ => Q (.nxt ρ)
  | .ret d ρ => Q (.ret d ρ)
  | .retO d ρ => Q (.retO d ρ)
section
variable {J : Env → Prop} {Q : Out → Prop} {d : PD} {cs : List Cel}
@[simp] theorem forK_nxt : forK (tag J) (tag Q) (.nxt ρ) = Inv (tag J) ρ := (rfl)
@[simp] theorem forK_cnt : forK (tag J) (tag Q) (.cnt ρ) = Inv (tag J) ρ := (rfl)
@[simp] theorem forK_brk : forK (tag J) (tag Q) (.brk ρ) = Q (.nxt ρ) := (rfl)
@[simp] theorem forK_ret : forK (tag J) (tag Q) (.ret d ρ) = Q (.ret d ρ) := (rfl)
@[simp] theorem forK_retO : forK (tag J) (tag Q) (.retO cs ρ) = Q (.retO cs ρ) := (rfl)
end
theorem wp_for {g : XG} {b : XS} {xs : List PD} {Q : Out → Prop} (I : Nat → Env → Prop) (h0 : I 0 ρ) (hs : ∀ (i : Nat) (h : i < xs.length) (ρ : Env), I i ρ → wp (g xs[i] ρ) (tag fun ρ1 => wp (b ρ1) (tag (forK (tag (I (i + 1))) (tag Q))))) (hq : ∀ ρ, I xs.length ρ → Q (.nxt ρ)) : wp (forGo g b xs ρ) (tag Q) := by
  induction xs generalizing ρ I with
  | nil => exact ⟨_, rfl, hq ρ h0⟩
  | cons x xs ih =>
    obtain ⟨ρ1, e1, o, e2, h2⟩ := hs 0 (Nat.succ_pos _) ρ h0
    have go : ∀ ρ2, I 1 ρ2 → wp (forGo g b xs ρ2) (tag Q) := fun ρ2 h3 => ih (fun i => I (i + 1)) h3 (fun i hi ρ hI => hs (i + 1) (Nat.succ_lt_succ hi) ρ hI) hq
    have e1 : g x ρ = some ρ1 := e1
    unfold forGo
    rw [e1, Option.bind_some, e2, Option.bind_some]
    cases o with
    | nxt ρ2 => exact go ρ2 h2.to
    | cnt ρ2 => exact go ρ2 h2.to
    | brk ρ2 => exact ⟨_, rfl, h2⟩
    | ret d ρ2 => exact ⟨_, rfl, h2⟩
    | retO d ρ2 => exact ⟨_, rfl, h2⟩
@[simp] theorem Inv_wp {g : Env → Option Out} {Q : Out → Prop} : Inv (tag fun ρ2 => wp (g ρ2) (tag Q)) ρ = wp (g ρ) (tag Q) := propext ⟨fun h => h.to, fun h => ⟨h⟩⟩
theorem wp_forM {α : Type} {g : XG} {b : XS} {l : List α} {enc : α → PD} {Q : Out → Prop} (I : Nat → Env → Prop) (h0 : I 0 ρ) (hs : ∀ (i : Nat) (h : i < l.length) (ρ : Env), I i ρ → wp (g (enc l[i]) ρ) (tag fun ρ1 => wp (b ρ1) (tag (forK (tag (I (i + 1))) (tag Q))))) (hq : ∀ ρ, I l.length ρ → Q (.nxt ρ)) : wp (forGo g b (l.map enc) ρ) (tag Q) :=
  wp_for I h0 (fun i h ρ hI => by
    rw [List.getElem_map]
    exact hs i (by simpa using h) ρ hI) (fun ρ h => hq ρ (by simpa using h))
theorem wp_forR {g : XG} {b : XS} {n : Nat} {Q : Out → Prop} (I : Nat → Env → Prop) (h0 : I 0 ρ) (hs : ∀ (i : Nat) (h : i < n) (ρ : Env), I i ρ → wp (g (natD i) ρ) (tag fun ρ1 => wp (b ρ1) (tag (forK (tag (I (i + 1))) (tag Q))))) (hq : ∀ ρ, I n ρ → Q (.nxt ρ)) : wp (forGo g b ((List.range n).map natD) ρ) (tag Q) :=
  wp_forM I h0 (fun i h ρ hI => by
    rw [List.getElem_range]
    exact hs i (by simpa using h) ρ hI) (fun ρ h => hq ρ (by simpa using h))
theorem pairsD_map {α : Type} (enc : α → PD) (xs : List α) : pairsD (xs.map enc) = (xs.zipIdx).map fun p => .tuple [natD p.2, enc p.1] := by
  unfold pairsD
  rw [List.zipIdx_map, List.map_map]
  rfl
@[simp] theorem pairsD_len {xs : List PD} : (pairsD xs).length = xs.length := by unfold pairsD; simp
theorem wp_forE {α : Type} {g : XG} {b : XS} {l : List α} {enc : α → PD} {Q : Out → Prop} (I : Nat → Env → Prop) (h0 : I 0 ρ) (hs : ∀ (i : Nat) (h : i < l.length) (ρ : Env), I i ρ → wp (g (.tuple [natD i, enc l[i]]) ρ) (tag fun ρ1 => wp (b ρ1) (tag (forK (tag (I (i + 1))) (tag Q))))) (hq : ∀ ρ, I l.length ρ → Q (.nxt ρ)) : wp (forGo g b (pairsD (l.map enc)) ρ) (tag Q) := by
  rw [pairsD_map]
  refine wp_forM I h0 (fun i h ρ hI => ?_) (fun ρ h => hq ρ (by simpa using h))
  have h' : i < l.length := by simpa using h
  have := hs i h' ρ hI
  simp only [List.getElem_zipIdx, Nat.zero_add]
  exact this
theorem wp_while {c : XWT} {b : XS} {n : Nat} {Q : Out → Prop} (I : Nat → Env → Prop) {k : Nat} (hk : k < n) (h0 : I k ρ) (hs : ∀ (k : Nat) (ρ : Env), I k ρ → wp (c ρ) (tag fun x => (x.1 = false → Q (.nxt x.2)) ∧ (x.1 = true → wp (b x.2) (tag (forK (tag fun ρ => ∃ j, j < k ∧ I j ρ) (tag Q)))))) : wp (whGo c b n ρ) (tag Q) := by
  induction n generalizing k ρ with
  | zero => omega
  | succ n ih =>
    obtain ⟨⟨t, ρ1⟩, e1, h1, h2⟩ := hs k ρ h0
    unfold whGo
    rw [e1, Option.bind_some]
    cases t with
    | false => exact ⟨_, rfl, h1 rfl⟩
    | true =>
      obtain ⟨o, e2, h3⟩ := h2 rfl
      have e2 : b ρ1 = some o := e2
      simp only [if_true, e2, Option.bind_some]
      cases o with
      | nxt ρ2 => obtain ⟨j, hj, hI⟩ := h3.to; exact ih (by omega) hI
      | cnt ρ2 => obtain ⟨j, hj, hI⟩ := h3.to; exact ih (by omega) hI
      | brk ρ2 => exact ⟨_, rfl, h3⟩
      | ret d ρ2 => exact ⟨_, rfl, h3⟩
      | retO d ρ2 => exact ⟨_, rfl, h3⟩
theorem wp_lc {α : Type} {g : XGV} {t : XT} {e : XE} {enc : α → PD} (p : α → Bool) (f : α → PD) {l : List α} {Q : List PD → Prop} (h : ∀ x ∈ l, wp (g (enc x) v) (tag fun v1 => wp (t v1) (tag fun b => b = p x ∧ (p x = true → wp (e v1) (tag fun d => d = f x))))) (hq : Q ((l.filter p).map f)) : wp (lcGo g t e v (l.map enc)) (tag Q) := by
  have main : ∀ l : List α, (∀ x ∈ l, wp (g (enc x) v) (tag fun v1 => wp (t v1) (tag fun b => b = p x ∧ (p x = true → wp (e v1) (tag fun d => d = f x))))) → lcGo g t e v (l.map enc) = some ((l.filter p).map f) := by
    intro l
    induction l with
    | nil => intro _; rfl
    | cons x xs ih =>
      intro h
      obtain ⟨v1, h1, b, h2, hb, h3⟩ := h x (List.mem_cons_self ..)
      subst hb
      have ih := ih fun y hy => h y (List.mem_cons_of_mem _ hy)
      rw [List.map_cons]
      unfold lcGo
      rw [h1, Option.bind_some, h2, Option.bind_some, ih]
      cases hp : p x with
      | true =>
        obtain ⟨d, h4, h5⟩ := h3 hp
        subst h5
        rw [if_pos rfl, h4, List.filter_cons, if_pos hp]
        rfl
      | false => rw [if_neg Bool.false_ne_true, List.filter_cons, if_neg (by rw [hp]; exact Bool.false_ne_true)]
  exact ⟨_, main l h, hq⟩
theorem wp_lcT {α : Type} {g : XGV} {e : XE} {enc : α → PD} (f : α → PD) {l : List α} {Q : List PD → Prop} (h : ∀ x ∈ l, wp (g (enc x) v) (tag fun v1 => wp (e v1) (tag fun d => d = f x))) (hq : Q (l.map f)) : wp (lcGo g xYes e v (l.map enc)) (tag Q) :=
  wp_lc (fun _ => true) f (fun x hx => wp_mono (h x hx) fun v1 h1 => ⟨true, rfl, rfl, fun _ => h1⟩) (by rw [List.filter_eq_self.mpr fun _ _ => rfl]; exact hq)
theorem wp_wl {g : XG} {t : XWT} {e : XW} {vs : List Nat} {xs : List PD} {Q : List PD × Env → Prop} (I : Nat → List PD → Env → Prop) (h0 : I 0 [] ρ) (hs : ∀ (i : Nat) (h : i < xs.length) (ds : List PD) (ρ : Env), I i ds ρ → wp (g xs[i] (clearE ρ vs)) (tag fun ρ1 => wp (t ρ1) (tag fun b => (b.1 = true → wp (e b.2) (tag fun d => Inv (tag (I (i + 1) (ds ++ [d.1]))) d.2)) ∧ (b.1 = false → Inv (tag (I (i + 1) ds)) b.2)))) (hq : ∀ ds ρ, I xs.length ds ρ → Q (ds, ρ)) : wp (wlGo g t e vs xs ρ) (tag Q) := by
  have main : ∀ (xs : List PD) (I : Nat → List PD → Env → Prop) (acc : List PD) (ρ : Env), I 0 acc ρ → (∀ (i : Nat) (h : i < xs.length) (ds : List PD) (ρ : Env), I i ds ρ → wp (g xs[i] (clearE ρ vs)) (tag fun ρ1 => wp (t ρ1) (tag fun b => (b.1 = true → wp (e b.2) (tag fun d => Inv (tag (I (i + 1) (ds ++ [d.1]))) d.2)) ∧ (b.1 = false → Inv (tag (I (i + 1) ds)) b.2)))) → ∃ ds ρ', wlGo g t e vs xs ρ = some (ds, ρ') ∧ I xs.length (acc ++ ds) ρ' := by
    intro xs
    induction xs with
    | nil => intro I acc ρ h0 _; exact ⟨[], ρ, rfl, by simpa using h0⟩
    | cons x xs ih =>
      intro I acc ρ h0 hs
      obtain ⟨ρ1, e1, ⟨b, ρ2⟩, e2, h1, h2⟩ := hs 0 (Nat.succ_pos _) acc ρ h0
      have e1 : g x (clearE ρ vs) = some ρ1 := e1
      unfold wlGo
      rw [e1, Option.bind_some, e2, Option.bind_some]
      cases b with
      | true =>
        obtain ⟨⟨d, ρ3⟩, e3, h3⟩ := h1 rfl
        obtain ⟨ds, ρ', e4, h4⟩ := ih (fun i => I (i + 1)) (acc ++ [d]) ρ3 h3.to fun i hi ds ρ hI => hs (i + 1) (Nat.succ_lt_succ hi) ds ρ hI
        refine ⟨d :: ds, ρ', ?_, by simpa using h4⟩
        have e3 : e ρ2 = some (d, ρ3) := e3
        simp only [if_true, e3, Option.bind_some, e4]
      | false =>
        obtain ⟨ds, ρ', e4, h4⟩ := ih (fun i => I (i + 1)) acc ρ2 (h2 rfl).to fun i hi ds ρ hI => hs (i + 1) (Nat.succ_lt_succ hi) ds ρ hI
        refine ⟨ds, ρ', ?_, by simpa using h4⟩
        simp [e4]
  obtain ⟨ds, ρ', e1, h1⟩ := main xs I [] ρ h0 hs
  exact ⟨_, e1, hq ds ρ' (by simpa using h1)⟩
theorem natD_toNat {r : Int} (h : 0 ≤ r) : natD r.toNat = .int r := by unfold natD; rw [Int.toNat_of_nonneg h]
theorem emod_nat {a b : Int} (hb : 0 < b) : ∃ j : Nat, (j : Int) < b ∧ a % b = (j : Int) := by
  have h1 := Int.emod_nonneg a (show b ≠ 0 by omega)
  have h2 := Int.emod_lt_of_pos a hb
  exact ⟨(a % b).toNat, by omega, by omega⟩
theorem atI_nat' {α : Type} {xs : List α} {k : Nat} : atI xs (k : Int) = xs[k]? := by
  unfold atI ixN
  by_cases h : k < xs.length
  · rw [if_pos (by omega), if_pos (by omega)]
    simp
  · rw [if_pos (by omega), if_neg (by omega)]
    simp
    omega
theorem atI_at {α : Type} {xs : List α} {k : Nat} (h : k < xs.length) : atI xs (k : Int) = some xs[k] := by rw [atI_nat', List.getElem?_eq_getElem h]
theorem atI_map {α β : Type} {f : α → β} {xs : List α} {k : Nat} (h : k < xs.length) : atI (xs.map f) (k : Int) = some (f xs[k]) := by rw [atI_nat', List.getElem?_map, List.getElem?_eq_getElem h]; rfl
@[simp] theorem atI_0 {α : Type} {x : α} {xs : List α} : atI (x :: xs) 0 = some x := by simpa using atI_nat' (xs := x :: xs) (k := 0)
@[simp] theorem atI_1 {α : Type} {x y : α} {xs : List α} : atI (x :: y :: xs) 1 = some y := by simpa using atI_nat' (xs := x :: y :: xs) (k := 1)
@[simp] theorem atI_2 {α : Type} {x y z : α} {xs : List α} : atI (x :: y :: z :: xs) 2 = some z := by simpa using atI_nat' (xs := x :: y :: z :: xs) (k := 2)
@[simp] theorem atI_3 {α : Type} {x y z u : α} {xs : List α} : atI (x :: y :: z :: u :: xs) 3 = some u := by simpa using atI_nat' (xs := x :: y :: z :: u :: xs) (k := 3)
@[simp] theorem ixN_20 : ixN 2 0 = some 0 := (rfl)
@[simp] theorem ixN_21 : ixN 2 1 = some 1 := (rfl)
@[simp] theorem ixN_30 : ixN 3 0 = some 0 := (rfl)
@[simp] theorem ixN_31 : ixN 3 1 = some 1 := (rfl)
@[simp] theorem ixN_32 : ixN 3 2 = some 2 := (rfl)
@[simp] theorem ixN_40 : ixN 4 0 = some 0 := (rfl)
@[simp] theorem ixN_41 : ixN 4 1 = some 1 := (rfl)
@[simp] theorem ixN_42 : ixN 4 2 = some 2 := (rfl)
@[simp] theorem ixN_43 : ixN 4 3 = some 3 := (rfl)
theorem ixN_nat' {n k : Nat} (h : k < n) : ixN n (k : Int) = some k := by
  unfold ixN
  rw [if_pos (by omega), if_pos (by omega)]
  simp
@[simp] theorem datAt_0 {d : PD} {r : List Cel} : datAt (.dat d :: r) 0 = some d := (rfl)
@[simp] theorem datAt_S {c : Cel} {r : List Cel} {i : Nat} : datAt (c :: r) (i + 1) = datAt r i := (rfl)
@[simp] theorem subAt_0 {d : List PD} {r : List Cel} : subAt (.sub d :: r) 0 = some d := (rfl)
@[simp] theorem subAt_S {c : Cel} {r : List Cel} {i : Nat} : subAt (c :: r) (i + 1) = subAt r i := (rfl)
theorem unI_of {α : Type} (f : α → Int) (l : List α) : unI (l.map fun x => PyData.int (f x)) = some (l.map f) := by
  have e : (l.map fun x => PyData.int (f x)) = (l.map f).map PyData.int := by rw [List.map_map]; rfl
  rw [e]
  exact @unI_map kk0 _
theorem unB_of {α : Type} (f : α → Bool) (l : List α) : unB (l.map fun x => PyData.bool (f x)) = some (l.map f) := by
  have e : (l.map fun x => PyData.bool (f x)) = (l.map f).map PyData.bool := by rw [List.map_map]; rfl
  rw [e]
  exact @unB_map kk0 _
end
end Uv
namespace Uv
end Uv

namespace Uv
open PySem PySem.Spec PyProof.Rows L2
structure Road where
  b : Option Nat
  e : Option Nat
  r : Int
structure Web where
  roads : List Road
  gives : List (List Nat)
  takes : List (List Nat)
def endD : Option Nat → PD
  | none => .none
  | some n => natD n
def roadD (x : Road) : PD := .tuple [endD x.b, endD x.e, .int x.r]
def natsD (l : List Nat) : PD := .tuple (l.map natD)
def webD (W : Web) : PD := .tuple [.tuple (W.roads.map roadD), .tuple (W.gives.map natsD), .tuple (W.takes.map natsD)]
def side (s : Nat) (x : Road) : Option Nat := if s = 0 then x.b else x.e
def atR (rs : List Road) (s h : Nat) : List Nat := (rs.zipIdx.filter fun p => side s p.1 == some h).map (·.2)
def OkRoad (n : Nat) (x : Road) : Prop := x.b ≠ x.e ∧ (∀ h, x.b = some h → h < n) ∧ (∀ h, x.e = some h → h < n) ∧ 0 ≤ x.r ∧ x.r ≤ 1000000000000
structure IsWeb (W : Web) : Prop where
  houses : 1 ≤ W.gives.length ∧ W.gives.length ≤ 8
  same : W.takes.length = W.gives.length
  count : 1 ≤ W.roads.length ∧ W.roads.length ≤ 20
  road : ∀ x ∈ W.roads, OkRoad W.gives.length x
  give : ∀ (h : Nat) (l : List Nat), W.gives[h]? = some l → l.Perm (atR W.roads 0 h)
  take : ∀ (h : Nat) (l : List Nat), W.takes[h]? = some l → l.Perm (atR W.roads 1 h)
theorem zip_sorted {α : Type} : ∀ (xs : List α) (n : Nat) (p : α × Nat → Bool), (((xs.zipIdx n).filter p).map (·.2)).Pairwise (· < ·) ∧ ∀ k ∈ ((xs.zipIdx n).filter p).map (·.2), n ≤ k
  | [], n, p => by simp
  | x :: xs, n, p => by
    obtain ⟨h1, h2⟩ := zip_sorted xs (n + 1) p
    rw [List.zipIdx_cons, List.filter_cons]
    by_cases c : p (x, n) = true
    · rw [if_pos c, List.map_cons]
      refine ⟨List.pairwise_cons.mpr ⟨fun k hk => by have := h2 k hk; show n < k; omega, h1⟩, fun k hk => ?_⟩
      rcases List.mem_cons.mp hk with e | e
      · rw [e]; exact Nat.le_refl _
      · have := h2 k e; omega
    · rw [if_neg c]
      exact ⟨h1, fun k hk => by have := h2 k hk; omega⟩
theorem atR_sorted (rs : List Road) (s h : Nat) : (atR rs s h).Pairwise (· < ·) := (zip_sorted rs 0 _).1
end Uv

namespace Uv
open PySem PySem.Spec PyProof.Rows L2
theorem ok_app {a b : Str} (ha : PyData.strOk a = true) (hb : PyData.strOk b = true) : PyData.strOk (a ++ b) = true := by
  show ((a.cps ++ b.cps).all _) = true
  rw [Array.all_append]
  exact Bool.and_eq_true_iff.mpr ⟨ha, hb⟩
theorem ok_ofS (x : String) : PyData.strOk (Str.ofString x) = true := by
  rw [Str.ofString_eq_toList]
  unfold PyData.strOk
  simp only [List.all_toArray, List.all_map, List.all_eq_true]
  intro c _
  have := c.valid
  simp only [Function.comp_apply, decide_eq_true_eq]
  have h : c.toNat = c.val.toNat := rfl
  rcases this with h1 | h1
  · omega
  · omega
theorem ok_join {sep : Str} (hs : PyData.strOk sep = true) : ∀ {ts : List Str}, (∀ t ∈ ts, PyData.strOk t = true) → PyData.strOk (Str.join sep ts) = true
  | [], _ => by simp [Str.join, Str.empty, PyData.strOk]
  | [t], h => h t (List.mem_cons_self ..)
  | t :: u :: r, h => by
    show PyData.strOk (t ++ sep ++ Str.join sep (u :: r)) = true
    exact ok_app (ok_app (h t (List.mem_cons_self ..)) hs) (ok_join hs fun x hx => h x (List.mem_cons_of_mem _ hx))
theorem ok_from : ∀ {ts : List Str} {k : Nat} {acc : Str}, PyData.strOk acc = true → (∀ t ∈ ts, PyData.strOk t = true) → PyData.strOk (textFrom k acc ts) = true
  | [], _, _, ha, _ => ha
  | t :: r, k, acc, ha, h => by
    show PyData.strOk (textFrom (k + 1) _ r) = true
    exact ok_from (ok_app (ok_app ha (ok_ofS _)) (h t (List.mem_cons_self ..))) fun x hx => h x (List.mem_cons_of_mem _ hx)
structure Sho (k n : Nat) (d : PD) : Prop where
  sh : d.showable = true
  nd : scrF d = true
  dp : d.depth ≤ k
  ln : d.shown.length ≤ n
  ok : PyData.strOk d.shown = true
section
variable {k n : Nat} {d : PD} {ds : List PD}
theorem Sho.mono {k' n' : Nat} (h : Sho k n d) (hk : k ≤ k') (hn : n ≤ n') : Sho k' n' d := ⟨h.sh, h.nd, Nat.le_trans h.dp hk, Nat.le_trans h.ln hn, h.ok⟩
theorem Sho.non : Sho k 5 .none := ⟨rfl, rfl, Nat.zero_le _, by decide, ok_ofS _⟩
theorem Sho.bool {b : Bool} : Sho k 5 (.bool b) := ⟨rfl, rfl, Nat.zero_le _, by cases b <;> decide, by cases b <;> exact ok_ofS _⟩
theorem Sho.int {i : Int} (h : i.natAbs < 10 ^ 40) : Sho k 41 (.int i) := by
  refine ⟨?_, rfl, Nat.zero_le _, ?_, ok_ofS _⟩
  · rw [PyData.showable, decide_eq_true_eq]
    by_cases c : i.natAbs = 0
    · rw [c]; decide
    · have : i.natAbs.log2 < 140 := (Nat.log2_lt c).mpr (Nat.lt_of_lt_of_le h (by decide))
      omega
  · show (Str.ofString (toString i)).length ≤ 41
    rw [PySem.ofString_length]
    exact int_text_length_le10 (k := 40) (by decide) h
theorem all_show (h : ∀ d ∈ ds, PyData.showable d = true) : PyData.showableAll ds = true := by
  induction ds with
  | nil => rfl
  | cons d ds ih => rw [PyData.showableAll, h d (List.mem_cons_self ..), ih fun x hx => h x (List.mem_cons_of_mem _ hx)]; rfl
theorem all_noD (h : ∀ d ∈ ds, scrF d = true) : scrFs ds = true := by
  induction ds with
  | nil => rfl
  | cons d ds ih => rw [scrFs, h d (List.mem_cons_self ..), ih fun x hx => h x (List.mem_cons_of_mem _ hx)]; rfl
theorem all_depth (h : ∀ d ∈ ds, PyData.depth d ≤ n) : PyData.depthAll ds ≤ n := by
  induction ds with
  | nil => exact Nat.zero_le _
  | cons d ds ih =>
    have h1 := h d (List.mem_cons_self ..)
    have h2 := ih fun x hx => h x (List.mem_cons_of_mem _ hx)
    rw [PyData.depthAll]
    omega
theorem all_shown (h : ∀ d ∈ ds, PyData.strOk d.shown = true) : ∀ t ∈ PyData.shownAll ds, PyData.strOk t = true := by
  induction ds with
  | nil => intro t ht; exact nomatch ht
  | cons d ds ih =>
    intro t ht
    rw [PyData.shownAll] at ht
    rcases List.mem_cons.mp ht with e | e
    · rw [e]; exact h d (List.mem_cons_self ..)
    · exact ih (fun x hx => h x (List.mem_cons_of_mem _ hx)) t e
theorem all_len (h : ∀ d ∈ ds, d.shown.length ≤ n) : ((PyData.shownAll ds).map (·.length)).sum + 2 * (PyData.shownAll ds).length ≤ ds.length * (n + 2) := by
  induction ds with
  | nil => exact Nat.zero_le _
  | cons d ds ih =>
    have h1 := h d (List.mem_cons_self ..)
    have h2 := ih fun x hx => h x (List.mem_cons_of_mem _ hx)
    rw [PyData.shownAll]
    simp only [List.map_cons, List.sum_cons, List.length_cons, Nat.succ_mul]
    omega
theorem Sho.tup {L : Nat} (h : ∀ d ∈ ds, Sho k n d) (hl : ds.length ≤ L) : Sho (k + 1) (L * (n + 2) + 3) (.tuple ds) := by
  refine ⟨all_show fun d hd => (h d hd).sh, all_noD fun d hd => (h d hd).nd, Nat.succ_le_succ (all_depth fun d hd => (h d hd).dp), ?_, ?_⟩
  · have h1 := tupleText_len_le (PyData.shownAll ds)
    have h2 := all_len fun d hd => (h d hd).ln
    have h3 := Nat.mul_le_mul_right (n + 2) hl
    show (tupleText (PyData.shownAll ds)).length ≤ _
    omega
  · exact ok_app (ok_app (ok_ofS _) (ok_join (ok_ofS _) (all_shown fun d hd => (h d hd).ok))) (ok_ofS _)
theorem Sho.lst {L : Nat} (h : ∀ d ∈ ds, Sho k n d) (hl : ds.length ≤ L) : Sho (k + 1) (L * (n + 2) + 3) (.list ds) := by
  refine ⟨all_show fun d hd => (h d hd).sh, all_noD fun d hd => (h d hd).nd, Nat.succ_le_succ (all_depth fun d hd => (h d hd).dp), ?_, ?_⟩
  · have h1 := listText_len_le (PyData.shownAll ds)
    have h2 := all_len fun d hd => (h d hd).ln
    have h3 := Nat.mul_le_mul_right (n + 2) hl
    show (listText (PyData.shownAll ds)).length ≤ _
    omega
  · exact ok_app (ok_from (ok_ofS _) (all_shown fun d hd => (h d hd).ok)) (ok_ofS _)
theorem Sho.can (h : Sho 60 10000000 d) : CanShow d := ⟨h.sh, h.nd, h.dp, Nat.le_trans h.ln (by rw [sizeLine_eq]; decide)⟩
theorem rp_of (h : Sho 60 10000000 d) : reprP d = some (.str d.shown) := by
  unfold reprP
  rw [if_pos h.can]
theorem ne_str {x : Str} (h : PyData.strOk x = true) : neP (.str x) (.str x) = some (.bool false) := by
  have e : SeqAt.shaped (.str x) = true := by
    unfold SeqAt.shaped
    rw [show PyData.canLay0 (.str x) = PyData.strOk x by simp [PyData.canLay0], h]
    rfl
  unfold neP
  rw [if_pos ⟨e, e⟩]
  simp [PyData.eqv]
theorem ne_shown (h : Sho 60 10000000 d) : neP (.str d.shown) (.str d.shown) = some (.bool false) := ne_str h.ok
structure Lay (k : Nat) (d : PD) : Prop where
  cl : d.canLay0 = true
  dp : d.depth ≤ k
theorem all_lay (h : ∀ d ∈ ds, PyData.canLay0 d = true) : PyData.canLayAll0 ds = true := by
  induction ds with
  | nil => rfl
  | cons d ds ih => rw [PyData.canLayAll0, h d (List.mem_cons_self ..), ih fun x hx => h x (List.mem_cons_of_mem _ hx)]; rfl
theorem Lay.non : Lay k .none := ⟨rfl, Nat.zero_le _⟩
theorem Lay.bool {b : Bool} : Lay k (.bool b) := ⟨rfl, Nat.zero_le _⟩
theorem Lay.int {i : Int} : Lay k (.int i) := ⟨rfl, Nat.zero_le _⟩
theorem Lay.tup (h : ∀ d ∈ ds, Lay k d) : Lay (k + 1) (.tuple ds) := ⟨all_lay fun d hd => (h d hd).cl, Nat.succ_le_succ (all_depth fun d hd => (h d hd).dp)⟩
theorem Lay.lst (h : ∀ d ∈ ds, Lay k d) : Lay (k + 1) (.list ds) := ⟨all_lay fun d hd => (h d hd).cl, Nat.succ_le_succ (all_depth fun d hd => (h d hd).dp)⟩
theorem Lay.mono {k' : Nat} (h : Lay k d) (hk : k ≤ k') : Lay k' d := ⟨h.cl, Nat.le_trans h.dp hk⟩
theorem Lay.sh (h : Lay 60 d) : SeqAt.shaped d = true := by
  unfold SeqAt.shaped
  rw [h.cl, Bool.true_and, decide_eq_true_eq]
  exact Nat.le_trans h.dp (by decide)
theorem Lay.map {α : Type} {f : α → PD} {l : List α} (h : ∀ x, Lay k (f x)) : ∀ d ∈ l.map f, Lay k d := fun d hd => by obtain ⟨x, _, rfl⟩ := List.mem_map.mp hd; exact h x
theorem eqP_lay {e : PD} (h : Lay 60 d) (h' : Lay 60 e) : eqP d e = some (.bool (PyData.eqv d e)) := by unfold eqP; rw [if_pos ⟨h.sh, h'.sh⟩]
theorem neP_lay {e : PD} (h : Lay 60 d) (h' : Lay 60 e) : neP d e = some (.bool (!PyData.eqv d e)) := by unfold neP; rw [if_pos ⟨h.sh, h'.sh⟩]
end
end Uv

namespace Uv
open PySem PySem.Spec PyProof.Rows L2
structure Tie where
  g : Nat
  t : Nat
  r : Int
structure Seat where
  much : Int
  order : List Nat
structure Fair where
  ties : List Tie
  givers : List Seat
  takers : List Seat
def intsD (l : List Int) : PD := .tuple (l.map PyData.int)
def tieD (x : Tie) : PD := .tuple [natD x.g, natD x.t, .int x.r]
def seatD (x : Seat) : PD := .tuple [.int x.much, natsD x.order]
def fairD (F : Fair) : PD := .tuple [.tuple (F.ties.map tieD), .tuple (F.givers.map seatD), .tuple (F.takers.map seatD)]
section
variable {ρ : Env} {v : VE}
@[simp] theorem q_star {a : XE} {as : XA} : xStar a as v = (a v).bind fun x => (partsP x).bind fun xs => (as v).bind fun ys => some (xs ++ ys) := (rfl)
@[simp] theorem q_parts_t {ds : List PD} : partsP (.tuple ds) = some ds := (rfl)
@[simp] theorem q_parts_l {ds : List PD} : partsP (.list ds) = some ds := (rfl)
@[simp] theorem q_cat {xs ys : List PD} : catP (.list xs) (.list ys) = grd (xs.length + ys.length ≤ 100000) (some (.list (xs ++ ys))) := by unfold catP; simp only [grd_ite]
@[simp] theorem q_rep {xs : List PD} {j : Int} : repP (.list xs) (.int j) = grd (0 ≤ j ∧ j ≤ 100000 ∧ xs.length * j.toNat ≤ 100000) (some (.list (List.replicate j.toNat xs).flatten)) := by unfold repP; simp only [grd_ite]
@[simp] theorem q_mul_l {xs : List PD} {j : Int} : mulP (.list xs) (.int j) = grd (0 ≤ j ∧ j ≤ 100000 ∧ xs.length * j.toNat ≤ 100000) (some (.list (List.replicate j.toNat xs).flatten)) := by unfold mulP; simp only [grd_ite]
@[simp] theorem q_mulU_i {i j : Int} : mulU (.int i) (.int j) = grd (In64 i ∨ In64 j) (some (.int (i * j))) := by show mulP (.int i) (.int j) = _; exact q_mul
@[simp] theorem q_mulU_l {xs : List PD} {j : Int} : mulU (.list xs) (.int j) = grd (0 ≤ j ∧ j ≤ 100000 ∧ xs.length * j.toNat ≤ 100000) (some (.list (List.replicate j.toNat xs).flatten)) := by show mulP (.list xs) (.int j) = _; exact q_mul_l
@[simp] theorem q_mulU_t {xs : List PD} {j : Int} : mulU (.tuple xs) (.int j) = grd (xs ≠ [] ∧ 0 ≤ j ∧ j ≤ 1000 ∧ xs.length ≤ 1000) (some (.tuple (List.replicate j.toNat xs).flatten)) := by unfold mulU; simp only [grd_ite]
@[simp] theorem q_minU_l {ds : List PD} : minU [.list ds] = (unI ds).bind minL := (rfl)
@[simp] theorem q_minU_2 {i j : Int} : minU [.int i, .int j] = some (.int (if j < i then j else i)) := (rfl)
@[simp] theorem q_minU_3 {i j k : Int} : minU [.int i, .int j, .int k] = some (.int (if k < (if j < i then j else i) then k else (if j < i then j else i))) := (rfl)
@[simp] theorem q_maxP_2 {i j : Int} : maxP [.int i, .int j] = some (.int (if j > i then j else i)) := (rfl)
@[simp] theorem q_back_l {ds : List PD} : backP (.list ds) = some (.list ds.reverse) := (rfl)
@[simp] theorem q_back_t {ds : List PD} : backP (.tuple ds) = some (.tuple ds.reverse) := (rfl)
@[simp] theorem q_backL {ds : List PD} : backL (.list ds) = some (.list ds.reverse) := (rfl)
theorem q_rgP {n : Int} : rgP (.int n) = grd (-(2 ^ 62) ≤ n ∧ n ≤ 100000) (some ((List.range n.toNat).map natD)) := by unfold rgP; simp only [grd_ite]
structure Rg (n : Int) : Prop where
  lo : -(2 ^ 62) ≤ n
  hi : n ≤ 100000
@[simp] theorem q_rgL {n : Int} : rgL (.int n) = grd (Rg n) (some (.list ((List.range n.toNat).map natD))) := by
  unfold rgL
  rw [q_rgP, grd_iff (c' := Rg n) ⟨fun h => ⟨h.1, h.2⟩, fun h => ⟨h.lo, h.hi⟩⟩]
  unfold grd
  split <;> rfl
@[simp] theorem q_rgT {n : Int} : rgT (.int n) = grd (Rg n) (some (.tuple ((List.range n.toNat).map natD))) := by
  unfold rgT
  rw [q_rgP, grd_iff (c' := Rg n) ⟨fun h => ⟨h.1, h.2⟩, fun h => ⟨h.lo, h.hi⟩⟩]
  unfold grd
  split <;> rfl
@[simp] theorem q_three {a b c : Cel} : three [a, b, c] = some (a, b, c) := (rfl)
@[simp] theorem q_sPar3 {i j k : Nat} {as : XWC} : sPar3 i j k as ρ = (as ρ).bind fun x => (three x.1).bind fun c => grd (i < x.2.length ∧ j < x.2.length ∧ k < x.2.length) (some (.nxt (((x.2.set i (toSl c.1)).set j (toSl c.2.1)).set k (toSl c.2.2)))) := by unfold sPar3; simp only [grd_ite]
@[simp] theorem q_sAug {i : Nat} {f : Int → Int → Int} {k a : XE} : sAug i f k a ρ = (ownAt ρ i).bind fun cs => ((k (vw ρ)).bind isI).bind fun k => (ixN cs.length k).bind fun n => ((datAt cs n).bind isI).bind fun x => ((a (vw ρ)).bind isI).bind fun y => some (.nxt (ρ.set i (.own (cs.set n (.dat (.int (f x y))))))) := (rfl)
@[simp] theorem q_wOO {f : PD → PD → Option PD} {a b : XW} : wOO f a b ρ = (a ρ).bind fun x => (b x.2).bind fun y => ((f x.1 y.1).bind asList).bind fun ds => some (dats ds, y.2) := (rfl)
@[simp] theorem q_xCut {a : XE} {lo hi : XO} : xCut a lo hi v = (a v).bind fun d => (lo v).bind fun l => (hi v).bind fun h => cutP d l h := (rfl)
@[simp] theorem q_cutP_l {ds : List PD} {l h : Option Int} : cutP (.list ds) l h = some (.list (cutD ds l h)) := (rfl)
@[simp] theorem q_cutP_s {ds : List PD} {l h : Option Int} : cutP (scrD ds) l h = some (.list (cutD ds l h)) := (rfl)
end
section
variable {l : List Nat} {m : List Int} {W : Web} {F : Fair} {x : Road} {t : Tie} {s : Seat} {i : Int} {k : Nat}
@[simp] theorem n_seq : seqP (natsD l) = some (l.map natD) := (rfl)
@[simp] theorem n_len : lenP (natsD l) = some (natD l.length) := by unfold natsD; simp
@[simp] theorem n_ix : ixP (natsD l) (.int i) = atI (l.map natD) i := (rfl)
@[simp] theorem n_tup : tupP (natsD l) = some (natsD l) := (rfl)
@[simp] theorem n_lst : listP (natsD l) = some (.list (l.map natD)) := (rfl)
@[simp] theorem n_parts : partsP (natsD l) = some (l.map natD) := (rfl)
@[simp] theorem n_full : full (natsD l) = false := (rfl)
@[simp] theorem n_isT : isTy .tuple (natsD l) = true := (rfl)
@[simp] theorem n_enum : enumP [natsD l] = some (pairsD (l.map natD)) := (rfl)
@[simp] theorem n_none : isNone (natsD l) = false := (rfl)
@[simp] theorem n_addR {ds : List PD} : addP (.tuple ds) (natsD l) = grd (ds.length + l.length ≤ 100000) (some (.tuple (ds ++ l.map natD))) := by
  unfold natsD
  rw [q_add_t, List.length_map]
theorem flats_of {ds : List PD} (h : ∀ d ∈ ds, flat d = true) : flats ds = true := by
  induction ds with
  | nil => rfl
  | cons d ds ih => rw [q_flats_cons, h d (List.mem_cons_self ..), ih fun x hx => h x (List.mem_cons_of_mem _ hx)]; rfl
theorem flats_map {α : Type} {f : α → PD} {l : List α} (h : ∀ x, flat (f x) = true) : flats (l.map f) = true := flats_of fun d hd => by obtain ⟨x, _, rfl⟩ := List.mem_map.mp hd; exact h x
@[simp] theorem n_flat : flat (natsD l) = true := by unfold natsD; rw [q_flat_t]; exact flats_map fun _ => q_flat_i
@[simp] theorem n_flats : flats (l.map natD) = true := flats_map fun _ => q_flat_i
@[simp] theorem i_flats : flats (m.map PyData.int) = true := flats_map fun _ => q_flat_i
@[simp] theorem i_seq : seqP (intsD m) = some (m.map PyData.int) := (rfl)
@[simp] theorem i_len : lenP (intsD m) = some (natD m.length) := by unfold intsD; simp
@[simp] theorem i_ix : ixP (intsD m) (.int i) = atI (m.map PyData.int) i := (rfl)
@[simp] theorem i_tup : tupP (intsD m) = some (intsD m) := (rfl)
@[simp] theorem i_lst : listP (intsD m) = some (.list (m.map PyData.int)) := (rfl)
@[simp] theorem i_parts : partsP (intsD m) = some (m.map PyData.int) := (rfl)
@[simp] theorem i_full : full (intsD m) = false := (rfl)
@[simp] theorem i_isT : isTy .tuple (intsD m) = true := (rfl)
@[simp] theorem i_enum : enumP [intsD m] = some (pairsD (m.map PyData.int)) := (rfl)
@[simp] theorem i_none : isNone (intsD m) = false := (rfl)
@[simp] theorem i_flat : flat (intsD m) = true := by unfold intsD; rw [q_flat_t]; exact i_flats
@[simp] theorem w_seq : seqP (webD W) = some [.tuple (W.roads.map roadD), .tuple (W.gives.map natsD), .tuple (W.takes.map natsD)] := (rfl)
@[simp] theorem w_0 : ixP (webD W) (.int 0) = some (.tuple (W.roads.map roadD)) := (rfl)
@[simp] theorem w_1 : ixP (webD W) (.int 1) = some (.tuple (W.gives.map natsD)) := (rfl)
@[simp] theorem w_2 : ixP (webD W) (.int 2) = some (.tuple (W.takes.map natsD)) := (rfl)
@[simp] theorem w_full : full (webD W) = false := (rfl)
@[simp] theorem w_none : isNone (webD W) = false := (rfl)
@[simp] theorem r_seq : seqP (roadD x) = some [endD x.b, endD x.e, .int x.r] := (rfl)
@[simp] theorem r_0 : ixP (roadD x) (.int 0) = some (endD x.b) := (rfl)
@[simp] theorem r_1 : ixP (roadD x) (.int 1) = some (endD x.e) := (rfl)
@[simp] theorem r_2 : ixP (roadD x) (.int 2) = some (.int x.r) := (rfl)
@[simp] theorem e_none {o : Option Nat} : isNone (endD o) = o.isNone := by cases o <;> rfl
@[simp] theorem e_flat {o : Option Nat} : flat (endD o) = true := by cases o <;> simp [endD]
@[simp] theorem r_flat : flat (roadD x) = true := by simp [roadD]
theorem eq_end {o : Option Nat} {h : Nat} : eqP (endD o) (natD h) = some (.bool (o == some h)) := by
  cases o with
  | none => rfl
  | some n => simp [endD]; exact Bool.eq_iff_iff.mpr (by simp; omega)
@[simp] theorem f_seq : seqP (fairD F) = some [.tuple (F.ties.map tieD), .tuple (F.givers.map seatD), .tuple (F.takers.map seatD)] := (rfl)
@[simp] theorem f_0 : ixP (fairD F) (.int 0) = some (.tuple (F.ties.map tieD)) := (rfl)
@[simp] theorem f_1 : ixP (fairD F) (.int 1) = some (.tuple (F.givers.map seatD)) := (rfl)
@[simp] theorem f_2 : ixP (fairD F) (.int 2) = some (.tuple (F.takers.map seatD)) := (rfl)
@[simp] theorem f_full : full (fairD F) = false := (rfl)
@[simp] theorem f_isT : isTy .tuple (fairD F) = true := (rfl)
@[simp] theorem f_len : lenP (fairD F) = some (natD 3) := (rfl)
@[simp] theorem t_seq : seqP (tieD t) = some [natD t.g, natD t.t, .int t.r] := (rfl)
@[simp] theorem t_0 : ixP (tieD t) (.int 0) = some (natD t.g) := (rfl)
@[simp] theorem t_1 : ixP (tieD t) (.int 1) = some (natD t.t) := (rfl)
@[simp] theorem t_2 : ixP (tieD t) (.int 2) = some (.int t.r) := (rfl)
@[simp] theorem t_full : full (tieD t) = false := (rfl)
@[simp] theorem t_isT : isTy .tuple (tieD t) = true := (rfl)
@[simp] theorem t_len : lenP (tieD t) = some (natD 3) := (rfl)
@[simp] theorem t_flat : flat (tieD t) = true := by simp [tieD]
@[simp] theorem s_seq : seqP (seatD s) = some [.int s.much, natsD s.order] := (rfl)
@[simp] theorem s_0 : ixP (seatD s) (.int 0) = some (.int s.much) := (rfl)
@[simp] theorem s_1 : ixP (seatD s) (.int 1) = some (natsD s.order) := (rfl)
@[simp] theorem s_full : full (seatD s) = false := (rfl)
@[simp] theorem s_isT : isTy .tuple (seatD s) = true := (rfl)
@[simp] theorem s_len : lenP (seatD s) = some (natD 2) := (rfl)
@[simp] theorem s_flat : flat (seatD s) = true := by simp [seatD]
end
section
variable {i : Int} {b : Bool} {x : Str} {ds : List PD}
@[simp] theorem ty_ii : isTy .int (.int i) = true := (rfl)
@[simp] theorem ty_bi : isTy .bool (.int i) = false := (rfl)
@[simp] theorem ty_ti : isTy .tuple (.int i) = false := (rfl)
@[simp] theorem ty_ib : isTy .int (.bool b) = true := (rfl)
@[simp] theorem ty_bb : isTy .bool (.bool b) = true := (rfl)
@[simp] theorem ty_tt : isTy .tuple (.tuple ds) = true := (rfl)
@[simp] theorem ty_it : isTy .int (.tuple ds) = false := (rfl)
@[simp] theorem ty_bt : isTy .bool (.tuple ds) = false := (rfl)
@[simp] theorem ty_st : isTy .str (.tuple ds) = false := (rfl)
@[simp] theorem ty_in : isTy .int .none = false := (rfl)
@[simp] theorem ty_bn : isTy .bool .none = false := (rfl)
@[simp] theorem ty_tn : isTy .tuple .none = false := (rfl)
@[simp] theorem ty_sn : isTy .str .none = false := (rfl)
@[simp] theorem ty_si : isTy .str (.int i) = false := (rfl)
@[simp] theorem ty_sb : isTy .str (.bool b) = false := (rfl)
@[simp] theorem ty_tb : isTy .tuple (.bool b) = false := (rfl)
theorem q_sum {α : Type} {f : α → Int} {l : List α} : sumP (.list (l.map fun x => .int (f x))) = some (.int (l.map f).sum) := by
  unfold sumP intsP
  simp only [unI_of, Option.bind_some]
theorem q_all {α : Type} {f : α → Bool} {l : List α} : allP (.list (l.map fun x => .bool (f x))) = some (.bool (l.all f)) := by
  unfold allP boolsP
  simp only [unB_of, Option.bind_some, List.all_map]
  rfl
@[simp] theorem all_tt {α : Type} {l : List α} : (l.all fun _ => true) = true := List.all_eq_true.mpr fun _ _ => rfl
end
end Uv

namespace Uv
open PySem PySem.Spec PyProof.Rows L2
variable {ρ : Env}
@[simp] theorem q_mk_dic {l : List (Int × PD)} : (Sl.dic l).mk = none := (rfl)
@[simp] theorem q_vw_dic {l : List (Int × PD)} : (Sl.dic l).vw = none := (rfl)
@[simp] theorem q_dicAt0 {l : List (Int × PD)} {r : Env} : dicAt (.dic l :: r) 0 = some l := (rfl)
@[simp] theorem q_dicAtS {s : Sl} {r : Env} {i : Nat} : dicAt (s :: r) (i + 1) = dicAt r i := (rfl)
@[simp] theorem q_sDNew {i : Nat} : sDNew i ρ = grd (i < ρ.length) (some (.nxt (ρ.set i (.dic [])))) := by
  unfold sDNew
  by_cases c : i < ρ.length
  · rw [if_pos c]; simp [grd, c]
  · rw [if_neg c]; simp [grd, c]
@[simp] theorem q_sEn {i : Nat} {y : XS} : sEn i y ρ = (y ρ).bind fun o => some (fzO i o) := (rfl)
@[simp] theorem fzO_nxt {i : Nat} : fzO i (.nxt ρ) = .nxt (fzE ρ i) := (rfl)
@[simp] theorem fzO_brk {i : Nat} : fzO i (.brk ρ) = .brk (fzE ρ i) := (rfl)
@[simp] theorem fzO_cnt {i : Nat} : fzO i (.cnt ρ) = .cnt (fzE ρ i) := (rfl)
@[simp] theorem fzO_ret {i : Nat} {d : PD} : fzO i (.ret d ρ) = .ret d ρ := (rfl)
@[simp] theorem fzO_retO {i : Nat} {cs : List Cel} : fzO i (.retO cs ρ) = .retO cs ρ := (rfl)
@[simp] theorem q_wDin {i : Nat} {k : XE} : wDin i k ρ = ((k (mk ρ)).bind isI).bind fun n => (dicAt ρ i).bind fun l => some (.bool (hasD l n), ρ) := (rfl)
@[simp] theorem q_wDnot {i : Nat} {k : XE} : wDnot i k ρ = ((k (mk ρ)).bind isI).bind fun n => (dicAt ρ i).bind fun l => some (.bool (!hasD l n), ρ) := (rfl)
@[simp] theorem q_wDget {i : Nat} {k : XE} : wDget i k ρ = ((k (mk ρ)).bind isI).bind fun n => (dicAt ρ i).bind fun l => (getD l n).bind fun d => some (d, ρ) := (rfl)
@[simp] theorem q_sDput {i : Nat} {k : XE} {a : XW} : sDput i k a ρ = (a ρ).bind fun x => ((k (mk x.2)).bind isI).bind fun n => (dicAt x.2 i).bind fun l => grd (l.length < 100000) (some (.nxt (x.2.set i (.dic (putD l n x.1))))) := by
  unfold sDput
  congr 1
  funext x
  congr 1
  funext n
  congr 1
  funext l
  by_cases c : l.length < 100000
  · rw [if_pos c]; simp [grd, c]
  · rw [if_neg c]; simp [grd, c]
end Uv

namespace Fn
open PySem PySem.Spec PyProof.Rows L2 Uv
@[irreducible] def X__law_next_b1 : XS :=
    sSeq (sAsg (gName' 2) (wV (xOp ixP (xOp ixP (xVar 0) (xC (.int 0))) (xC (.int 0)))))
    (sSeq (sIf (wMT (xB (xOp gtU (xVar 2) (xC (.int 0))))) (sSeq (sSetS 0 (xC (.int 0)) (xC (.int 0)) (wM (xOp divP (xVar 2) (xVar 1))))
    (sRet (wM (xOp modP (xVar 2) (xVar 1))))) sNext)
    (sPopS 0 (xC (.int 0)) (xC (.int 0))))
@[irreducible] def X__law_next : XS :=
    sSeq (sWhile fuel (wVT (xB (xOp neP (xOp ixP (xVar 0) (xC (.int 0))) (xLst xNil)))) X__law_next_b1)
    (sSeq (sSet 0 (xC (.int 2)) (wV (xOp addP (xOp ixP (xVar 0) (xC (.int 2))) (xC (.int 1)))))
    (sSeq (sAsg (gName' 3) (wV (xOp modP (xOp ixP (xOp ixP (xVar 0) (xC (.int 1))) (xOp modP (xOp ixP (xVar 0) (xC (.int 2))) (xCB (on1 lenP) (xCons (xOp ixP (xVar 0) (xC (.int 1))) xNil)))) (xC (.int 2147483647)))))
    (sSeq (sAsg (gName' 4) (wV (xOp addP (xOp addP (xOp mulU (xVar 3) (xOp addP (xC (.int 48271)) (xOp mulU (xC (.int 40692)) (xOp ixP (xVar 0) (xC (.int 2)))))) (xOp mulU (xOp mulU (xC (.int 69621)) (xOp ixP (xVar 0) (xC (.int 2)))) (xOp ixP (xVar 0) (xC (.int 2))))) (xC (.int 13)))))
    (sSeq (sAsg (gName' 4) (wM (xOp modP (xVar 4) (xC (.int 2147483629)))))
    (sRet (wM (xOp modP (xOp divP (xOp modP (xOp mulU (xVar 4) (xVar 4)) (xC (.int 2147483587))) (xC (.int 16))) (xVar 1))))))))
@[irreducible] def F__law_next : List Cel → List PD → Option (PD × List Cel) := runW 1 3 X__law_next
@[irreducible] def X__law_one : XS :=
    sRet (wOp ixP (wM (xVar 1)) (wCallK 0 F__law_next (wCons (wM (xCB (on1 lenP) (xCons (xVar 1) xNil))) wNil)))
@[irreducible] def F__law_one : List Cel → List PD → Option (PD × List Cel) := runW 1 0 X__law_one
@[irreducible] def X__law_bent_text : XS :=
    sSeq (sAsg (gName' 2) (wCallK 0 F__law_next (wCons (wM (xOp addX (xCB (on1 lenT) (xCons (xVar 1) xNil)) (xC (.int 1)))) wNil)))
    (sSeq (sAsg (gName' 3) (wOp ixT (wM (xC (.str " -,0123456789\nx"))) (wCallK 0 F__law_next (wCons (wM (xC (.int 15))) wNil))))
    (sSeq (sAsg (gName' 4) (wM (xLst (xCons (xOp addX (xOp addX (xSlS (xVar 1) xNoPart (xPart (xVar 2))) (xVar 3)) (xSlS (xVar 1) (xPart (xVar 2)) xNoPart)) (xCons (xOp addX (xOp addX (xSlS (xVar 1) xNoPart (xPart (xVar 2))) (xVar 3)) (xSlS (xVar 1) (xPart (xOp addX (xVar 2) (xC (.int 1)))) xNoPart)) (xCons (xOp addX (xSlS (xVar 1) xNoPart (xPart (xVar 2))) (xSlS (xVar 1) (xPart (xOp addX (xVar 2) (xC (.int 1)))) xNoPart)) (xCons (xOp addX (xVar 1) (xC (.str " 0"))) xNil)))))))
    (sSeq (sAsg (gName' 4) (wM (xOp addX (xVar 4) (xLst (xCons (xOp addX (xVar 1) (xC (.str "\n"))) (xCons (xOp addX (xC (.str " ")) (xVar 1)) (xCons (xUn (replT " " "  ") (xVar 1)) (xCons (xUn revT (xVar 1)) (xCons (xOp addX (xC (.str "0")) (xVar 1)) (xCons (xSlS (xVar 1) xNoPart (xPart (xVar 2))) (xCons (xOp addX (xVar 1) (xC (.str " "))) xNil)))))))))))
    (sRet (wCallK 0 F__law_one (wCons (wM (xVar 4)) wNil))))))
@[irreducible] def F__law_bent_text : List Cel → List PD → Option (PD × List Cel) := runW 1 3 X__law_bent_text
@[irreducible] def X__law_deck_h : XS :=
    sSeq (sAsg (gName' 1) (wM (xLc (xiE (xVar 0)) (gvName 2) xYes (xCB (on1 absP) (xCons (xVar 2) xNil)) [2])))
    (sRetO (wOL (wcSub (wOM (xLc (xiE (xVar 1)) (gvName 2) (xB (xOp geP (xVar 2) (xOp powP (xC (.int 10)) (xC (.int 18))))) (xVar 2) [2])) (wcSub (wOM (xOp catP (xVar 1) (xLst (xCons (xOp addP (xCB (on1 lenP) (xCons (xVar 1) xNil)) (xC (.int 5))) xNil)))) (wcDat (wM (xC (.int 0))) wcNil)))))
@[irreducible] def F__law_deck_h : List PD → Option (List Cel) := runD 1 2 X__law_deck_h
@[irreducible] def X__law_number_in_b : XS :=
    sSeq (sIf (wMT (xTOr (xB (xOp eqP (xVar 0) (xC (.str "")))) (xTOr (xB (xOp gtU (xCB (on1 lenT) (xCons (xVar 0) xNil)) (xC (.int 13)))) (xB (xOp neP (xLc (xiS (xVar 0)) (gvName 2) (xB (xOp notinS (xVar 2) (xC (.str "0123456789")))) (xVar 2) [2]) (xLst xNil)))))) (sRet (wM (xC .none))) sNext)
    (sSeq (sIf (wMT (xTOr (xTAnd (xB (xOp eqP (xOp ixT (xVar 0) (xC (.int 0))) (xC (.str "0")))) (xB (xOp neP (xVar 0) (xC (.str "0"))))) (xB (xOp gtU (xCB (on1 intT) (xCons (xVar 0) xNil)) (xVar 1))))) (sRet (wM (xC .none))) sNext)
    (sRet (wM (xCB (on1 intT) (xCons (xVar 0) xNil)))))
@[irreducible] def F__law_number_in_b : List PD → Option PD := runP 2 1 X__law_number_in_b
@[irreducible] def X__law_sum : XS :=
    sRet (wM (xCB (on1 sumP) (xCons (xLc (xiA rngP (xCons (xCB (on1 lenP) (xCons (xOp ixP (xVar 0) (xC (.int 0))) xNil)) xNil)) (gvName 4) (xB (xOp eqP (xOp ixP (xOp ixP (xOp ixP (xVar 0) (xC (.int 0))) (xVar 4)) (xVar 2)) (xVar 3))) (xOp ixP (xVar 1) (xVar 4)) [4]) xNil)))
@[irreducible] def F__law_sum : List PD → Option PD := runP 4 1 X__law_sum
@[irreducible] def X__law_whole : XS :=
    sRet (wM (xAnd (xIsi .int (xVar 0)) (xNot (xIsi .bool (xVar 0)))))
@[irreducible] def F__law_whole : List PD → Option PD := runP 1 0 X__law_whole
@[irreducible] def X__law_stream_fault_b1 : XS :=
    sIf (wMT (xB (xOp gtU (xOp ixP (xVar 1) (xVar 2)) (xOp ixP (xOp ixP (xOp ixP (xVar 0) (xC (.int 0))) (xVar 2)) (xC (.int 2)))))) (sRet (wM (xTup (xCons (xC (.str "room")) (xCons (xVar 2) xNil))))) sNext
@[irreducible] def X__law_stream_fault_b2 : XS :=
    sIf (wMT (xB (xOp neP (xCB F__law_sum (xCons (xVar 0) (xCons (xVar 1) (xCons (xC (.int 0)) (xCons (xVar 3) xNil))))) (xCB F__law_sum (xCons (xVar 0) (xCons (xVar 1) (xCons (xC (.int 1)) (xCons (xVar 3) xNil)))))))) (sRet (wM (xTup (xCons (xC (.str "house")) (xCons (xVar 3) xNil))))) sNext
@[irreducible] def X__law_stream_fault : XS :=
    sSeq (sIf (wMT (xTOr (xTNot (xB (xIsi .tuple (xVar 1)))) (xB (xOp neP (xCB (on1 lenP) (xCons (xVar 1) xNil)) (xCB (on1 lenP) (xCons (xOp ixP (xVar 0) (xC (.int 0))) xNil)))))) (sRet (wM (xTup (xCons (xC (.str "form")) xNil)))) sNext)
    (sSeq (sIf (wMT (xB (xOp neP (xLc (xiE (xVar 1)) (gvName 4) (xTOr (xTNot (xB (xCB F__law_whole (xCons (xVar 4) xNil)))) (xB (xOp ltP (xVar 4) (xC (.int 0))))) (xC (.int 1)) [4]) (xLst xNil)))) (sRet (wM (xTup (xCons (xC (.str "form")) xNil)))) sNext)
    (sSeq (sFor (wiA rngP (wCons (wM (xCB (on1 lenP) (xCons (xVar 1) xNil))) wNil)) (gName' 2) X__law_stream_fault_b1)
    (sSeq (sFor (wiA rngP (wCons (wM (xCB (on1 lenP) (xCons (xOp ixP (xVar 0) (xC (.int 1))) xNil))) wNil)) (gName' 3) X__law_stream_fault_b2)
    (sRet (wM (xC .none))))))
@[irreducible] def F__law_stream_fault : List PD → Option PD := runP 2 3 X__law_stream_fault
@[irreducible] def X__law_due_f : XS :=
    sSeq (sIf (wMT (xTNot (xB (xIsi .str (xVar 1))))) (sRet (wM (xLst (xCons (xC (.str "no")) (xCons (xC .none) xNil))))) sNext)
    (sSeq (sAsg (gName' 2) (wM (xLc (xiE (xOp splitT (xVar 1) (xC (.str " ")))) (gvName 3) xYes (xCB F__law_number_in_b (xCons (xVar 3) (xCons (xOp subP (xOp powP (xC (.int 10)) (xC (.int 13))) (xC (.int 1))) xNil))) [3])))
    (sSeq (sIf (wMT (xTOr (xB (xOp inP (xC .none) (xVar 2))) (xB (xOp isntU (xCB F__law_stream_fault (xCons (xVar 0) (xCons (xCB (on1 tupP) (xCons (xVar 2) xNil)) xNil))) (xC .none))))) (sRet (wM (xLst (xCons (xC (.str "no")) (xCons (xC (.int 0)) xNil))))) sNext)
    (sRet (wM (xLst (xCons (xC (.str "stream")) (xCons (xCB (on1 tupP) (xCons (xVar 2) xNil)) xNil)))))))
@[irreducible] def F__law_due_f : List PD → Option PD := runP 2 2 X__law_due_f
@[irreducible] def X__law_round_b_b1 : XS :=
    sSeq (sAsg (gName' 7) (wV (xOp ixP (xOp ixP (xOp ixP (xVar 1) (xC (.int 0))) (xOp ixP (xVar 5) (xUn negP (xC (.int 1))))) (xC (.int 1)))))
    (sSeq (sApp 6 (wM (xVar 7)))
    (sSeq (sAsg (gName' 8) (wM (xLc (xiE (xVar 3)) (gvName 10) (xB (xOp eqP (xOp ixP (xOp ixP (xOp ixP (xVar 1) (xC (.int 0))) (xVar 10)) (xC (.int 0))) (xVar 7))) (xVar 10) [10])))
    (sSeq (sIf (wMT (xB (xOp eqP (xVar 8) (xLst xNil)))) (sFz 6 (sFz 5 (sRetO (wOL wcNil)))) sNext)
    (sApp 5 (wCallK 0 F__law_one (wCons (wM (xVar 8)) wNil))))))
@[irreducible] def X__law_round_b : XS :=
    sSeq (sAsg (gName' 3) (wM (xLc (xiA rngP (xCons (xCB (on1 lenP) (xCons (xOp ixP (xVar 1) (xC (.int 0))) xNil)) xNil)) (gvName 10) (xB (xOp ltP (xOp ixP (xVar 2) (xVar 10)) (xOp ixP (xOp ixP (xOp ixP (xVar 1) (xC (.int 0))) (xVar 10)) (xC (.int 2))))) (xVar 10) [10])))
    (sSeq (sAsg (gName' 4) (wM (xLc (xiE (xVar 3)) (gvName 10) (xB (xOp isU (xOp ixP (xOp ixP (xOp ixP (xVar 1) (xC (.int 0))) (xVar 10)) (xC (.int 0))) (xC .none))) (xVar 10) [10])))
    (sSeq (sIf (wTOr (wMT (xB (xOp eqP (xVar 4) (xLst xNil)))) (wB (wOp eqP (wCallK 0 F__law_next (wCons (wM (xC (.int 3))) wNil)) (wM (xC (.int 0)))))) (sAsg (gName' 4) (wM (xVar 3))) sNext)
    (sSeq (sIf (wMT (xB (xOp eqP (xVar 4) (xLst xNil)))) (sRetO (wOL wcNil)) sNext)
    (sSeq (sOwn 5 (wOL (wcDat (wCallK 0 F__law_one (wCons (wM (xVar 4)) wNil)) wcNil)))
    (sSeq (sOwn 6 (wOL (wcDat (wV (xOp ixP (xOp ixP (xOp ixP (xVar 1) (xC (.int 0))) (xOp ixP (xVar 5) (xC (.int 0)))) (xC (.int 0)))) wcNil)))
    (sSeq (sWhile fuel (wVT (xB (xOp notinP (xOp ixP (xOp ixP (xOp ixP (xVar 1) (xC (.int 0))) (xOp ixP (xVar 5) (xUn negP (xC (.int 1))))) (xC (.int 1))) (xOp addP (xVar 6) (xLst (xCons (xC .none) xNil)))))) X__law_round_b_b1)
    (sFz 6 (sFz 5 (sSeq (sAsg (gName' 9) (wM (xOp ixP (xOp ixP (xOp ixP (xVar 1) (xC (.int 0))) (xOp ixP (xVar 5) (xUn negP (xC (.int 1))))) (xC (.int 1)))))
    (sSeq (sIf (wMT (xTAnd (xB (xOp isU (xVar 9) (xC .none))) (xB (xOp isntU (xOp ixP (xOp ixP (xOp ixP (xVar 1) (xC (.int 0))) (xOp ixP (xVar 5) (xC (.int 0)))) (xC (.int 0))) (xC .none))))) (sRetO (wOL wcNil)) sNext)
    (sRetO (wOM (xCut (xVar 5) (xPart (xOp ixP (xLst (xCons (xIdx (xVar 6) (xVar 9)) (xCons (xC (.int 0)) xNil))) (xCB (on1 toIntP) (xCons (xOp isU (xVar 9) (xC .none)) xNil)))) xNoPart)))))))))))))
@[irreducible] def F__law_round_b : List Cel → List PD → Option (List Cel × List Cel) := runV 2 8 X__law_round_b
@[irreducible] def X__law_stream_f_b1 : XS :=
    sSet 3 (xVar 8) (wV (xOp addP (xOp ixP (xVar 3) (xVar 8)) (xVar 7)))
@[irreducible] def X__law_stream_f_b2 : XS :=
    sSeq (sOwn 5 (wCallV 0 3 F__law_round_b (wM (xVar 1))))
    (sFz 5 (sIf (wMT (xB (xOp neP (xVar 5) (xLst xNil)))) (sSeq (sAsg (gName' 6) (wV (xCB minU (xCons (xLc (xiE (xVar 5)) (gvName 8) xYes (xOp subP (xOp ixP (xOp ixP (xOp ixP (xVar 1) (xC (.int 0))) (xVar 8)) (xC (.int 2))) (xOp ixP (xVar 3) (xVar 8))) [8]) xNil))))
    (sSeq (sAsg (gName' 7) (wCallK 0 F__law_one (wCons (wLst (wCons (wM (xC (.int 1))) (wCons (wM (xVar 6)) (wCons (wOp addP (wM (xC (.int 1))) (wCallK 0 F__law_next (wCons (wM (xVar 6)) wNil))) wNil)))) wNil)))
    (sFor (wiE (wM (xVar 5))) (gName' 8) X__law_stream_f_b1))) sNext))
@[irreducible] def X__law_stream_f : XS :=
    sSeq (sOwn 3 (wOM (xOp repP (xLst (xCons (xC (.int 0)) xNil)) (xCB (on1 lenP) (xCons (xOp ixP (xVar 1) (xC (.int 0))) xNil)))))
    (sSeq (sFor (wiA rngP (wCons (wM (xVar 2)) wNil)) (gName' 4) X__law_stream_f_b2)
    (sFz 3 (sRet (wM (xCB (on1 tupP) (xCons (xVar 3) xNil))))))
@[irreducible] def F__law_stream_f : List Cel → List PD → Option (PD × List Cel) := runW 2 6 X__law_stream_f
@[irreducible] def X_check_text_b : XS :=
    sIf (wMT (xTNot (xB (xIsi .str (xVar 0))))) (sRv 0 (xC .none)) sNext
@[irreducible] def F_check_text_b : List PD → Option PD := runP 1 0 X_check_text_b
@[irreducible] def X_number_in : XS :=
    sSeq (sIf (wMT (xTOr (xTNot (xB (xUn isascT (xVar 0)))) (xTOr (xTNot (xB (xUn isdigT (xVar 0)))) (xB (xOp gtU (xCB (on1 lenT) (xCons (xVar 0) xNil)) (xC (.int 13))))))) (sRet (wM (xC .none))) sNext)
    (sSeq (sIf (wMT (xTAnd (xB (xOp startsT (xVar 0) (xC (.str "0")))) (xB (xOp neP (xVar 0) (xC (.str "0")))))) (sRet (wM (xC .none))) sNext)
    (sRet (wM (xCB (on1 intT) (xCons (xVar 0) xNil)))))
@[irreducible] def F_number_in : List PD → Option PD := runP 1 0 X_number_in
@[irreducible] def X_borne : XS :=
    sRet (wM (xCB (on1 sumP) (xCons (xLc (xiE (xVar 1)) (gvName 2) xYes (xOp ixP (xVar 0) (xVar 2)) [2]) xNil)))
@[irreducible] def F_borne : List PD → Option PD := runP 2 1 X_borne
@[irreducible] def X_is_number : XS :=
    sRet (wM (xAnd (xIsi .int (xVar 0)) (xNot (xIsi .bool (xVar 0)))))
@[irreducible] def F_is_number : List PD → Option PD := runP 1 0 X_is_number
@[irreducible] def X_is_tuple_of : XS :=
    sRet (wM (xAnd (xIsi .tuple (xVar 0)) (xChain leP leP (xVar 1) (xCB (on1 lenP) (xCons (xVar 0) xNil)) (xVar 2))))
@[irreducible] def F_is_tuple_of : List PD → Option PD := runP 3 0 X_is_tuple_of
@[irreducible] def X_is_form : XS :=
    sRet (wM (xAnd (xCB F_is_tuple_of (xCons (xVar 0) (xCons (xVar 1) (xCons (xVar 1) xNil)))) (xCB (on1 allP) (xCons (xLc (xiE (xVar 0)) (gvName 2) xYes (xAnd (xCB F_is_number (xCons (xVar 2) xNil)) (xOp geP (xVar 2) (xC (.int 0)))) [2]) xNil))))
@[irreducible] def F_is_form : List PD → Option PD := runP 2 1 X_is_form
@[irreducible] def X_streamfault_b1 : XS :=
    sIf (wMT (xB (xOp gtU (xVar 6) (xOp ixP (xOp ixP (xVar 2) (xVar 5)) (xC (.int 2)))))) (sRet (wM (xTup (xCons (xC (.str "room")) (xCons (xVar 5) xNil))))) sNext
@[irreducible] def X_streamfault_b2 : XS :=
    sIf (wMT (xB (xOp neP (xCB F_borne (xCons (xVar 1) (xCons (xOp ixP (xVar 4) (xVar 7)) xNil))) (xCB F_borne (xCons (xVar 1) (xCons (xVar 8) xNil)))))) (sRet (wM (xTup (xCons (xC (.str "house")) (xCons (xVar 7) xNil))))) sNext
@[irreducible] def X_streamfault : XS :=
    sSeq (sAsg (gTup' 3 (gCons' (gName' 2) (gCons' (gName' 3) (gCons' (gName' 4) gNil')))) (wM (xVar 0)))
    (sSeq (sIf (wMT (xTNot (xB (xCB F_is_form (xCons (xVar 1) (xCons (xCB (on1 lenP) (xCons (xVar 2) xNil)) xNil)))))) (sRet (wM (xTup (xCons (xC (.str "form")) xNil)))) sNext)
    (sSeq (sFor (wiA enumP (wCons (wM (xVar 1)) wNil)) (gTup' 2 (gCons' (gName' 5) (gCons' (gName' 6) gNil'))) X_streamfault_b1)
    (sSeq (sFor (wiA enumP (wCons (wM (xVar 3)) wNil)) (gTup' 2 (gCons' (gName' 7) (gCons' (gName' 8) gNil'))) X_streamfault_b2)
    (sRet (wM (xC .none))))))
@[irreducible] def F_streamfault : List PD → Option PD := runP 2 7 X_streamfault
@[irreducible] def X_read_stream_b : XS :=
    sSeq (sDropY F_check_text_b (xCons (xVar 1) xNil))
    (sSeq (sAsg (gName' 2) (wM (xCB (on1 tupP) (xCons (xLc (xiE (xOp splitT (xVar 1) (xC (.str " ")))) (gvName 3) xYes (xCB F_number_in (xCons (xVar 3) xNil)) [3]) xNil))))
    (sSeq (sIf (wMT (xB (xOp isntU (xCB F_streamfault (xCons (xVar 0) (xCons (xVar 2) xNil))) (xC .none)))) (sRv 0 (xC (.int 0))) sNext)
    (sRet (wM (xVar 2)))))
@[irreducible] def F_read_stream_b : List PD → Option PD := runP 2 2 X_read_stream_b
@[irreducible] def X__law_told_r : XS :=
    sSeq (sAsg (gName' 2) (wM (xC .none)))
    (sSeq (sTryV (sAsgL "stream" (xCB F_read_stream_b (xCons (xVar 0) (xCons (xVar 1) xNil))) 2) [0] 3 2 4)
    (sRet (wM (xVar 2))))
@[irreducible] def F__law_told_r : List PD → Option PD := runP 2 2 X__law_told_r
@[irreducible] def X__law_order_b1 : XS :=
    sIns 2 (wCons (wCallK 0 F__law_next (wCons (wV (xOp addP (xCB (on1 lenP) (xCons (xVar 2) xNil)) (xC (.int 1)))) wNil)) (wCons (wM (xVar 3)) wNil))
@[irreducible] def X__law_order : XS :=
    sSeq (sOwn 2 (wOL wcNil))
    (sSeq (sFor (wiE (wM (xVar 1))) (gName' 3) X__law_order_b1)
    (sFz 2 (sRet (wM (xCB (on1 tupP) (xCons (xVar 2) xNil))))))
@[irreducible] def F__law_order : List Cel → List PD → Option (PD × List Cel) := runW 1 2 X__law_order
@[irreducible] def X__law_room : XS :=
    sSeq (sAsg (gName' 2) (wCallK 0 F__law_one (wCons (wM (xLst (xCons (xC (.int 0)) (xCons (xC (.int 1)) (xCons (xC (.int 1)) (xCons (xC (.int 2)) (xCons (xC (.int 3)) (xCons (xC (.int 5)) xNil)))))))) wNil)))
    (sSeq (sAsg (gName' 3) (wCallK 0 F__law_one (wCons (wLst (wCons (wM (xC (.int 1))) (wCons (wM (xC (.int 2))) (wCons (wM (xOp powP (xC (.int 10)) (xC (.int 12)))) (wCons (wOp subP (wM (xOp powP (xC (.int 10)) (xC (.int 12)))) (wCallK 0 F__law_next (wCons (wM (xC (.int 3))) wNil))) (wCons (wCallK 0 F__law_next (wCons (wM (xOp powP (xC (.int 10)) (xC (.int 12)))) wNil)) wNil)))))) wNil)))
    (sRet (wM (xOp ixP (xLst (xCons (xVar 2) (xCons (xVar 3) xNil))) (xCB (on1 toIntP) (xCons (xVar 1) xNil))))))
@[irreducible] def F__law_room : List Cel → List PD → Option (PD × List Cel) := runW 1 2 X__law_room
@[irreducible] def X__law_road : XS :=
    sSeq (sAsg (gName' 3) (wCallK 0 F__law_next (wCons (wM (xOp addP (xVar 1) (xC (.int 1)))) wNil)))
    (sSeq (sAsg (gName' 4) (wOp modP (wOp addP (wM (xOp addP (xVar 3) (xC (.int 1)))) (wCallK 0 F__law_next (wCons (wM (xVar 1)) wNil))) (wM (xOp addP (xVar 1) (xC (.int 1))))))
    (sSeq (sAsg (gTup' 2 (gCons' (gName' 5) (gCons' (gName' 6) gNil'))) (wM (xLc (xiE (xTup (xCons (xVar 3) (xCons (xVar 4) xNil)))) (gvName 7) xYes (xOp ixP (xLst (xCons (xC .none) (xCons (xOp subP (xVar 7) (xC (.int 1))) xNil))) (xCB (on1 toIntP) (xCons (xOp gtU (xVar 7) (xC (.int 0))) xNil))) [7])))
    (sRet (wTup (wCons (wM (xVar 5)) (wCons (wM (xVar 6)) (wCons (wCallK 0 F__law_room (wCons (wM (xVar 2)) wNil)) wNil)))))))
@[irreducible] def F__law_road : List Cel → List PD → Option (PD × List Cel) := runW 2 5 X__law_road
@[irreducible] def X__law_web_b1 : XS :=
    sApp 8 (wCallK 0 F__law_order (wCons (wM (xLc (xiA rngP (xCons (xCB (on1 lenP) (xCons (xVar 5) xNil)) xNil)) (gvName 10) (xB (xOp eqP (xOp ixP (xOp ixP (xVar 5) (xVar 10)) (xVar 7)) (xVar 9))) (xVar 10) [10])) wNil))
@[irreducible] def X__law_web_b2 : XS :=
    sSeq (sOwn 8 (wOL wcNil))
    (sSeq (sFor (wiA rngP (wCons (wM (xVar 4)) wNil)) (gName' 9) X__law_web_b1)
    (sFz 8 (sApp 6 (wM (xCB (on1 tupP) (xCons (xVar 8) xNil))))))
@[irreducible] def X__law_web : XS :=
    sSeq (sAsg (gName' 4) (wOp addP (wM (xC (.int 1))) (wCallK 0 F__law_next (wCons (wM (xVar 1)) wNil))))
    (sSeq (sAsg (gName' 5) (wFz (wLc (wiA rngP (wCons (wOp addP (wM (xC (.int 1))) (wCallK 0 F__law_next (wCons (wM (xVar 2)) wNil))) wNil)) (gName' 10) (wMT xYes) (wCallK 0 F__law_road (wCons (wM (xVar 4)) (wCons (wM (xVar 3)) wNil))) [10])))
    (sSeq (sOwn 6 (wOL wcNil))
    (sSeq (sFor (wiE (wM (xTup (xCons (xC (.int 0)) (xCons (xC (.int 1)) xNil))))) (gName' 7) X__law_web_b2)
    (sFz 6 (sRet (wM (xTup (xCons (xCB (on1 tupP) (xCons (xVar 5) xNil)) (xCons (xOp ixP (xVar 6) (xC (.int 0))) (xCons (xOp ixP (xVar 6) (xC (.int 1))) xNil))))))))))
@[irreducible] def F__law_web : List Cel → List PD → Option (PD × List Cel) := runW 3 7 X__law_web
@[irreducible] def X_law_z175_b1 : XS :=
    sApp 6 (wCallK 1 F__law_bent_text (wCons (wM (xVar 5)) wNil))
@[irreducible] def X_law_z175_b2 : XS :=
    sIf (wMT (xB (xOp neP (xCB (on1 reprP) (xCons (xCB F__law_told_r (xCons (xVar 3) (xCons (xVar 8) xNil))) xNil)) (xCB (on1 reprP) (xCons (xCB F__law_due_f (xCons (xVar 3) (xCons (xVar 8) xNil))) xNil))))) (sFz 1 (sRet (wM (xC (.bool false))))) sNext
@[irreducible] def X_law_z175_b3 : XS :=
    sSeq (sAsg (gName' 3) (wCallK 1 F__law_web (wCons (wM (xC (.int 8))) (wCons (wM (xC (.int 20))) (wCons (wOp eqP (wCallK 1 F__law_next (wCons (wM (xC (.int 2))) wNil)) (wM (xC (.int 0)))) wNil)))))
    (sSeq (sAsg (gName' 4) (wCallK 1 F__law_stream_f (wCons (wM (xVar 3)) (wCons (wCallK 1 F__law_next (wCons (wM (xC (.int 6))) wNil)) wNil))))
    (sSeq (sAsg (gName' 5) (wM (xOp joinT (xC (.str " ")) (xLc (xiE (xVar 4)) (gvName 9) xYes (xCB (on1 strP) (xCons (xVar 9) xNil)) [9]))))
    (sSeq (sOwn 6 (wOL (wcDat (wM (xVar 5)) (wcDat (wM (xC (.str ""))) (wcDat (wM (xC (.str "-"))) (wcDat (wM (xC .none)) (wcDat (wM (xC (.int 0))) (wcDat (wM (xC (.bool true))) (wcDat (wM (xVar 4)) (wcDat (wM (xLst (xCons (xVar 5) xNil))) (wcDat (wM (xC (.dict []))) wcNil)))))))))))
    (sSeq (sFor (wiA rngP (wCons (wM (xC (.int 20))) wNil)) (gName' 7) X_law_z175_b1)
    (sFz 6 (sFor (wiE (wM (xVar 6))) (gName' 8) X_law_z175_b2))))))
@[irreducible] def X_law_z175 : XS :=
    sSeq (sOwn 1 (wCallD F__law_deck_h (wCons (wM (xVar 0)) wNil)))
    (sSeq (sFor (wiA rngP (wCons (wM (xC (.int 6))) wNil)) (gName' 2) X_law_z175_b3)
    (sFz 1 (sRet (wM (xC (.bool true))))))
@[irreducible] def F_law_z175 : List PD → Option PD := runP 1 9 X_law_z175
@[irreducible] def X_is_number_to : XS :=
    sRet (wM (xAnd (xCB F_is_number (xCons (xVar 0) xNil)) (xChain leP leP (xC (.int 0)) (xVar 0) (xVar 1))))
@[irreducible] def F_is_number_to : List PD → Option PD := runP 2 0 X_is_number_to
section
variable [kk : KK]
theorem ss_X__law_next_b1 : SS (tSeq (tAsg (tOp (rIx K) (tOp (rIx K) (tVar 0) (tC (.int 0))) (tC (.int 0))) (gName 2))
    (tSeq (tIfS (tTest (tOp (rGtU K) (tVar 2) (tC (.int 0)))) (tSeq (tAsg (tOp oDivW (tVar 2) (tVar 1)) (gSub (tOp (rIx K) (tVar 0) (tC (.int 0))) (tC (.int 0)) rSetL))
    (tRet (tOp oMod (tVar 2) (tVar 1)))) tNext)
    (tDrop (tBM K "list" rPopAt (tOp (rIx K) (tVar 0) (tC (.int 0))) (tCons (tC (.int 0)) tNil))))) X__law_next_b1 := by
  unfold X__law_next_b1
  exact ss_seq (ss_asg (sg_name (by decide)) (sw_V (se_op so_ix (se_op so_ix se_var se_int) se_int)))
    (ss_seq (ss_if (swt_M (st_test (se_op so_gtU se_var se_int))) (ss_seq (ss_setS se_int se_int (sw_M (se_op so_div se_var se_var)))
    (ss_ret (sw_M (se_op so_mod se_var se_var)))) ss_next)
    (ss_popS se_int se_int))
def T__law_next : TS :=
    tSeq (tWhile (tTest (tOp (rNeD K) (tOp (rIx K) (tVar 0) (tC (.int 0))) (tLst tNil))) (tSeq (tAsg (tOp (rIx K) (tOp (rIx K) (tVar 0) (tC (.int 0))) (tC (.int 0))) (gName 2))
    (tSeq (tIfS (tTest (tOp (rGtU K) (tVar 2) (tC (.int 0)))) (tSeq (tAsg (tOp oDivW (tVar 2) (tVar 1)) (gSub (tOp (rIx K) (tVar 0) (tC (.int 0))) (tC (.int 0)) rSetL))
    (tRet (tOp oMod (tVar 2) (tVar 1)))) tNext)
    (tDrop (tBM K "list" rPopAt (tOp (rIx K) (tVar 0) (tC (.int 0))) (tCons (tC (.int 0)) tNil))))))
    (tSeq (tAsg (tOp (rAddU K) (tOp (rIx K) (tVar 0) (tC (.int 2))) (tC (.int 1))) (gSub (tVar 0) (tC (.int 2)) rSetL))
    (tSeq (tAsg (tOp oMod (tOp (rIx K) (tOp (rIx K) (tVar 0) (tC (.int 1))) (tOp oMod (tOp (rIx K) (tVar 0) (tC (.int 2))) (tCB (rLenQ K) (tCons (tOp (rIx K) (tVar 0) (tC (.int 1))) tNil)))) (tC (.int 2147483647))) (gName 3))
    (tSeq (tAsg (tOp (rAddU K) (tOp (rAddU K) (tOp (rMulV K) (tVar 3) (tOp (rAddU K) (tC (.int 48271)) (tOp (rMulV K) (tC (.int 40692)) (tOp (rIx K) (tVar 0) (tC (.int 2)))))) (tOp (rMulV K) (tOp (rMulV K) (tC (.int 69621)) (tOp (rIx K) (tVar 0) (tC (.int 2)))) (tOp (rIx K) (tVar 0) (tC (.int 2))))) (tC (.int 13))) (gName 4))
    (tSeq (tAsg (tOp oMod (tVar 4) (tC (.int 2147483629))) (gName 4))
    (tRet (tOp oMod (tOp oDivW (tOp oMod (tOp (rMulV K) (tVar 4) (tVar 4)) (tC (.int 2147483587))) (tC (.int 16))) (tVar 1)))))))
theorem ss__law_next : SS T__law_next X__law_next := by
  unfold X__law_next T__law_next
  exact ss_seq (ss_while (swt_V (st_test (se_op so_ne (se_op so_ix se_var se_int) (SEF.se (sef_lst sa_nil))))) ss_X__law_next_b1)
    (ss_seq (ss_set se_int (sw_V (se_op so_add (se_op so_ix se_var se_int) se_int)))
    (ss_seq (ss_asg (sg_name (by decide)) (sw_V (se_op so_mod (se_op so_ix (se_op so_ix se_var se_int) (se_op so_mod (se_op so_ix se_var se_int) (se_cb sc_len (sa_cons (se_op so_ix se_var se_int) sa_nil)))) se_int)))
    (ss_seq (ss_asg (sg_name (by decide)) (sw_V (se_op so_add (se_op so_add (se_op so_mulV se_var (se_op so_add se_int (se_op so_mulV se_int (se_op so_ix se_var se_int)))) (se_op so_mulV (se_op so_mulV se_int (se_op so_ix se_var se_int)) (se_op so_ix se_var se_int))) se_int)))
    (ss_seq (ss_asg (sg_name (by decide)) (sw_M (se_op so_mod se_var se_int)))
    (ss_ret (sw_M (se_op so_mod (se_op so_div (se_op so_mod (se_op so_mulV se_var se_var) se_int) se_int) se_var)))))))
def T__law_one : TS :=
    tRet (tOp (rIx K) (tVar 1) (tCall (spW F__law_next) [] E0 (tCons (tVar 0) (tCons (tCB (rLenQ K) (tCons (tVar 1) tNil)) tNil))))
theorem ss__law_one : SS T__law_one X__law_one := by
  unfold X__law_one T__law_one
  exact ss_ret (sw_op so_ix (sw_M se_var) (sw_callK (swa_cons (sw_M (se_cb sc_len (sa_cons se_var sa_nil))) swa_nil)))
def T__law_bent_text : TS :=
    tSeq (tAsg (tCall (spW F__law_next) [] E0 (tCons (tVar 0) (tCons (tOp (rAddX K) (tCB rLenS (tCons (tVar 1) tNil)) (tC (.int 1))) tNil))) (gName 2))
    (tSeq (tAsg (tOp (rIx K) (tC (.str " -,0123456789\nx")) (tCall (spW F__law_next) [] E0 (tCons (tVar 0) (tCons (tC (.int 15)) tNil)))) (gName 3))
    (tSeq (tAsg (tLst (tCons (tOp (rAddX K) (tOp (rAddX K) (tSl rSlS (tVar 1) tNoPart (tPart (tVar 2))) (tVar 3)) (tSl rSlS (tVar 1) (tPart (tVar 2)) tNoPart)) (tCons (tOp (rAddX K) (tOp (rAddX K) (tSl rSlS (tVar 1) tNoPart (tPart (tVar 2))) (tVar 3)) (tSl rSlS (tVar 1) (tPart (tOp (rAddX K) (tVar 2) (tC (.int 1)))) tNoPart)) (tCons (tOp (rAddX K) (tSl rSlS (tVar 1) tNoPart (tPart (tVar 2))) (tSl rSlS (tVar 1) (tPart (tOp (rAddX K) (tVar 2) (tC (.int 1)))) tNoPart)) (tCons (tOp (rAddX K) (tVar 1) (tC (.str " 0"))) tNil))))) (gName 4))
    (tSeq (tAsg (tOp (rAddX K) (tVar 4) (tLst (tCons (tOp (rAddX K) (tVar 1) (tC (.str "\n"))) (tCons (tOp (rAddX K) (tC (.str " ")) (tVar 1)) (tCons (CwR.tReplC (tVar 1) " " "  ") (tCons (tRevS (tVar 1)) (tCons (tOp (rAddX K) (tC (.str "0")) (tVar 1)) (tCons (tSl rSlS (tVar 1) tNoPart (tPart (tVar 2))) (tCons (tOp (rAddX K) (tVar 1) (tC (.str " "))) tNil))))))))) (gName 4))
    (tRet (tCall (spW F__law_one) [] E0 (tCons (tVar 0) (tCons (tVar 4) tNil)))))))
theorem ss__law_bent_text : SS T__law_bent_text X__law_bent_text := by
  unfold X__law_bent_text T__law_bent_text
  exact ss_seq (ss_asg (sg_name (by decide)) (sw_callK (swa_cons (sw_M (se_op so_addX (se_cb sc_lenS (sa_cons se_var sa_nil)) se_int)) swa_nil)))
    (ss_seq (ss_asg (sg_name (by decide)) (sw_op so_ixT (sw_M se_str) (sw_callK (swa_cons (sw_M se_int) swa_nil))))
    (ss_seq (ss_asg (sg_name (by decide)) (sw_M (SEF.se (sef_lst (sa_cons (se_op so_addX (se_op so_addX (se_slS se_var sp_none (sp_some se_var)) se_var) (se_slS se_var (sp_some se_var) sp_none)) (sa_cons (se_op so_addX (se_op so_addX (se_slS se_var sp_none (sp_some se_var)) se_var) (se_slS se_var (sp_some (se_op so_addX se_var se_int)) sp_none)) (sa_cons (se_op so_addX (se_slS se_var sp_none (sp_some se_var)) (se_slS se_var (sp_some (se_op so_addX se_var se_int)) sp_none)) (sa_cons (se_op so_addX se_var se_str) sa_nil))))))))
    (ss_seq (ss_asg (sg_name (by decide)) (sw_M (se_op so_addX se_var (SEF.se (sef_lst (sa_cons (se_op so_addX se_var se_str) (sa_cons (se_op so_addX se_str se_var) (sa_cons (se_replC se_var) (sa_cons (se_revS se_var) (sa_cons (se_op so_addX se_str se_var) (sa_cons (se_slS se_var sp_none (sp_some se_var)) (sa_cons (se_op so_addX se_var se_str) sa_nil))))))))))))
    (ss_ret (sw_callK (swa_cons (sw_M se_var) swa_nil))))))
def T__law_deck_h : TS :=
    tSeq (tAsg (tLc (iSeq K (tVar 0)) (gName 2) tYes (tCB rAbsQ (tCons (tVar 2) tNil)) [2]) (gName 1))
    (tRet (tLst (tCons (tLc (iSeq K (tVar 1)) (gName 2) (tTest (tOp oGe (tVar 2) (tOp oPow (tC (.int 10)) (tC (.int 18))))) (tVar 2) [2]) (tCons (tOp (rAddU K) (tVar 1) (tLst (tCons (tOp (rAddU K) (tCB (rLenQ K) (tCons (tVar 1) tNil)) (tC (.int 5))) tNil))) (tCons (tC (.int 0)) tNil)))))
theorem ss__law_deck_h : SS T__law_deck_h X__law_deck_h := by
  unfold X__law_deck_h T__law_deck_h
  exact ss_seq (ss_asg (sg_name (by decide)) (sw_M (SEF.se (sef_lc (si_seq se_var) sgv_name (by decide) st_yes (se_cb sc_abs (sa_cons se_var sa_nil))))))
    (ss_retO (swo_lst (swc_sub (swo_M (sef_lc (si_seq se_var) sgv_name (by decide) (st_test (se_op so_ge se_var (se_op so_pow se_int se_int))) se_var)) (swc_sub (swo_M (sef_op sof_cat se_var (SEF.se (sef_lst (sa_cons (se_op so_add (se_cb sc_len (sa_cons se_var sa_nil)) se_int) sa_nil))))) (swc_dat (sw_M se_int) swc_nil)))))
def T__law_number_in_b : TS :=
    tSeq (tIfS (tOr (tTest (tOp (rEqX K) (tVar 0) (tC (.str "")))) (tOr (tTest (tOp (rGtU K) (tCB rLenS (tCons (tVar 0) tNil)) (tC (.int 13)))) (tTest (tOp (rNeD K) (tLc (iStr (tVar 0)) (gName 2) (tTest (tOp rNotInS (tVar 2) (tC (.str "0123456789")))) (tVar 2) [2]) (tLst tNil))))) (tRet (tC .non)) tNext)
    (tSeq (tIfS (tOr (tAnd (tTest (tOp (rEqX K) (tOp (rIx K) (tVar 0) (tC (.int 0))) (tC (.str "0")))) (tTest (tOp (rNeD K) (tVar 0) (tC (.str "0"))))) (tTest (tOp (rGtU K) (tCB rIntS (tCons (tVar 0) tNil)) (tVar 1)))) (tRet (tC .non)) tNext)
    (tRet (tCB rIntS (tCons (tVar 0) tNil))))
theorem ss__law_number_in_b : SS T__law_number_in_b X__law_number_in_b := by
  unfold X__law_number_in_b T__law_number_in_b
  exact ss_seq (ss_if (swt_M (st_or (st_test (se_op so_eq se_var se_str)) (st_or (st_test (se_op so_gtU (se_cb sc_lenS (sa_cons se_var sa_nil)) se_int)) (st_test (se_op so_ne (SEF.se (sef_lc (si_str se_var) sgv_name (by decide) (st_test (se_op so_notinS se_var se_str)) se_var)) (SEF.se (sef_lst sa_nil))))))) (ss_ret (sw_M se_non)) ss_next)
    (ss_seq (ss_if (swt_M (st_or (st_and (st_test (se_op so_eq (se_op so_ixT se_var se_int) se_str)) (st_test (se_op so_ne se_var se_str))) (st_test (se_op so_gtU (se_cb sc_intS (sa_cons se_var sa_nil)) se_var)))) (ss_ret (sw_M se_non)) ss_next)
    (ss_ret (sw_M (se_cb sc_intS (sa_cons se_var sa_nil)))))
def T__law_sum : TS :=
    tRet (tCB (rSum K) (tCons (tLc (iRng1 (tCons (tCB (rLenQ K) (tCons (tOp (rIx K) (tVar 0) (tC (.int 0))) tNil)) tNil)) (gName 4) (tTest (tOp (rEqX K) (tOp (rIx K) (tOp (rIx K) (tOp (rIx K) (tVar 0) (tC (.int 0))) (tVar 4)) (tVar 2)) (tVar 3))) (tOp (rIx K) (tVar 1) (tVar 4)) [4]) tNil))
theorem ss__law_sum : SS T__law_sum X__law_sum := by
  unfold X__law_sum T__law_sum
  exact ss_ret (sw_M (se_cb sc_sum (sa_cons (SEF.se (sef_lc (si_rng (sa_cons (se_cb sc_len (sa_cons (se_op so_ix se_var se_int) sa_nil)) sa_nil)) sgv_name (by decide) (st_test (se_op so_eq (se_op so_ix (se_op so_ix (se_op so_ix se_var se_int) se_var) se_var) se_var)) (se_op so_ix se_var se_var))) sa_nil)))
def T__law_whole : TS :=
    tRet (tAndV (tCB (rIsi K) (tCons (tVar 0) (tCons (tC (.ty "int")) tNil))) (tNotV (tCB (rIsi K) (tCons (tVar 0) (tCons (tC (.ty "bool")) tNil)))))
theorem ss__law_whole : SS T__law_whole X__law_whole := by
  unfold X__law_whole T__law_whole
  exact ss_ret (sw_M (se_and (se_isi .int rfl se_var) (se_not (se_isi .bool rfl se_var))))
theorem ss_X__law_stream_fault_b1 : SS (tIfS (tTest (tOp (rGtU K) (tOp (rIx K) (tVar 1) (tVar 2)) (tOp (rIx K) (tOp (rIx K) (tOp (rIx K) (tVar 0) (tC (.int 0))) (tVar 2)) (tC (.int 2))))) (tRet (tTupF (tCons (tC (.str "room")) (tCons (tVar 2) tNil)))) tNext) X__law_stream_fault_b1 := by
  unfold X__law_stream_fault_b1
  exact ss_if (swt_M (st_test (se_op so_gtU (se_op so_ix se_var se_var) (se_op so_ix (se_op so_ix (se_op so_ix se_var se_int) se_var) se_int)))) (ss_ret (sw_M (se_tup (sa_cons se_str (sa_cons se_var sa_nil))))) ss_next
theorem ss_X__law_stream_fault_b2 : SS (tIfS (tTest (tOp (rNeD K) (tCall (spF F__law_sum) [] E0 (tCons (tVar 0) (tCons (tVar 1) (tCons (tC (.int 0)) (tCons (tVar 3) tNil))))) (tCall (spF F__law_sum) [] E0 (tCons (tVar 0) (tCons (tVar 1) (tCons (tC (.int 1)) (tCons (tVar 3) tNil))))))) (tRet (tTupF (tCons (tC (.str "house")) (tCons (tVar 3) tNil)))) tNext) X__law_stream_fault_b2 := by
  unfold X__law_stream_fault_b2
  exact ss_if (swt_M (st_test (se_op so_ne (se_call (sa_cons se_var (sa_cons se_var (sa_cons se_int (sa_cons se_var sa_nil))))) (se_call (sa_cons se_var (sa_cons se_var (sa_cons se_int (sa_cons se_var sa_nil)))))))) (ss_ret (sw_M (se_tup (sa_cons se_str (sa_cons se_var sa_nil))))) ss_next
def T__law_stream_fault : TS :=
    tSeq (tIfS (tOr (tNot (tB (tCB (rIsi K) (tCons (tVar 1) (tCons (tC (.ty "tuple")) tNil))))) (tTest (tOp (rNeD K) (tCB (rLenQ K) (tCons (tVar 1) tNil)) (tCB (rLenQ K) (tCons (tOp (rIx K) (tVar 0) (tC (.int 0))) tNil))))) (tRet (tTupF (tCons (tC (.str "form")) tNil))) tNext)
    (tSeq (tIfS (tTest (tOp (rNeD K) (tLc (iSeq K (tVar 1)) (gName 4) (tOr (tNot (tB (tCall (spF F__law_whole) [] E0 (tCons (tVar 4) tNil)))) (tTest (tOp oLt (tVar 4) (tC (.int 0))))) (tC (.int 1)) [4]) (tLst tNil))) (tRet (tTupF (tCons (tC (.str "form")) tNil))) tNext)
    (tSeq (tFor (iRng1 (tCons (tCB (rLenQ K) (tCons (tVar 1) tNil)) tNil)) (gName 2) (tIfS (tTest (tOp (rGtU K) (tOp (rIx K) (tVar 1) (tVar 2)) (tOp (rIx K) (tOp (rIx K) (tOp (rIx K) (tVar 0) (tC (.int 0))) (tVar 2)) (tC (.int 2))))) (tRet (tTupF (tCons (tC (.str "room")) (tCons (tVar 2) tNil)))) tNext))
    (tSeq (tFor (iRng1 (tCons (tCB (rLenQ K) (tCons (tOp (rIx K) (tVar 0) (tC (.int 1))) tNil)) tNil)) (gName 3) (tIfS (tTest (tOp (rNeD K) (tCall (spF F__law_sum) [] E0 (tCons (tVar 0) (tCons (tVar 1) (tCons (tC (.int 0)) (tCons (tVar 3) tNil))))) (tCall (spF F__law_sum) [] E0 (tCons (tVar 0) (tCons (tVar 1) (tCons (tC (.int 1)) (tCons (tVar 3) tNil))))))) (tRet (tTupF (tCons (tC (.str "house")) (tCons (tVar 3) tNil)))) tNext))
    (tRet (tC .non)))))
theorem ss__law_stream_fault : SS T__law_stream_fault X__law_stream_fault := by
  unfold X__law_stream_fault T__law_stream_fault
  exact ss_seq (ss_if (swt_M (st_or (st_not (st_B (se_isi .tuple rfl se_var))) (st_test (se_op so_ne (se_cb sc_len (sa_cons se_var sa_nil)) (se_cb sc_len (sa_cons (se_op so_ix se_var se_int) sa_nil)))))) (ss_ret (sw_M (se_tup (sa_cons se_str sa_nil)))) ss_next)
    (ss_seq (ss_if (swt_M (st_test (se_op so_ne (SEF.se (sef_lc (si_seq se_var) sgv_name (by decide) (st_or (st_not (st_B (se_call (sa_cons se_var sa_nil)))) (st_test (se_op so_lt se_var se_int))) se_int)) (SEF.se (sef_lst sa_nil))))) (ss_ret (sw_M (se_tup (sa_cons se_str sa_nil)))) ss_next)
    (ss_seq (ss_for (swi_rng (swa_cons (sw_M (se_cb sc_len (sa_cons se_var sa_nil))) swa_nil)) (sg_name (by decide)) ss_X__law_stream_fault_b1)
    (ss_seq (ss_for (swi_rng (swa_cons (sw_M (se_cb sc_len (sa_cons (se_op so_ix se_var se_int) sa_nil))) swa_nil)) (sg_name (by decide)) ss_X__law_stream_fault_b2)
    (ss_ret (sw_M se_non)))))
def T__law_due_f : TS :=
    tSeq (tIfS (tNot (tB (tCB (rIsi K) (tCons (tVar 1) (tCons (tC (.ty "str")) tNil))))) (tRet (tLst (tCons (tC (.str "no")) (tCons (tC .non) tNil)))) tNext)
    (tSeq (tAsg (tLc (iSeq K (tM1 rSplitS (tVar 1) (tC (.str " ")))) (gName 3) tYes (tCall (spF F__law_number_in_b) [] E0 (tCons (tVar 3) (tCons (tOp oSub (tOp oPow (tC (.int 10)) (tC (.int 13))) (tC (.int 1))) tNil))) [3]) (gName 2))
    (tSeq (tIfS (tOr (tTest (tOp (rInU K) (tC .non) (tVar 2))) (tTest (tOp oNotU (tCall (spF F__law_stream_fault) [] E0 (tCons (tVar 0) (tCons (tCB (rTupF K) (tCons (tVar 2) tNil)) tNil))) (tC .non)))) (tRet (tLst (tCons (tC (.str "no")) (tCons (tC (.int 0)) tNil)))) tNext)
    (tRet (tLst (tCons (tC (.str "stream")) (tCons (tCB (rTupF K) (tCons (tVar 2) tNil)) tNil))))))
theorem ss__law_due_f : SS T__law_due_f X__law_due_f := by
  unfold X__law_due_f T__law_due_f
  exact ss_seq (ss_if (swt_M (st_not (st_B (se_isi .str rfl se_var)))) (ss_ret (sw_M (SEF.se (sef_lst (sa_cons se_str (sa_cons se_non sa_nil)))))) ss_next)
    (ss_seq (ss_asg (sg_name (by decide)) (sw_M (SEF.se (sef_lc (si_seq (se_m1 sm_split se_var se_str)) sgv_name (by decide) st_yes (se_call (sa_cons se_var (sa_cons (se_op so_sub (se_op so_pow se_int se_int) se_int) sa_nil)))))))
    (ss_seq (ss_if (swt_M (st_or (st_test (se_op so_in se_non se_var)) (st_test (se_op so_isntU (se_call (sa_cons se_var (sa_cons (se_cb sc_tup (sa_cons se_var sa_nil)) sa_nil))) se_non)))) (ss_ret (sw_M (SEF.se (sef_lst (sa_cons se_str (sa_cons se_int sa_nil)))))) ss_next)
    (ss_ret (sw_M (SEF.se (sef_lst (sa_cons se_str (sa_cons (se_cb sc_tup (sa_cons se_var sa_nil)) sa_nil))))))))
theorem ss_X__law_round_b_b1 : SS (tSeq (tAsg (tOp (rIx K) (tOp (rIx K) (tOp (rIx K) (tVar 1) (tC (.int 0))) (tOp (rIx K) (tVar 5) (tUn oNeg (tC (.int 1))))) (tC (.int 1))) (gName 7))
    (tSeq (tDrop (tBM K "list" rAppend (tVar 6) (tCons (tVar 7) tNil)))
    (tSeq (tAsg (tLc (iSeq K (tVar 3)) (gName 10) (tTest (tOp (rEqX K) (tOp (rIx K) (tOp (rIx K) (tOp (rIx K) (tVar 1) (tC (.int 0))) (tVar 10)) (tC (.int 0))) (tVar 7))) (tVar 10) [10]) (gName 8))
    (tSeq (tIfS (tTest (tOp (rEqX K) (tVar 8) (tLst tNil))) (tRet (tLst tNil)) tNext)
    (tDrop (tBM K "list" rAppend (tVar 5) (tCons (tCall (spW F__law_one) [] E0 (tCons (tVar 0) (tCons (tVar 8) tNil))) tNil))))))) X__law_round_b_b1 := by
  unfold X__law_round_b_b1
  exact ss_seq (ss_asg (sg_name (by decide)) (sw_V (se_op so_ix (se_op so_ix (se_op so_ix se_var se_int) (se_op so_ix se_var (se_un su_neg se_int))) se_int)))
    (ss_seq (ss_app (sw_M se_var))
    (ss_seq (ss_asg (sg_name (by decide)) (sw_M (SEF.se (sef_lc (si_seq se_var) sgv_name (by decide) (st_test (se_op so_eq (se_op so_ix (se_op so_ix (se_op so_ix se_var se_int) se_var) se_int) se_var)) se_var))))
    (ss_seq (ss_if (swt_M (st_test (se_op so_eq se_var (SEF.se (sef_lst sa_nil))))) (ss_fz (ss_fz (ss_retO (swo_lst swc_nil)))) ss_next)
    (ss_app (sw_callK (swa_cons (sw_M se_var) swa_nil))))))
def T__law_round_b : TS :=
    tSeq (tAsg (tLc (iRng1 (tCons (tCB (rLenQ K) (tCons (tOp (rIx K) (tVar 1) (tC (.int 0))) tNil)) tNil)) (gName 10) (tTest (tOp oLt (tOp (rIx K) (tVar 2) (tVar 10)) (tOp (rIx K) (tOp (rIx K) (tOp (rIx K) (tVar 1) (tC (.int 0))) (tVar 10)) (tC (.int 2))))) (tVar 10) [10]) (gName 3))
    (tSeq (tAsg (tLc (iSeq K (tVar 3)) (gName 10) (tTest (tOp oIsU (tOp (rIx K) (tOp (rIx K) (tOp (rIx K) (tVar 1) (tC (.int 0))) (tVar 10)) (tC (.int 0))) (tC .non))) (tVar 10) [10]) (gName 4))
    (tSeq (tIfS (tOr (tTest (tOp (rEqX K) (tVar 4) (tLst tNil))) (tTest (tOp (rEqX K) (tCall (spW F__law_next) [] E0 (tCons (tVar 0) (tCons (tC (.int 3)) tNil))) (tC (.int 0))))) (tAsg (tVar 3) (gName 4)) tNext)
    (tSeq (tIfS (tTest (tOp (rEqX K) (tVar 4) (tLst tNil))) (tRet (tLst tNil)) tNext)
    (tSeq (tAsg (tLst (tCons (tCall (spW F__law_one) [] E0 (tCons (tVar 0) (tCons (tVar 4) tNil))) tNil)) (gName 5))
    (tSeq (tAsg (tLst (tCons (tOp (rIx K) (tOp (rIx K) (tOp (rIx K) (tVar 1) (tC (.int 0))) (tOp (rIx K) (tVar 5) (tC (.int 0)))) (tC (.int 0))) tNil)) (gName 6))
    (tSeq (tWhile (tTest (tOp (rNotInU K) (tOp (rIx K) (tOp (rIx K) (tOp (rIx K) (tVar 1) (tC (.int 0))) (tOp (rIx K) (tVar 5) (tUn oNeg (tC (.int 1))))) (tC (.int 1))) (tOp (rAddU K) (tVar 6) (tLst (tCons (tC .non) tNil))))) (tSeq (tAsg (tOp (rIx K) (tOp (rIx K) (tOp (rIx K) (tVar 1) (tC (.int 0))) (tOp (rIx K) (tVar 5) (tUn oNeg (tC (.int 1))))) (tC (.int 1))) (gName 7))
    (tSeq (tDrop (tBM K "list" rAppend (tVar 6) (tCons (tVar 7) tNil)))
    (tSeq (tAsg (tLc (iSeq K (tVar 3)) (gName 10) (tTest (tOp (rEqX K) (tOp (rIx K) (tOp (rIx K) (tOp (rIx K) (tVar 1) (tC (.int 0))) (tVar 10)) (tC (.int 0))) (tVar 7))) (tVar 10) [10]) (gName 8))
    (tSeq (tIfS (tTest (tOp (rEqX K) (tVar 8) (tLst tNil))) (tRet (tLst tNil)) tNext)
    (tDrop (tBM K "list" rAppend (tVar 5) (tCons (tCall (spW F__law_one) [] E0 (tCons (tVar 0) (tCons (tVar 8) tNil))) tNil))))))))
    (tSeq (tAsg (tOp (rIx K) (tOp (rIx K) (tOp (rIx K) (tVar 1) (tC (.int 0))) (tOp (rIx K) (tVar 5) (tUn oNeg (tC (.int 1))))) (tC (.int 1))) (gName 9))
    (tSeq (tIfS (tAnd (tTest (tOp oIsU (tVar 9) (tC .non))) (tTest (tOp oNotU (tOp (rIx K) (tOp (rIx K) (tOp (rIx K) (tVar 1) (tC (.int 0))) (tOp (rIx K) (tVar 5) (tC (.int 0)))) (tC (.int 0))) (tC .non)))) (tRet (tLst tNil)) tNext)
    (tRet (tSl (rSlU K) (tVar 5) (tPart (tOp (rIx K) (tLst (tCons (tIdx K (tVar 6) (tCons (tVar 9) tNil)) (tCons (tC (.int 0)) tNil))) (tCB rIntQ (tCons (tOp oIsU (tVar 9) (tC .non)) tNil)))) tNoPart))))))))))
theorem ss__law_round_b : SS T__law_round_b X__law_round_b := by
  unfold X__law_round_b T__law_round_b
  exact ss_seq (ss_asg (sg_name (by decide)) (sw_M (SEF.se (sef_lc (si_rng (sa_cons (se_cb sc_len (sa_cons (se_op so_ix se_var se_int) sa_nil)) sa_nil)) sgv_name (by decide) (st_test (se_op so_lt (se_op so_ix se_var se_var) (se_op so_ix (se_op so_ix (se_op so_ix se_var se_int) se_var) se_int))) se_var))))
    (ss_seq (ss_asg (sg_name (by decide)) (sw_M (SEF.se (sef_lc (si_seq se_var) sgv_name (by decide) (st_test (se_op so_isU (se_op so_ix (se_op so_ix (se_op so_ix se_var se_int) se_var) se_int) se_non)) se_var))))
    (ss_seq (ss_if (swt_or (swt_M (st_test (se_op so_eq se_var (SEF.se (sef_lst sa_nil))))) (swt_test (sw_op so_eq (sw_callK (swa_cons (sw_M se_int) swa_nil)) (sw_M se_int)))) (ss_asg (sg_name (by decide)) (sw_M se_var)) ss_next)
    (ss_seq (ss_if (swt_M (st_test (se_op so_eq se_var (SEF.se (sef_lst sa_nil))))) (ss_retO (swo_lst swc_nil)) ss_next)
    (ss_seq (ss_own (by decide) (swo_lst (swc_dat (sw_callK (swa_cons (sw_M se_var) swa_nil)) swc_nil)))
    (ss_seq (ss_own (by decide) (swo_lst (swc_dat (sw_V (se_op so_ix (se_op so_ix (se_op so_ix se_var se_int) (se_op so_ix se_var se_int)) se_int)) swc_nil)))
    (ss_seq (ss_while (swt_V (st_test (se_op so_notin (se_op so_ix (se_op so_ix (se_op so_ix se_var se_int) (se_op so_ix se_var (se_un su_neg se_int))) se_int) (se_op so_add se_var (SEF.se (sef_lst (sa_cons se_non sa_nil))))))) ss_X__law_round_b_b1)
    (ss_fz (ss_fz (ss_seq (ss_asg (sg_name (by decide)) (sw_M (se_op so_ix (se_op so_ix (se_op so_ix se_var se_int) (se_op so_ix se_var (se_un su_neg se_int))) se_int)))
    (ss_seq (ss_if (swt_M (st_and (st_test (se_op so_isU se_var se_non)) (st_test (se_op so_isntU (se_op so_ix (se_op so_ix (se_op so_ix se_var se_int) (se_op so_ix se_var se_int)) se_int) se_non)))) (ss_retO (swo_lst swc_nil)) ss_next)
    (ss_retO (swo_M (sef_cut se_var (sp_some (se_op so_ix (SEF.se (sef_lst (sa_cons (se_idx se_var se_var) (sa_cons se_int sa_nil)))) (se_cb sc_int (sa_cons (se_op so_isU se_var se_non) sa_nil)))) sp_none)))))))))))))
theorem ss_X__law_stream_f_b1 : SS (tAsg (tOp (rAddU K) (tOp (rIx K) (tVar 3) (tVar 8)) (tVar 7)) (gSub (tVar 3) (tVar 8) rSetL)) X__law_stream_f_b1 := by
  unfold X__law_stream_f_b1
  exact ss_set se_var (sw_V (se_op so_add (se_op so_ix se_var se_var) se_var))
theorem ss_X__law_stream_f_b2 : SS (tSeq (tAsg (tCall (spV F__law_round_b) [] E0 (tCons (tVar 0) (tCons (tVar 1) (tCons (tVar 3) tNil)))) (gName 5))
    (tIfS (tTest (tOp (rNeD K) (tVar 5) (tLst tNil))) (tSeq (tAsg (tCB (rMinV K) (tCons (tLc (iSeq K (tVar 5)) (gName 8) tYes (tOp oSub (tOp (rIx K) (tOp (rIx K) (tOp (rIx K) (tVar 1) (tC (.int 0))) (tVar 8)) (tC (.int 2))) (tOp (rIx K) (tVar 3) (tVar 8))) [8]) tNil)) (gName 6))
    (tSeq (tAsg (tCall (spW F__law_one) [] E0 (tCons (tVar 0) (tCons (tLst (tCons (tC (.int 1)) (tCons (tVar 6) (tCons (tOp (rAddU K) (tC (.int 1)) (tCall (spW F__law_next) [] E0 (tCons (tVar 0) (tCons (tVar 6) tNil)))) tNil)))) tNil))) (gName 7))
    (tFor (iSeq K (tVar 5)) (gName 8) (tAsg (tOp (rAddU K) (tOp (rIx K) (tVar 3) (tVar 8)) (tVar 7)) (gSub (tVar 3) (tVar 8) rSetL))))) tNext)) X__law_stream_f_b2 := by
  unfold X__law_stream_f_b2
  exact ss_seq (ss_own (by decide) (swo_callV (by decide) (sw_M se_var)))
    (ss_fz (ss_if (swt_M (st_test (se_op so_ne se_var (SEF.se (sef_lst sa_nil))))) (ss_seq (ss_asg (sg_name (by decide)) (sw_V (se_cb sc_minV (sa_cons (SEF.se (sef_lc (si_seq se_var) sgv_name (by decide) st_yes (se_op so_sub (se_op so_ix (se_op so_ix (se_op so_ix se_var se_int) se_var) se_int) (se_op so_ix se_var se_var)))) sa_nil))))
    (ss_seq (ss_asg (sg_name (by decide)) (sw_callK (swa_cons (sw_lst (swa_cons (sw_M se_int) (swa_cons (sw_M se_var) (swa_cons (sw_op so_add (sw_M se_int) (sw_callK (swa_cons (sw_M se_var) swa_nil))) swa_nil)))) swa_nil)))
    (ss_for (swi_seq (sw_M se_var)) (sg_name (by decide)) ss_X__law_stream_f_b1))) ss_next))
def T__law_stream_f : TS :=
    tSeq (tAsg (tOp (rMulV K) (tLst (tCons (tC (.int 0)) tNil)) (tCB (rLenQ K) (tCons (tOp (rIx K) (tVar 1) (tC (.int 0))) tNil))) (gName 3))
    (tSeq (tFor (iRng1 (tCons (tVar 2) tNil)) (gName 4) (tSeq (tAsg (tCall (spV F__law_round_b) [] E0 (tCons (tVar 0) (tCons (tVar 1) (tCons (tVar 3) tNil)))) (gName 5))
    (tIfS (tTest (tOp (rNeD K) (tVar 5) (tLst tNil))) (tSeq (tAsg (tCB (rMinV K) (tCons (tLc (iSeq K (tVar 5)) (gName 8) tYes (tOp oSub (tOp (rIx K) (tOp (rIx K) (tOp (rIx K) (tVar 1) (tC (.int 0))) (tVar 8)) (tC (.int 2))) (tOp (rIx K) (tVar 3) (tVar 8))) [8]) tNil)) (gName 6))
    (tSeq (tAsg (tCall (spW F__law_one) [] E0 (tCons (tVar 0) (tCons (tLst (tCons (tC (.int 1)) (tCons (tVar 6) (tCons (tOp (rAddU K) (tC (.int 1)) (tCall (spW F__law_next) [] E0 (tCons (tVar 0) (tCons (tVar 6) tNil)))) tNil)))) tNil))) (gName 7))
    (tFor (iSeq K (tVar 5)) (gName 8) (tAsg (tOp (rAddU K) (tOp (rIx K) (tVar 3) (tVar 8)) (tVar 7)) (gSub (tVar 3) (tVar 8) rSetL))))) tNext)))
    (tRet (tCB (rTupF K) (tCons (tVar 3) tNil))))
theorem ss__law_stream_f : SS T__law_stream_f X__law_stream_f := by
  unfold X__law_stream_f T__law_stream_f
  exact ss_seq (ss_own (by decide) (swo_M (sef_op sof_repV (SEF.se (sef_lst (sa_cons se_int sa_nil))) (se_cb sc_len (sa_cons (se_op so_ix se_var se_int) sa_nil)))))
    (ss_seq (ss_for (swi_rng (swa_cons (sw_M se_var) swa_nil)) (sg_name (by decide)) ss_X__law_stream_f_b2)
    (ss_fz (ss_ret (sw_M (se_cb sc_tup (sa_cons se_var sa_nil))))))
def T_check_text_b (W : WX) (cl : Nat → Value) (cD : Addr) : TS :=
    tIfS (tNot (tB (tCB (rIsi K) (tCons (tVar 0) (tCons (tC (.ty "str")) tNil))))) (tRv W cD "line" (tC .non)) tNext
theorem ss_check_text_b {W : WX} {cl : Nat → Value} {cD : Addr} (hcl : cl 0 = .ref cD) : SSY W cl "line" (T_check_text_b W cl cD) X_check_text_b := by
  unfold X_check_text_b T_check_text_b
  exact ssy_if (swt_M (st_not (st_B (se_isi .str rfl se_var)))) (ssy_rv se_non hcl) (ssy_of ss_next)
def T_number_in : TS :=
    tSeq (tIfS (tOr (tNot (tB (tM0 rAscS (tVar 0)))) (tOr (tNot (tB (tM0 rDigS (tVar 0)))) (tTest (tOp (rGtU K) (tCB rLenS (tCons (tVar 0) tNil)) (tC (.int 13)))))) (tRet (tC .non)) tNext)
    (tSeq (tIfS (tAnd (tB (tM1 rStartS (tVar 0) (tC (.str "0")))) (tTest (tOp (rNeD K) (tVar 0) (tC (.str "0"))))) (tRet (tC .non)) tNext)
    (tRet (tCB rIntS (tCons (tVar 0) tNil))))
theorem ss_number_in : SS T_number_in X_number_in := by
  unfold X_number_in T_number_in
  exact ss_seq (ss_if (swt_M (st_or (st_not (st_B (se_m0 sm_asc se_var))) (st_or (st_not (st_B (se_m0 sm_dig se_var))) (st_test (se_op so_gtU (se_cb sc_lenS (sa_cons se_var sa_nil)) se_int))))) (ss_ret (sw_M se_non)) ss_next)
    (ss_seq (ss_if (swt_M (st_and (st_B (se_m1 sm_start se_var se_str)) (st_test (se_op so_ne se_var se_str)))) (ss_ret (sw_M se_non)) ss_next)
    (ss_ret (sw_M (se_cb sc_intS (sa_cons se_var sa_nil)))))
def T_borne : TS :=
    tRet (tCB (rSum K) (tCons (tLc (iSeq K (tVar 1)) (gName 2) tYes (tOp (rIx K) (tVar 0) (tVar 2)) [2]) tNil))
theorem ss_borne : SS T_borne X_borne := by
  unfold X_borne T_borne
  exact ss_ret (sw_M (se_cb sc_sum (sa_cons (SEF.se (sef_lc (si_seq se_var) sgv_name (by decide) st_yes (se_op so_ix se_var se_var))) sa_nil)))
def T_is_number : TS :=
    tRet (tAndV (tCB (rIsi K) (tCons (tVar 0) (tCons (tC (.ty "int")) tNil))) (tNotV (tCB (rIsi K) (tCons (tVar 0) (tCons (tC (.ty "bool")) tNil)))))
theorem ss_is_number : SS T_is_number X_is_number := by
  unfold X_is_number T_is_number
  exact ss_ret (sw_M (se_and (se_isi .int rfl se_var) (se_not (se_isi .bool rfl se_var))))
def T_is_tuple_of : TS :=
    tRet (tAndV (tCB (rIsi K) (tCons (tVar 0) (tCons (tC (.ty "tuple")) tNil))) (tChain oLe oLe (tVar 1) (tCB (rLenQ K) (tCons (tVar 0) tNil)) (tVar 2)))
theorem ss_is_tuple_of : SS T_is_tuple_of X_is_tuple_of := by
  unfold X_is_tuple_of T_is_tuple_of
  exact ss_ret (sw_M (se_and (se_isi .tuple rfl se_var) (se_chain so_le so_le se_var (se_cb sc_len (sa_cons se_var sa_nil)) se_var)))
def T_is_form : TS :=
    tRet (tAndV (tCall (spF F_is_tuple_of) [] E0 (tCons (tVar 0) (tCons (tVar 1) (tCons (tVar 1) tNil)))) (tCB (rAll K) (tCons (tLc (iSeq K (tVar 0)) (gName 2) tYes (tAndV (tCall (spF F_is_number) [] E0 (tCons (tVar 2) tNil)) (tOp oGe (tVar 2) (tC (.int 0)))) [2]) tNil)))
theorem ss_is_form : SS T_is_form X_is_form := by
  unfold X_is_form T_is_form
  exact ss_ret (sw_M (se_and (se_call (sa_cons se_var (sa_cons se_var (sa_cons se_var sa_nil)))) (se_cb sc_all (sa_cons (SEF.se (sef_lc (si_seq se_var) sgv_name (by decide) st_yes (se_and (se_call (sa_cons se_var sa_nil)) (se_op so_ge se_var se_int)))) sa_nil))))
theorem ss_X_streamfault_b1 : SS (tIfS (tTest (tOp (rGtU K) (tVar 6) (tOp (rIx K) (tOp (rIx K) (tVar 2) (tVar 5)) (tC (.int 2))))) (tRet (tTupF (tCons (tC (.str "room")) (tCons (tVar 5) tNil)))) tNext) X_streamfault_b1 := by
  unfold X_streamfault_b1
  exact ss_if (swt_M (st_test (se_op so_gtU se_var (se_op so_ix (se_op so_ix se_var se_var) se_int)))) (ss_ret (sw_M (se_tup (sa_cons se_str (sa_cons se_var sa_nil))))) ss_next
theorem ss_X_streamfault_b2 : SS (tIfS (tTest (tOp (rNeD K) (tCall (spF F_borne) [] E0 (tCons (tVar 1) (tCons (tOp (rIx K) (tVar 4) (tVar 7)) tNil))) (tCall (spF F_borne) [] E0 (tCons (tVar 1) (tCons (tVar 8) tNil))))) (tRet (tTupF (tCons (tC (.str "house")) (tCons (tVar 7) tNil)))) tNext) X_streamfault_b2 := by
  unfold X_streamfault_b2
  exact ss_if (swt_M (st_test (se_op so_ne (se_call (sa_cons se_var (sa_cons (se_op so_ix se_var se_var) sa_nil))) (se_call (sa_cons se_var (sa_cons se_var sa_nil)))))) (ss_ret (sw_M (se_tup (sa_cons se_str (sa_cons se_var sa_nil))))) ss_next
def T_streamfault : TS :=
    tSeq (tAsg (tVar 0) (gTU K 3 (gCons (gName 2) (gCons (gName 3) (gCons (gName 4) gNil)))))
    (tSeq (tIfS (tNot (tB (tCall (spF F_is_form) [] E0 (tCons (tVar 1) (tCons (tCB (rLenQ K) (tCons (tVar 2) tNil)) tNil))))) (tRet (tTupF (tCons (tC (.str "form")) tNil))) tNext)
    (tSeq (tFor (iEnumU K (tCons (tVar 1) tNil)) (gTU K 2 (gCons (gName 5) (gCons (gName 6) gNil))) (tIfS (tTest (tOp (rGtU K) (tVar 6) (tOp (rIx K) (tOp (rIx K) (tVar 2) (tVar 5)) (tC (.int 2))))) (tRet (tTupF (tCons (tC (.str "room")) (tCons (tVar 5) tNil)))) tNext))
    (tSeq (tFor (iEnumU K (tCons (tVar 3) tNil)) (gTU K 2 (gCons (gName 7) (gCons (gName 8) gNil))) (tIfS (tTest (tOp (rNeD K) (tCall (spF F_borne) [] E0 (tCons (tVar 1) (tCons (tOp (rIx K) (tVar 4) (tVar 7)) tNil))) (tCall (spF F_borne) [] E0 (tCons (tVar 1) (tCons (tVar 8) tNil))))) (tRet (tTupF (tCons (tC (.str "house")) (tCons (tVar 7) tNil)))) tNext))
    (tRet (tC .non)))))
theorem ss_streamfault : SS T_streamfault X_streamfault := by
  unfold X_streamfault T_streamfault
  exact ss_seq (ss_asg (sg_tup (sg_cons (sg_name (by decide)) (sg_cons (sg_name (by decide)) (sg_cons (sg_name (by decide)) sg_nil)))) (sw_M se_var))
    (ss_seq (ss_if (swt_M (st_not (st_B (se_call (sa_cons se_var (sa_cons (se_cb sc_len (sa_cons se_var sa_nil)) sa_nil)))))) (ss_ret (sw_M (se_tup (sa_cons se_str sa_nil)))) ss_next)
    (ss_seq (ss_for (swi_enum (swa_cons (sw_M se_var) swa_nil)) (sg_tup (sg_cons (sg_name (by decide)) (sg_cons (sg_name (by decide)) sg_nil))) ss_X_streamfault_b1)
    (ss_seq (ss_for (swi_enum (swa_cons (sw_M se_var) swa_nil)) (sg_tup (sg_cons (sg_name (by decide)) (sg_cons (sg_name (by decide)) sg_nil))) ss_X_streamfault_b2)
    (ss_ret (sw_M se_non)))))
def T_read_stream_b (W : WX) (cl : Nat → Value) (cD : Addr) : TS :=
    tSeq (tDrop (tCallS (spY cl "line" F_check_text_b) (WE W) (tCons (tVar 1) tNil)))
    (tSeq (tAsg (tCB (rTupF K) (tCons (tLc (iSeq K (tM1 rSplitS (tVar 1) (tC (.str " ")))) (gName 3) tYes (tCall (spF F_number_in) [] E0 (tCons (tVar 3) tNil)) [3]) tNil)) (gName 2))
    (tSeq (tIfS (tTest (tOp oNotU (tCall (spF F_streamfault) [] E0 (tCons (tVar 0) (tCons (tVar 2) tNil))) (tC .non))) (tRv W cD "line" (tC (.int 0))) tNext)
    (tRet (tVar 2))))
theorem ss_read_stream_b {W : WX} {cl : Nat → Value} {cD : Addr} (hcl : cl 0 = .ref cD) : SSY W cl "line" (T_read_stream_b W cl cD) X_read_stream_b := by
  unfold X_read_stream_b T_read_stream_b
  exact ssy_seq (ssy_dropY (sa_cons se_var sa_nil))
    (ssy_seq (ssy_of (ss_asg (sg_name (by decide)) (sw_M (se_cb sc_tup (sa_cons (SEF.se (sef_lc (si_seq (se_m1 sm_split se_var se_str)) sgv_name (by decide) st_yes (se_call (sa_cons se_var sa_nil)))) sa_nil)))))
    (ssy_seq (ssy_if (swt_M (st_test (se_op so_isntU (se_call (sa_cons se_var (sa_cons se_var sa_nil))) se_non))) (ssy_rv se_int hcl) (ssy_of ss_next))
    (ssy_of (ss_ret (sw_M se_var)))))
def T__law_told_r (cl : Nat → Value) (cC cD c1 c2 c3 c4 : Addr) : TS :=
    tSeq (tAsg (tC .non) (gName 2))
    (tSeq (tTryC K (.ref cC) 3 (fun W => tAsg (tLst (tCons (tC (.str "stream")) (tCons (tCallS (spY cl "line" F_read_stream_b) (WE W) (tCons (tVar 0) (tCons (tVar 1) tNil))) tNil))) (gName 2)) (oneT cD (suite79 K 3 2 "line" cD c1 c2 c3 c4)))
    (tRet (tVar 2)))
theorem ss__law_told_r {cl : Nat → Value} {cC cD c1 c2 c3 c4 : Addr} (hm : ∀ n ∈ ([0] : List Nat), PySem.W.exmOne K (cl n) (.ref cC) = some true) (hcl : cl 0 = .ref cD) (k1 : PySem.W.kitOne K (.ref cD) (.ref cD) = some true) (k3 : PySem.W.kitAny K (.ref cD) [.ref c1, .ref c2, .ref c3, .ref c4] = some false) : SS (T__law_told_r cl cC cD c1 c2 c3 c4) X__law_told_r := by
  unfold X__law_told_r T__law_told_r
  exact ss_seq (ss_asg (sg_name (by decide)) (sw_M se_non))
    (ss_seq (ss_tryV (i := 3) (j := 2) (m := 4) (fun W => ssy_asgL (sey_call (sa_cons se_var (sa_cons se_var sa_nil))) (by decide)) hm (fun a n hn D' σ H dd v hi hd q => by simp only [List.mem_cons, List.not_mem_nil, or_false] at hn; subst hn; rw [hcl]; exact ⟨rfl, suite79_ok (by decide) (List.getElem?_set_self hi) hd k1 k3 q⟩) (by decide) (by decide) (by decide) (by decide))
    (ss_ret (sw_M se_var)))
theorem ss_X__law_order_b1 : SS (tDrop (tBM K "list" rInsQ (tVar 2) (tCons (tCall (spW F__law_next) [] E0 (tCons (tVar 0) (tCons (tOp (rAddU K) (tCB (rLenQ K) (tCons (tVar 2) tNil)) (tC (.int 1))) tNil))) (tCons (tVar 3) tNil)))) X__law_order_b1 := by
  unfold X__law_order_b1
  exact ss_ins (swa_cons (sw_callK (swa_cons (sw_V (se_op so_add (se_cb sc_len (sa_cons se_var sa_nil)) se_int)) swa_nil)) (swa_cons (sw_M se_var) swa_nil))
def T__law_order : TS :=
    tSeq (tAsg (tLst tNil) (gName 2))
    (tSeq (tFor (iSeq K (tVar 1)) (gName 3) (tDrop (tBM K "list" rInsQ (tVar 2) (tCons (tCall (spW F__law_next) [] E0 (tCons (tVar 0) (tCons (tOp (rAddU K) (tCB (rLenQ K) (tCons (tVar 2) tNil)) (tC (.int 1))) tNil))) (tCons (tVar 3) tNil)))))
    (tRet (tCB (rTupF K) (tCons (tVar 2) tNil))))
theorem ss__law_order : SS T__law_order X__law_order := by
  unfold X__law_order T__law_order
  exact ss_seq (ss_own (by decide) (swo_lst swc_nil))
    (ss_seq (ss_for (swi_seq (sw_M se_var)) (sg_name (by decide)) ss_X__law_order_b1)
    (ss_fz (ss_ret (sw_M (se_cb sc_tup (sa_cons se_var sa_nil))))))
def T__law_room : TS :=
    tSeq (tAsg (tCall (spW F__law_one) [] E0 (tCons (tVar 0) (tCons (tLst (tCons (tC (.int 0)) (tCons (tC (.int 1)) (tCons (tC (.int 1)) (tCons (tC (.int 2)) (tCons (tC (.int 3)) (tCons (tC (.int 5)) tNil))))))) tNil))) (gName 2))
    (tSeq (tAsg (tCall (spW F__law_one) [] E0 (tCons (tVar 0) (tCons (tLst (tCons (tC (.int 1)) (tCons (tC (.int 2)) (tCons (tOp oPow (tC (.int 10)) (tC (.int 12))) (tCons (tOp oSub (tOp oPow (tC (.int 10)) (tC (.int 12))) (tCall (spW F__law_next) [] E0 (tCons (tVar 0) (tCons (tC (.int 3)) tNil)))) (tCons (tCall (spW F__law_next) [] E0 (tCons (tVar 0) (tCons (tOp oPow (tC (.int 10)) (tC (.int 12))) tNil))) tNil)))))) tNil))) (gName 3))
    (tRet (tOp (rIx K) (tLst (tCons (tVar 2) (tCons (tVar 3) tNil))) (tCB rIntQ (tCons (tVar 1) tNil)))))
theorem ss__law_room : SS T__law_room X__law_room := by
  unfold X__law_room T__law_room
  exact ss_seq (ss_asg (sg_name (by decide)) (sw_callK (swa_cons (sw_M (SEF.se (sef_lst (sa_cons se_int (sa_cons se_int (sa_cons se_int (sa_cons se_int (sa_cons se_int (sa_cons se_int sa_nil))))))))) swa_nil)))
    (ss_seq (ss_asg (sg_name (by decide)) (sw_callK (swa_cons (sw_lst (swa_cons (sw_M se_int) (swa_cons (sw_M se_int) (swa_cons (sw_M (se_op so_pow se_int se_int)) (swa_cons (sw_op so_sub (sw_M (se_op so_pow se_int se_int)) (sw_callK (swa_cons (sw_M se_int) swa_nil))) (swa_cons (sw_callK (swa_cons (sw_M (se_op so_pow se_int se_int)) swa_nil)) swa_nil)))))) swa_nil)))
    (ss_ret (sw_M (se_op so_ix (SEF.se (sef_lst (sa_cons se_var (sa_cons se_var sa_nil)))) (se_cb sc_int (sa_cons se_var sa_nil))))))
def T__law_road : TS :=
    tSeq (tAsg (tCall (spW F__law_next) [] E0 (tCons (tVar 0) (tCons (tOp (rAddU K) (tVar 1) (tC (.int 1))) tNil))) (gName 3))
    (tSeq (tAsg (tOp oMod (tOp (rAddU K) (tOp (rAddU K) (tVar 3) (tC (.int 1))) (tCall (spW F__law_next) [] E0 (tCons (tVar 0) (tCons (tVar 1) tNil)))) (tOp (rAddU K) (tVar 1) (tC (.int 1)))) (gName 4))
    (tSeq (tAsg (tLc (iSeq K (tTupF (tCons (tVar 3) (tCons (tVar 4) tNil)))) (gName 7) tYes (tOp (rIx K) (tLst (tCons (tC .non) (tCons (tOp oSub (tVar 7) (tC (.int 1))) tNil))) (tCB rIntQ (tCons (tOp (rGtU K) (tVar 7) (tC (.int 0))) tNil))) [7]) (gTU K 2 (gCons (gName 5) (gCons (gName 6) gNil))))
    (tRet (tTupF (tCons (tVar 5) (tCons (tVar 6) (tCons (tCall (spW F__law_room) [] E0 (tCons (tVar 0) (tCons (tVar 2) tNil))) tNil)))))))
theorem ss__law_road : SS T__law_road X__law_road := by
  unfold X__law_road T__law_road
  exact ss_seq (ss_asg (sg_name (by decide)) (sw_callK (swa_cons (sw_M (se_op so_add se_var se_int)) swa_nil)))
    (ss_seq (ss_asg (sg_name (by decide)) (sw_op so_mod (sw_op so_add (sw_M (se_op so_add se_var se_int)) (sw_callK (swa_cons (sw_M se_var) swa_nil))) (sw_M (se_op so_add se_var se_int))))
    (ss_seq (ss_asg (sg_tup (sg_cons (sg_name (by decide)) (sg_cons (sg_name (by decide)) sg_nil))) (sw_M (SEF.se (sef_lc (si_seq (se_tup (sa_cons se_var (sa_cons se_var sa_nil)))) sgv_name (by decide) st_yes (se_op so_ix (SEF.se (sef_lst (sa_cons se_non (sa_cons (se_op so_sub se_var se_int) sa_nil)))) (se_cb sc_int (sa_cons (se_op so_gtU se_var se_int) sa_nil)))))))
    (ss_ret (sw_tup (swa_cons (sw_M se_var) (swa_cons (sw_M se_var) (swa_cons (sw_callK (swa_cons (sw_M se_var) swa_nil)) swa_nil)))))))
theorem ss_X__law_web_b1 : SS (tDrop (tBM K "list" rAppend (tVar 8) (tCons (tCall (spW F__law_order) [] E0 (tCons (tVar 0) (tCons (tLc (iRng1 (tCons (tCB (rLenQ K) (tCons (tVar 5) tNil)) tNil)) (gName 10) (tTest (tOp (rEqX K) (tOp (rIx K) (tOp (rIx K) (tVar 5) (tVar 10)) (tVar 7)) (tVar 9))) (tVar 10) [10]) tNil))) tNil))) X__law_web_b1 := by
  unfold X__law_web_b1
  exact ss_app (sw_callK (swa_cons (sw_M (SEF.se (sef_lc (si_rng (sa_cons (se_cb sc_len (sa_cons se_var sa_nil)) sa_nil)) sgv_name (by decide) (st_test (se_op so_eq (se_op so_ix (se_op so_ix se_var se_var) se_var) se_var)) se_var))) swa_nil))
theorem ss_X__law_web_b2 : SS (tSeq (tAsg (tLst tNil) (gName 8))
    (tSeq (tFor (iRng1 (tCons (tVar 4) tNil)) (gName 9) (tDrop (tBM K "list" rAppend (tVar 8) (tCons (tCall (spW F__law_order) [] E0 (tCons (tVar 0) (tCons (tLc (iRng1 (tCons (tCB (rLenQ K) (tCons (tVar 5) tNil)) tNil)) (gName 10) (tTest (tOp (rEqX K) (tOp (rIx K) (tOp (rIx K) (tVar 5) (tVar 10)) (tVar 7)) (tVar 9))) (tVar 10) [10]) tNil))) tNil))))
    (tDrop (tBM K "list" rAppend (tVar 6) (tCons (tCB (rTupF K) (tCons (tVar 8) tNil)) tNil))))) X__law_web_b2 := by
  unfold X__law_web_b2
  exact ss_seq (ss_own (by decide) (swo_lst swc_nil))
    (ss_seq (ss_for (swi_rng (swa_cons (sw_M se_var) swa_nil)) (sg_name (by decide)) ss_X__law_web_b1)
    (ss_fz (ss_app (sw_M (se_cb sc_tup (sa_cons se_var sa_nil))))))
def T__law_web : TS :=
    tSeq (tAsg (tOp (rAddU K) (tC (.int 1)) (tCall (spW F__law_next) [] E0 (tCons (tVar 0) (tCons (tVar 1) tNil)))) (gName 4))
    (tSeq (tAsg (tLc (iRng1 (tCons (tOp (rAddU K) (tC (.int 1)) (tCall (spW F__law_next) [] E0 (tCons (tVar 0) (tCons (tVar 2) tNil)))) tNil)) (gName 10) tYes (tCall (spW F__law_road) [] E0 (tCons (tVar 0) (tCons (tVar 4) (tCons (tVar 3) tNil)))) [10]) (gName 5))
    (tSeq (tAsg (tLst tNil) (gName 6))
    (tSeq (tFor (iSeq K (tTupF (tCons (tC (.int 0)) (tCons (tC (.int 1)) tNil)))) (gName 7) (tSeq (tAsg (tLst tNil) (gName 8))
    (tSeq (tFor (iRng1 (tCons (tVar 4) tNil)) (gName 9) (tDrop (tBM K "list" rAppend (tVar 8) (tCons (tCall (spW F__law_order) [] E0 (tCons (tVar 0) (tCons (tLc (iRng1 (tCons (tCB (rLenQ K) (tCons (tVar 5) tNil)) tNil)) (gName 10) (tTest (tOp (rEqX K) (tOp (rIx K) (tOp (rIx K) (tVar 5) (tVar 10)) (tVar 7)) (tVar 9))) (tVar 10) [10]) tNil))) tNil))))
    (tDrop (tBM K "list" rAppend (tVar 6) (tCons (tCB (rTupF K) (tCons (tVar 8) tNil)) tNil))))))
    (tRet (tTupF (tCons (tCB (rTupF K) (tCons (tVar 5) tNil)) (tCons (tOp (rIx K) (tVar 6) (tC (.int 0))) (tCons (tOp (rIx K) (tVar 6) (tC (.int 1))) tNil))))))))
theorem ss__law_web : SS T__law_web X__law_web := by
  unfold X__law_web T__law_web
  exact ss_seq (ss_asg (sg_name (by decide)) (sw_op so_add (sw_M se_int) (sw_callK (swa_cons (sw_M se_var) swa_nil))))
    (ss_seq (ss_asg (sg_name (by decide)) (sw_fz (swo_lc (swi_rng (swa_cons (sw_op so_add (sw_M se_int) (sw_callK (swa_cons (sw_M se_var) swa_nil))) swa_nil)) (sg_name (by decide)) (by decide) (by decide) (swt_M st_yes) (sw_callK (swa_cons (sw_M se_var) (swa_cons (sw_M se_var) swa_nil))))))
    (ss_seq (ss_own (by decide) (swo_lst swc_nil))
    (ss_seq (ss_for (swi_seq (sw_M (se_tup (sa_cons se_int (sa_cons se_int sa_nil))))) (sg_name (by decide)) ss_X__law_web_b2)
    (ss_fz (ss_ret (sw_M (se_tup (sa_cons (se_cb sc_tup (sa_cons se_var sa_nil)) (sa_cons (se_op so_ix se_var se_int) (sa_cons (se_op so_ix se_var se_int) sa_nil))))))))))
theorem ss_X_law_z175_b1 : SS (tDrop (tBM K "list" rAppend (tVar 6) (tCons (tCall (spW F__law_bent_text) [] E0 (tCons (tVar 1) (tCons (tVar 5) tNil))) tNil))) X_law_z175_b1 := by
  unfold X_law_z175_b1
  exact ss_app (sw_callK (swa_cons (sw_M se_var) swa_nil))
theorem ss_X_law_z175_b2 : SS (tIfS (tTest (tOp (rNeD K) (tCB (rRepr K) (tCons (tCall (spF F__law_told_r) [] E0 (tCons (tVar 3) (tCons (tVar 8) tNil))) tNil)) (tCB (rRepr K) (tCons (tCall (spF F__law_due_f) [] E0 (tCons (tVar 3) (tCons (tVar 8) tNil))) tNil)))) (tRet (tC (.bl false))) tNext) X_law_z175_b2 := by
  unfold X_law_z175_b2
  exact ss_if (swt_M (st_test (se_op so_ne (se_cb sc_repr (sa_cons (se_call (sa_cons se_var (sa_cons se_var sa_nil))) sa_nil)) (se_cb sc_repr (sa_cons (se_call (sa_cons se_var (sa_cons se_var sa_nil))) sa_nil))))) (ss_fz (ss_ret (sw_M se_bl))) ss_next
theorem ss_X_law_z175_b3 : SS (tSeq (tAsg (tCall (spW F__law_web) [] E0 (tCons (tVar 1) (tCons (tC (.int 8)) (tCons (tC (.int 20)) (tCons (tOp (rEqX K) (tCall (spW F__law_next) [] E0 (tCons (tVar 1) (tCons (tC (.int 2)) tNil))) (tC (.int 0))) tNil))))) (gName 3))
    (tSeq (tAsg (tCall (spW F__law_stream_f) [] E0 (tCons (tVar 1) (tCons (tVar 3) (tCons (tCall (spW F__law_next) [] E0 (tCons (tVar 1) (tCons (tC (.int 6)) tNil))) tNil)))) (gName 4))
    (tSeq (tAsg (tM1 (rJoinS K) (tC (.str " ")) (tLc (iSeq K (tVar 4)) (gName 9) tYes (tCB rStr1 (tCons (tVar 9) tNil)) [9])) (gName 5))
    (tSeq (tAsg (tLst (tCons (tVar 5) (tCons (tC (.str "")) (tCons (tC (.str "-")) (tCons (tC .non) (tCons (tC (.int 0)) (tCons (tC (.bl true)) (tCons (tVar 4) (tCons (tLst (tCons (tVar 5) tNil)) (tCons tDNewK tNil)))))))))) (gName 6))
    (tSeq (tFor (iRng1 (tCons (tC (.int 20)) tNil)) (gName 7) (tDrop (tBM K "list" rAppend (tVar 6) (tCons (tCall (spW F__law_bent_text) [] E0 (tCons (tVar 1) (tCons (tVar 5) tNil))) tNil))))
    (tFor (iSeq K (tVar 6)) (gName 8) (tIfS (tTest (tOp (rNeD K) (tCB (rRepr K) (tCons (tCall (spF F__law_told_r) [] E0 (tCons (tVar 3) (tCons (tVar 8) tNil))) tNil)) (tCB (rRepr K) (tCons (tCall (spF F__law_due_f) [] E0 (tCons (tVar 3) (tCons (tVar 8) tNil))) tNil)))) (tRet (tC (.bl false))) tNext))))))) X_law_z175_b3 := by
  unfold X_law_z175_b3
  exact ss_seq (ss_asg (sg_name (by decide)) (sw_callK (swa_cons (sw_M se_int) (swa_cons (sw_M se_int) (swa_cons (sw_op so_eq (sw_callK (swa_cons (sw_M se_int) swa_nil)) (sw_M se_int)) swa_nil)))))
    (ss_seq (ss_asg (sg_name (by decide)) (sw_callK (swa_cons (sw_M se_var) (swa_cons (sw_callK (swa_cons (sw_M se_int) swa_nil)) swa_nil))))
    (ss_seq (ss_asg (sg_name (by decide)) (sw_M (se_m1 sm_join se_str (SEF.se (sef_lc (si_seq se_var) sgv_name (by decide) st_yes (se_cb sc_str1 (sa_cons se_var sa_nil)))))))
    (ss_seq (ss_own (by decide) (swo_lst (swc_dat (sw_M se_var) (swc_dat (sw_M se_str) (swc_dat (sw_M se_str) (swc_dat (sw_M se_non) (swc_dat (sw_M se_int) (swc_dat (sw_M se_bl) (swc_dat (sw_M se_var) (swc_dat (sw_M (SEF.se (sef_lst (sa_cons se_var sa_nil)))) (swc_dat (sw_M se_d0) swc_nil)))))))))))
    (ss_seq (ss_for (swi_rng (swa_cons (sw_M se_int) swa_nil)) (sg_name (by decide)) ss_X_law_z175_b1)
    (ss_fz (ss_for (swi_seq (sw_M se_var)) (sg_name (by decide)) ss_X_law_z175_b2))))))
def T_law_z175 : TS :=
    tSeq (tAsg (tCall (spD F__law_deck_h) [] E0 (tCons (tVar 0) tNil)) (gName 1))
    (tSeq (tFor (iRng1 (tCons (tC (.int 6)) tNil)) (gName 2) (tSeq (tAsg (tCall (spW F__law_web) [] E0 (tCons (tVar 1) (tCons (tC (.int 8)) (tCons (tC (.int 20)) (tCons (tOp (rEqX K) (tCall (spW F__law_next) [] E0 (tCons (tVar 1) (tCons (tC (.int 2)) tNil))) (tC (.int 0))) tNil))))) (gName 3))
    (tSeq (tAsg (tCall (spW F__law_stream_f) [] E0 (tCons (tVar 1) (tCons (tVar 3) (tCons (tCall (spW F__law_next) [] E0 (tCons (tVar 1) (tCons (tC (.int 6)) tNil))) tNil)))) (gName 4))
    (tSeq (tAsg (tM1 (rJoinS K) (tC (.str " ")) (tLc (iSeq K (tVar 4)) (gName 9) tYes (tCB rStr1 (tCons (tVar 9) tNil)) [9])) (gName 5))
    (tSeq (tAsg (tLst (tCons (tVar 5) (tCons (tC (.str "")) (tCons (tC (.str "-")) (tCons (tC .non) (tCons (tC (.int 0)) (tCons (tC (.bl true)) (tCons (tVar 4) (tCons (tLst (tCons (tVar 5) tNil)) (tCons tDNewK tNil)))))))))) (gName 6))
    (tSeq (tFor (iRng1 (tCons (tC (.int 20)) tNil)) (gName 7) (tDrop (tBM K "list" rAppend (tVar 6) (tCons (tCall (spW F__law_bent_text) [] E0 (tCons (tVar 1) (tCons (tVar 5) tNil))) tNil))))
    (tFor (iSeq K (tVar 6)) (gName 8) (tIfS (tTest (tOp (rNeD K) (tCB (rRepr K) (tCons (tCall (spF F__law_told_r) [] E0 (tCons (tVar 3) (tCons (tVar 8) tNil))) tNil)) (tCB (rRepr K) (tCons (tCall (spF F__law_due_f) [] E0 (tCons (tVar 3) (tCons (tVar 8) tNil))) tNil)))) (tRet (tC (.bl false))) tNext))))))))
    (tRet (tC (.bl true))))
theorem ss_law_z175 : SS T_law_z175 X_law_z175 := by
  unfold X_law_z175 T_law_z175
  exact ss_seq (ss_own (by decide) (sw_callD (swa_cons (sw_M se_var) swa_nil)))
    (ss_seq (ss_for (swi_rng (swa_cons (sw_M se_int) swa_nil)) (sg_name (by decide)) ss_X_law_z175_b3)
    (ss_fz (ss_ret (sw_M se_bl))))
end
end Fn
namespace Fn
open PySem PySem.Spec PyProof.Rows L2 Uv
def DkE (b : Nat) (cs : List Cel) : Prop := ∃ (cells : List Int) (p q n : Int), cs = [.dat (.list (cells.map PyData.int)), .dat (.int p), .dat (.int q), .dat (.int n)] ∧ cells.length ≤ 63 ∧ 0 ≤ p ∧ 0 ≤ n ∧ n ≤ b
theorem DkE.mono {b c : Nat} {cs : List Cel} (h : DkE b cs) (hb : b ≤ c) : DkE c cs := by
  obtain ⟨cells, p, q, n, e, h1, h4, h2, h3⟩ := h
  exact ⟨cells, p, q, n, e, h1, h4, h2, by omega⟩
theorem ne_nilN {l : List Nat} : neP (.list (l.map natD)) (.list []) = some (.bool (!l.isEmpty)) := by
  have e : l.map natD = (l.map fun (n : Nat) => (n : Int)).map PyData.int := by rw [List.map_map]; rfl
  unfold neP
  rw [if_pos ⟨by rw [e]; exact PySem.W.shaped_ints _, rfl⟩]
  cases l <;> rfl
end Fn

namespace Uv
open PySem PySem.Spec PyProof.Rows L2
@[simp] theorem q_toInt_b {b : Bool} : toIntP (.bool b) = some (.int (if b = true then 1 else 0)) := by cases b <;> rfl
@[simp] theorem q_toInt_i {i : Int} : toIntP (.int i) = some (.int i) := (rfl)
theorem wp_cut3 {A B C R : XS} {ρ : Env} {Q : Out → Prop} (P : XS → Prop) (hR : P R) (h : ∀ R, P R → wp (sSeq A (sSeq B (sSeq C R)) ρ) (tag Q)) : wp (sSeq A (sSeq B (sSeq C R)) ρ) (tag Q) := h R hR
theorem mkWeb {rs : List Road} {gs ts : List (List Nat)} {m : Nat} (m1 : 1 ≤ m) (m8 : m ≤ 8) (r1 : 1 ≤ rs.length) (r20 : rs.length ≤ 20) (hr : ∀ x ∈ rs, OkRoad m x) (hg : gs.length = m) (ht : ts.length = m) (pg : ∀ (h : Nat) (l : List Nat), gs[h]? = some l → l.Perm (atR rs 0 h)) (pt : ∀ (h : Nat) (l : List Nat), ts[h]? = some l → l.Perm (atR rs 1 h)) : IsWeb ⟨rs, gs, ts⟩ :=
  ⟨⟨by show 1 ≤ gs.length; omega, by show gs.length ≤ 8; omega⟩, by show ts.length = gs.length; omega, ⟨r1, r20⟩, fun x hx => by show OkRoad gs.length x; rw [hg]; exact hr x hx, pg, pt⟩
def isAt (rs : List Road) (s h k : Nat) : Bool := match rs[k]? with
  | some x => side s x == some h
  | none => false
theorem filter_atR {rs : List Road} {s h : Nat} : (List.range rs.length).filter (isAt rs s h) = atR rs s h := by
  have e : List.range rs.length = rs.zipIdx.map (·.2) := by
    rw [show (fun (p : Road × Nat) => p.2) = Prod.snd from rfl, List.zipIdx_map_snd, List.range_eq_range']
  unfold atR
  rw [e, List.filter_map]
  congr 1
  apply List.filter_congr
  rintro ⟨x, k⟩ hx
  have hx := List.mem_zipIdx' hx
  obtain ⟨h1, h2⟩ := hx
  have h2 : x = rs[k] := h2
  show isAt rs s h k = _
  unfold isAt
  rw [List.getElem?_eq_getElem h1, ← h2]
theorem mem_atR {rs : List Road} {s h k : Nat} : k ∈ atR rs s h ↔ ∃ x, rs[k]? = some x ∧ side s x = some h := by
  rw [← filter_atR, List.mem_filter]
  unfold isAt
  constructor
  · rintro ⟨h1, h2⟩
    have h1 : k < rs.length := List.mem_range.mp h1
    rw [List.getElem?_eq_getElem h1] at h2
    exact ⟨_, List.getElem?_eq_getElem h1, by simpa using h2⟩
  · rintro ⟨x, h1, h2⟩
    rw [h1]
    exact ⟨List.mem_range.mpr (List.getElem?_eq_some_iff.mp h1).1, by simpa using h2⟩
theorem atR_len {rs : List Road} {s h : Nat} : (atR rs s h).length ≤ rs.length := by
  unfold atR
  rw [List.length_map]
  exact Nat.le_trans (List.length_filter_le ..) (by simp)
def spots (n : Nat) : List (Option Nat) := none :: (List.range n).map some
theorem spots_len {n : Nat} : (spots n).length = n + 1 := by simp [spots]
theorem spots_nodup {n : Nat} : (spots n).Nodup := by
  unfold spots
  rw [List.nodup_cons]
  refine ⟨by simp, ?_⟩
  rw [List.nodup_iff_pairwise_ne, List.pairwise_map]
  exact (List.nodup_range).imp fun h e => h (Option.some.inj e)
theorem ord_snoc {rs : List Road} {s : Nat} {gs : List (List Nat)} {l : List Nat} (hg : ∀ (h : Nat) (l : List Nat), gs[h]? = some l → l.Perm (atR rs s h)) (hl : l.Perm (atR rs s gs.length)) : ∀ (h : Nat) (l' : List Nat), (gs ++ [l])[h]? = some l' → l'.Perm (atR rs s h) := by
  intro h l' e
  by_cases c : h < gs.length
  · rw [List.getElem?_append_left c] at e
    exact hg h l' e
  · rw [List.getElem?_append_right (by omega)] at e
    have : h - gs.length = 0 := by
      apply Classical.byContradiction
      intro z
      rw [List.getElem?_eq_none (by simp; omega)] at e
      exact nomatch e
    rw [this] at e
    have hh : h = gs.length := by omega
    simp at e
    subst e
    rw [hh]
    exact hl
end Uv

namespace Fn
open PySem PySem.Spec PyProof.Rows L2 Uv
theorem lc_at {rs : List Road} {s h j : Nat} {t : XT} {v : VE} {Q : List PD → Prop} (ht : ∀ (k : Nat) (hk : k < rs.length), t (v.set j (some (natD k))) = some (side s rs[k] == some h)) (hj : ∀ k : Nat, xVar j (v.set j (some (natD k))) = some (natD k)) (hq : Q ((atR rs s h).map natD)) : wp (lcGo (gvName j) t (xVar j) v ((List.range rs.length).map natD)) (tag Q) := by
  refine wp_lc (isAt rs s h) natD (fun k hk => ?_) (by rw [filter_atR]; exact hq)
  have hk : k < rs.length := List.mem_range.mp hk
  have e : isAt rs s h k = (side s rs[k] == some h) := by unfold isAt; rw [List.getElem?_eq_getElem hk]
  rw [e]
  rw [q_gvName, wp_some, ht k hk, wp_some, hj, wp_some]
  exact ⟨rfl, fun _ => rfl⟩
end Fn

namespace Fn
open PySem PySem.Spec PyProof.Rows L2 Uv
def DkA (b : Nat) (cs : List Cel) : Prop := ∃ (gs ns : List Int) (n : Int), cs = [.sub (gs.map PyData.int), .sub (ns.map PyData.int), .dat (.int n)] ∧ gs.length ≤ 63 ∧ ns ≠ [] ∧ ns.length ≤ 64 ∧ 0 ≤ n ∧ n ≤ b
theorem DkA.mono {b c : Nat} {cs : List Cel} (h : DkA b cs) (hb : b ≤ c) : DkA c cs := by
  obtain ⟨gs, ns, n, e, h1, h2, h3, h4, h5⟩ := h
  exact ⟨gs, ns, n, e, h1, h2, h3, h4, by omega⟩
theorem ne_nilIA {l : List Int} : neP (.list (l.map PyData.int)) (.list []) = some (.bool (!l.isEmpty)) := by
  unfold neP
  rw [if_pos ⟨PySem.W.shaped_ints _, rfl⟩]
  cases l <;> rfl
theorem a_next {b : Nat} {cs : List Cel} {m : Int} {Q : PD × List Cel → Prop} (h : DkA b cs) (hb : b ≤ 2 ^ 40) (hm : 0 < m) (hm2 : m < 2 ^ 64) (hq : ∀ (r : Nat) cs', (r : Int) < m → DkA (b + 1) cs' → Q (natD r, cs')) : wp (F__law_next cs [.int m]) (tag Q) := by
  obtain ⟨gs, ns, n, rfl, hg, hn0, hnl, h0, hn⟩ := h
  have dv : Dvr m := ⟨hm, hm2⟩
  have ln : 0 < ns.length := List.length_pos_iff.mpr hn0
  unfold F__law_next
  refine wp_runW rfl ?_
  unfold X__law_next
  simp -implicitDefEqProofs
  refine wp_while (fun k ρ => ∃ (gs : List Int) (z2 z3 z4 : Sl), ρ = [.own [.sub (gs.map PyData.int), .sub (ns.map PyData.int), .dat (.int n)], .dat (.int m), z2, z3, z4] ∧ gs.length = k ∧ gs.length ≤ 63) (k := gs.length) (@fuel_lt kk0 _ (by omega)) ⟨gs, _, _, _, rfl, rfl, hg⟩ ?_
  rintro k ρ ⟨gs, z2, z3, z4, rfl, hk, hg⟩
  simp -implicitDefEqProofs [ne_nilIA]
  refine ⟨fun z => ?_, fun z => ?_⟩
  · subst z
    obtain ⟨j, hj, ej⟩ := emod_nat (a := n + 1) (show (0 : Int) < (ns.length : Int) by omega)
    have hj : j < ns.length := by omega
    refine ⟨ln, ?_⟩
    rw [ej, atI_map hj]
    obtain ⟨t, ht⟩ : ∃ t, t = n + 1 := ⟨_, rfl⟩
    obtain ⟨c, hc⟩ : ∃ c, c = ns[j] % 2147483647 := ⟨_, rfl⟩
    have c64 : In64 c := ⟨by omega, by omega⟩
    have t64 : In64 t := ⟨by omega, by omega⟩
    have e1 : In64 40692 := ⟨by decide, by decide⟩
    have e2 : In64 69621 := ⟨by decide, by decide⟩
    rw [← ht]
    simp -implicitDefEqProofs
    rw [← hc]
    simp -implicitDefEqProofs [c64, t64, e1, e2]
    obtain ⟨x, hx⟩ : ∃ x, x = (c * (48271 + 40692 * t) + 69621 * t * t + 13) % 2147483629 := ⟨_, rfl⟩
    have x64 : In64 x := ⟨by omega, by omega⟩
    rw [← hx]
    simp -implicitDefEqProofs [x64, hm]
    obtain ⟨i, hi, ei⟩ := emod_nat (a := x * x % 2147483587 / 16) hm
    rw [ei]
    exact hq i _ hi ⟨[], ns, t, by simp, by simp, hn0, hnl, by omega, by omega⟩
  · obtain ⟨g, gt, rfl⟩ : ∃ g gt, gs = g :: gt := by
      cases gs with
      | nil => exact absurd rfl z
      | cons g gt => exact ⟨g, gt, rfl⟩
    unfold X__law_next_b1
    have a0 : atI (PyData.int g :: gt.map PyData.int) 0 = some (.int g) := atI_at (k := 0) (by simp)
    have x0 : ixN (gt.length + 1) 0 = some 0 := ixN_nat' (n := gt.length + 1) (k := 0) (by omega)
    simp -implicitDefEqProofs [a0]
    refine wp_altd (fun c => ?_) (fun c => ?_)
    · simp -implicitDefEqProofs [hm, dv, x0]
      obtain ⟨i, hi, ei⟩ := emod_nat (a := g) hm
      rw [ei]
      exact hq i _ hi ⟨g / m :: gt, ns, n, by simp, by simpa using hg, hn0, hnl, h0, by omega⟩
    · simp -implicitDefEqProofs [x0]
      exact ⟨gt.length, by simp at hk; omega, gt, _, _, _, rfl, rfl, by simp at hg; omega⟩
theorem a_one {α : Type} {enc : α → PD} {l : List α} {b : Nat} {cs : List Cel} {Q : PD × List Cel → Prop} (h : DkA b cs) (hb : b ≤ 2 ^ 40) (h0 : l ≠ []) (h1 : l.length ≤ 1000000) (hq : ∀ x ∈ l, ∀ cs', DkA (b + 1) cs' → Q (enc x, cs')) : wp (F__law_one cs [.list (l.map enc)]) (tag Q) := by
  have : 0 < l.length := List.length_pos_iff.mpr h0
  unfold F__law_one
  refine wp_runW rfl ?_
  unfold X__law_one
  simp -implicitDefEqProofs
  refine a_next h hb (by omega) (by omega) fun r cs' hr d => ?_
  have hr : r < l.length := by omega
  simp -implicitDefEqProofs [atI_map hr]
  exact hq _ (List.getElem_mem hr) _ d
theorem a_pick {l : List Int} {b : Nat} {cs : List Cel} {Q : PD × List Cel → Prop} (h : DkA b cs) (hb : b ≤ 2 ^ 40) (h0 : l ≠ []) (h1 : l.length ≤ 1000000) (hq : ∀ x ∈ l, ∀ cs', DkA (b + 1) cs' → Q (.int x, cs')) : wp (F__law_one cs [.list (l.map PyData.int)]) (tag Q) := a_one (enc := PyData.int) h hb h0 h1 hq
theorem a_order {b : Nat} {cs : List Cel} {ns : List Nat} {Q : PD × List Cel → Prop} (h : DkA b cs) (hb : b + ns.length ≤ 2 ^ 40) (hl : ns.length ≤ 1000) (hq : ∀ (es : List Nat) cs', es.Perm ns → DkA (b + ns.length) cs' → Q (natsD es, cs')) : wp (F__law_order cs [.list (ns.map natD)]) (tag Q) := by
  unfold F__law_order
  refine wp_runW rfl ?_
  unfold X__law_order
  simp -implicitDefEqProofs
  refine wp_forM (fun k ρ => ∃ (cs : List Cel) (found : List Nat) (z3 : Sl), ρ = [.own cs, .dat (.list (ns.map natD)), .own (dats (found.map natD)), z3] ∧ found.Perm (ns.take k) ∧ DkA (b + k) cs) ⟨cs, [], _, rfl, by simp, h⟩ ?_ ?_
  · rintro k hk ρ ⟨cs, found, z3, rfl, p, d⟩
    have fl : found.length = k := by rw [p.length_eq, List.length_take]; omega
    unfold X__law_order_b1
    simp -implicitDefEqProofs
    refine a_next d (by omega) (by omega) (by omega) fun r cs' hr d' => ?_
    simp -implicitDefEqProofs
    have hr' : r ≤ found.length := by omega
    refine ⟨⟨by omega, in63e_nat (by omega)⟩, cs', found.take r ++ ns[k] :: found.drop r, .dat (natD ns[k]), ?_, ?_, d'⟩
    · simp [dats]
    · have tk : ns.take (k + 1) = ns.take k ++ [ns[k]] := by rw [List.take_succ, List.getElem?_eq_getElem hk]; rfl
      rw [tk]
      have p1 : (found.take r ++ ns[k] :: found.drop r).Perm (ns[k] :: (found.take r ++ found.drop r)) := List.perm_middle
      rw [List.take_append_drop] at p1
      exact p1.trans ((p.cons _).trans (List.perm_append_singleton _ _).symm)
  · rintro ρ ⟨cs, found, z3, rfl, p, d⟩
    rw [List.take_length] at p
    simp -implicitDefEqProofs
    exact hq found cs p d
theorem a_room {b : Nat} {cs : List Cel} {far : Bool} {Q : PD × List Cel → Prop} (h : DkA b cs) (hb : b + 4 ≤ 2 ^ 40) (hq : ∀ (r : Int) cs', 0 ≤ r → r ≤ 1000000000000 → DkA (b + 4) cs' → Q (.int r, cs')) : wp (F__law_room cs [.bool far]) (tag Q) := by
  unfold F__law_room
  refine wp_runW rfl ?_
  unfold X__law_room
  have e0 : [PyData.int 0, .int 1, .int 1, .int 2, .int 3, .int 5] = ([0, 1, 1, 2, 3, 5] : List Int).map PyData.int := rfl
  simp -implicitDefEqProofs
  rw [e0]
  refine a_pick h (by omega) (by simp) (by simp) fun x hx cs1 d1 => ?_
  have hx : 0 ≤ x ∧ x ≤ 5 := by simp at hx; omega
  simp -implicitDefEqProofs
  refine a_next d1 (by omega) (by omega) (by omega) fun r1 cs2 a1 d2 => ?_
  simp -implicitDefEqProofs
  refine a_next d2 (by omega) (by omega) (by omega) fun r2 cs3 a2 d3 => ?_
  simp -implicitDefEqProofs
  have e1 : [PyData.int 1, .int 2, .int 1000000000000, .int (1000000000000 - (r1 : Int)), natD r2] = ([1, 2, 1000000000000, 1000000000000 - (r1 : Int), (r2 : Int)] : List Int).map PyData.int := rfl
  rw [e1]
  refine a_pick d3 (by omega) (by simp) (by simp) fun y hy cs4 d4 => ?_
  have hy : 0 ≤ y ∧ y ≤ 1000000000000 := by simp at hy; omega
  simp -implicitDefEqProofs
  cases far with
  | true =>
    simp -implicitDefEqProofs [atI]
    exact hq y _ hy.1 hy.2 d4
  | false =>
    simp -implicitDefEqProofs [atI]
    exact hq x _ hx.1 (by omega) d4
def spot (n : Nat) : Option Nat := if n = 0 then none else some (n - 1)
theorem spot_inj {a b : Nat} (h : spot a = spot b) : a = b := by
  unfold spot at h
  by_cases ca : a = 0 <;> by_cases cb : b = 0
  · omega
  · rw [if_pos ca, if_neg cb] at h; exact nomatch h
  · rw [if_neg ca, if_pos cb] at h; exact nomatch h
  · rw [if_neg ca, if_neg cb] at h; have := Option.some.inj h; omega
theorem spot_lt {a n h : Nat} (ha : a < n + 1) (e : spot a = some h) : h < n := by
  unfold spot at e
  by_cases c : a = 0
  · rw [if_pos c] at e; exact nomatch e
  · rw [if_neg c] at e; have := Option.some.inj e; omega
theorem q_spot {a : Nat} : (atI [PyData.none, .int ((a : Int) - 1)] (if 0 < (a : Int) then 1 else 0)) = some (endD (spot a)) := by
  unfold spot
  by_cases c : a = 0
  · subst c; rfl
  · rw [if_neg c, if_pos (by omega)]
    show some (PyData.int ((a : Int) - 1)) = some (natD (a - 1))
    congr 2
    omega
theorem a_road {b n : Nat} {cs : List Cel} {far : Bool} {Q : PD × List Cel → Prop} (h : DkA b cs) (hb : b + 6 ≤ 2 ^ 40) (n1 : 1 ≤ n) (n8 : n ≤ 8) (hq : ∀ (x : Road) cs', OkRoad n x → DkA (b + 6) cs' → Q (roadD x, cs')) : wp (F__law_road cs [natD n, .bool far]) (tag Q) := by
  unfold F__law_road
  refine wp_runW rfl ?_
  unfold X__law_road
  simp -implicitDefEqProofs
  refine a_next h (by omega) (by omega) (by omega) fun r1 cs1 a1 d1 => ?_
  simp -implicitDefEqProofs
  refine a_next d1 (by omega) (by omega) (by omega) fun r2 cs2 a2 d2 => ?_
  obtain ⟨r3, hr3, e3⟩ := emod_nat (a := (r1 : Int) + 1 + (r2 : Int)) (show (0 : Int) < (n : Int) + 1 by omega)
  have ne : r1 ≠ r3 := by
    intro z
    subst z
    have e4 : ((r1 : Int) + 1 + r2) % (n + 1) = r1 := e3
    clear e3
    have : n = 1 ∨ n = 2 ∨ n = 3 ∨ n = 4 ∨ n = 5 ∨ n = 6 ∨ n = 7 ∨ n = 8 := by omega
    rcases this with rfl | rfl | rfl | rfl | rfl | rfl | rfl | rfl <;> omega
  simp -implicitDefEqProofs [e3]
  have e5 : [natD r1, PyData.int (r3 : Int)] = [r1, r3].map natD := rfl
  rw [e5]
  refine wp_lcT (fun k => endD (spot k)) (fun k hk => ?_) ?_
  · have q := q_spot (a := k)
    have ei : (if 0 < (k : Int) then (1 : Int) else 0) = if 0 < k then 1 else 0 := by
      by_cases c : 0 < k
      · rw [if_pos c, if_pos (by omega)]
      · rw [if_neg c, if_neg (by omega)]
    rw [ei] at q
    simp -implicitDefEqProofs [q]
  simp -implicitDefEqProofs
  refine a_room d2 (by omega) fun r cs3 r0 r1' d3 => ?_
  simp -implicitDefEqProofs
  exact hq ⟨spot r1, spot r3, r⟩ cs3 ⟨fun z => ne (spot_inj z), fun h e => spot_lt (by omega) e, fun h e => spot_lt (by omega) e, r0, r1'⟩ (d3.mono (by omega))
theorem a_deck {ns : List Int} {Q : List Cel → Prop} (h : ns.length ≤ 63) (hq : ∀ cs, DkA 0 cs → Q cs) : wp (F__law_deck_h [scrD (ns.map PyData.int)]) (tag Q) := by
  unfold F__law_deck_h
  refine wp_runD rfl ?_
  unfold X__law_deck_h
  simp -implicitDefEqProofs
  refine ⟨by omega, wp_lcT (fun i => .int (if i < 0 then -i else i)) (fun i hi => by simp -implicitDefEqProofs) ?_⟩
  have e : ns.map (fun i => PyData.int (if i < 0 then -i else i)) = (ns.map fun i => if i < 0 then -i else i).map PyData.int := by rw [List.map_map]; rfl
  rw [e]
  obtain ⟨ms, hms⟩ : ∃ ms, ms = ns.map fun (i : Int) => if i < 0 then -i else i := ⟨_, rfl⟩
  have ml : ms.length ≤ 63 := by rw [hms, List.length_map]; exact h
  rw [← hms]
  simp -implicitDefEqProofs
  refine ⟨by omega, wp_lc (fun i => decide ((1000000000000000000 : Int) ≤ i)) PyData.int (fun i hi => by simp -implicitDefEqProofs) ?_⟩
  simp -implicitDefEqProofs
  refine ⟨by omega, hq _ ⟨ms.filter fun i => decide ((1000000000000000000 : Int) ≤ i), ms ++ [(ms.length : Int) + 5], 0, by simp, ?_, by simp, by simp; omega, by omega, by omega⟩⟩
  exact Nat.le_trans (List.length_filter_le ..) ml
theorem a_web {b most many : Nat} {cs : List Cel} {far : Bool} {Q : PD × List Cel → Prop} (h : DkA b cs) (hb : b + 1000 ≤ 2 ^ 40) (m1 : 1 ≤ most) (m2 : most ≤ 8) (k1 : 1 ≤ many) (k2 : many ≤ 20) (hq : ∀ W cs', IsWeb W → DkA (b + 1000) cs' → Q (webD W, cs')) : wp (F__law_web cs [natD most, natD many, .bool far]) (tag Q) := by
  unfold F__law_web
  refine wp_runW rfl ?_
  unfold X__law_web
  simp -implicitDefEqProofs
  refine a_next h (by omega) (by omega) (by omega) fun r1 cs1 a1 d1 => ?_
  simp -implicitDefEqProofs
  refine a_next d1 (by omega) (by omega) (by omega) fun r2 cs2 a2 d2 => ?_
  obtain ⟨n, hn⟩ : ∃ n : Nat, n = 1 + r1 := ⟨_, rfl⟩
  obtain ⟨k, hk⟩ : ∃ k : Nat, k = 1 + r2 := ⟨_, rfl⟩
  have en : (1 : Int) + (r1 : Int) = (n : Int) := by omega
  have ek : (1 : Int) + (r2 : Int) = (k : Int) := by omega
  rw [en]
  simp -implicitDefEqProofs [ek]
  refine ⟨in62_nat (by omega), by omega, ?_⟩
  have em : ∀ {ds : List PD}, PyData.list ds = .list ds := rfl
  refine wp_wl (fun i ds ρ => ∃ (rs : List Road) (cs : List Cel) (z : Sl), ds = rs.map roadD ∧ rs.length = i ∧ (∀ x ∈ rs, OkRoad n x) ∧ ρ = [.own cs, .dat (natD most), .dat (natD many), .dat (.bool far), .dat (natD n), .un, .un, .un, .un, .un, z] ∧ DkA (b + 2 + 6 * i) cs) ⟨[], cs2, _, rfl, rfl, by simp, rfl, d2⟩ ?_ ?_
  · rintro i hi ds ρ ⟨rs, cs, z, rfl, hl, ho, rfl, d⟩
    have hi : i < k := by simpa using hi
    simp -implicitDefEqProofs
    refine a_road d (by omega) (by omega) (by omega) fun x cs' ok d' => ?_
    simp -implicitDefEqProofs
    refine ⟨rs ++ [x], cs', _, by simp, by simp [hl], fun y hy => ?_, rfl, d'.mono (by omega)⟩
    rcases List.mem_append.mp hy with h | h
    · exact ho y h
    · rw [List.mem_singleton.mp h]; exact ok
  rintro ds ρ ⟨rs, cs3, z, rfl, hl, ho, rfl, d3⟩
  have hl : rs.length = k := by simpa using hl
  have d3 : DkA (b + 2 + 6 * k) cs3 := by simpa using d3
  simp -implicitDefEqProofs
  refine wp_for (fun s ρ => ∃ (cs : List Cel) (oss : List (List (List Nat))) (z7 z8 z9 z10 : Sl), ρ = [.own cs, .dat (natD most), .dat (natD many), .dat (.bool far), .dat (natD n), .dat (.list (rs.map roadD)), .own (dats (oss.map fun os => .tuple (os.map natsD))), z7, z8, z9, z10] ∧ oss.length = s ∧ (∀ (j : Nat) (os : List (List Nat)), oss[j]? = some os → os.length = n ∧ ∀ (h : Nat) (l : List Nat), os[h]? = some l → l.Perm (atR rs j h)) ∧ DkA (b + 2 + 6 * k + 200 * s) cs) ⟨cs3, [], _, _, _, _, rfl, rfl, by simp, d3⟩ ?_ ?_
  · rintro s hs ρ ⟨cs, oss, z7, z8, z9, z10, rfl, ol, oo, d⟩
    have hs : s < 2 := by simpa using hs
    have es : ([PyData.int 0, .int 1] : List PD)[s] = natD s := by
      have : s = 0 ∨ s = 1 := by omega
      rcases this with rfl | rfl <;> rfl
    rw [es]
    unfold X__law_web_b2
    simp -implicitDefEqProofs
    refine ⟨in62_nat (by omega), ?_⟩
    refine wp_forR (fun h ρ => ∃ (cs : List Cel) (os : List (List Nat)) (z9 z10 : Sl), ρ = [.own cs, .dat (natD most), .dat (natD many), .dat (.bool far), .dat (natD n), .dat (.list (rs.map roadD)), .own (dats (oss.map fun os => .tuple (os.map natsD))), .dat (natD s), .own (dats (os.map natsD)), z9, z10] ∧ os.length = h ∧ (∀ (h : Nat) (l : List Nat), os[h]? = some l → l.Perm (atR rs s h)) ∧ DkA (b + 2 + 6 * k + 200 * s + 20 * h) cs) ⟨cs, [], _, _, rfl, rfl, by simp, d⟩ ?_ ?_
    · rintro h hh ρ ⟨cs, os, z9, z10, rfl, hol, hoo, d⟩
      have ll := atR_len (rs := rs) (s := s) (h := h)
      unfold X__law_web_b1
      simp -implicitDefEqProofs
      refine ⟨in62_nat (by omega), by omega, lc_at (s := s) (h := h) (fun k hk => ?_) (fun k => rfl) ?_⟩
      · have sd : atI [endD rs[k].b, endD rs[k].e, .int rs[k].r] (s : Int) = some (endD (side s rs[k])) := by
          have : s = 0 ∨ s = 1 := by omega
          rcases this with rfl | rfl <;> rfl
        simp -implicitDefEqProofs [atI_map hk, roadD, sd, eq_end]
      simp -implicitDefEqProofs
      refine a_order d (by omega) (by omega) fun es cs' p d' => ?_
      simp -implicitDefEqProofs
      refine ⟨by omega, cs', os ++ [es], _, _, by rw [List.map_append]; rfl, by simp; omega, ord_snoc hoo (by rw [hol]; exact p), d'.mono (by omega)⟩
    · rintro ρ ⟨cs, os, z9, z10, rfl, hol, hoo, d⟩
      simp -implicitDefEqProofs
      refine ⟨by omega, cs, oss ++ [os], _, _, _, _, by rw [List.map_append]; rfl, by simp; omega, fun j os' e => ?_, d.mono (by omega)⟩
      by_cases c : j < oss.length
      · rw [List.getElem?_append_left c] at e
        exact oo j os' e
      · rw [List.getElem?_append_right (by omega)] at e
        have : j - oss.length = 0 := by
          apply Classical.byContradiction
          intro z
          rw [List.getElem?_eq_none (by simp; omega)] at e
          exact nomatch e
        rw [this] at e
        simp at e
        subst e
        have : j = s := by omega
        subst this
        exact ⟨hol, hoo⟩
  · rintro ρ ⟨cs, oss, z7, z8, z9, z10, rfl, ol, oo, d⟩
    have ol : oss.length = 2 := by simpa using ol
    obtain ⟨gs, ts, rfl⟩ : ∃ gs ts, oss = [gs, ts] := by
      match oss, ol with
      | [gs, ts], _ => exact ⟨gs, ts, rfl⟩
    obtain ⟨g1, g2⟩ := oo 0 gs rfl
    obtain ⟨t1, t2⟩ := oo 1 ts rfl
    simp -implicitDefEqProofs [atI]
    have d : DkA (b + 2 + 6 * k + 200 * 2) cs := by simpa using d
    exact hq ⟨rs, gs, ts⟩ cs (mkWeb (m := n) (by omega) (by omega) (by omega) (by omega) ho g1 t1 g2 t2) (d.mono (by omega))
end Fn

namespace Fn
open PySem PySem.Spec PyProof.Rows L2 Uv
end Fn

namespace Fn
open PySem PySem.Spec PyProof.Rows L2 Uv
@[simp] theorem p_is_number {i : Int} : F_is_number [.int i] = some (.bool true) := by
  unfold F_is_number
  refine eq_of_wp (wp_runP rfl ?_)
  unfold X_is_number
  simp -implicitDefEqProofs
@[simp] theorem p_is_number_to {i m : Int} : F_is_number_to [.int i, .int m] = some (.bool (decide (0 ≤ i) && decide (i ≤ m))) := by
  unfold F_is_number_to
  refine eq_of_wp (wp_runP rfl ?_)
  unfold X_is_number_to
  simp -implicitDefEqProofs
@[simp] theorem p_is_tuple_of {ds : List PD} {a b : Int} : F_is_tuple_of [.tuple ds, .int a, .int b] = some (.bool (decide (a ≤ ds.length) && decide ((ds.length : Int) ≤ b))) := by
  unfold F_is_tuple_of
  refine eq_of_wp (wp_runP rfl ?_)
  unfold X_is_tuple_of
  simp -implicitDefEqProofs
def tside (s : Nat) (x : Tie) : Nat := if s = 0 then x.g else x.t
def atT (ts : List Tie) (s k : Nat) : List Nat := (ts.zipIdx.filter fun p => tside s p.1 == k).map (·.2)
structure OkTie (g t : Nat) (x : Tie) : Prop where
  g : x.g < g
  t : x.t < t
  r0 : 0 ≤ x.r
  r1 : x.r ≤ 1000000000000000
structure OkSeat (ts : List Tie) (s k : Nat) (x : Seat) : Prop where
  m0 : 0 ≤ x.much
  m1 : x.much ≤ 1000000000000000
  p : x.order.Perm (atT ts s k)
structure IsFair (F : Fair) : Prop where
  g : 1 ≤ F.givers.length ∧ F.givers.length ≤ 28
  t : 1 ≤ F.takers.length ∧ F.takers.length ≤ 28
  n : F.ties.length ≤ 36
  tie : ∀ x ∈ F.ties, OkTie F.givers.length F.takers.length x
  give : ∀ (k : Nat) (x : Seat), F.givers[k]? = some x → OkSeat F.ties 0 k x
  take : ∀ (k : Nat) (x : Seat), F.takers[k]? = some x → OkSeat F.ties 1 k x
end Fn

namespace Fn
open PySem PySem.Spec PyProof.Rows L2 Uv
end Fn

namespace Fn
open PySem PySem.Spec PyProof.Rows L2 Uv
theorem mem_atR {rs : List Road} {s h j : Nat} : j ∈ atR rs s h ↔ ∃ x, rs[j]? = some x ∧ side s x = some h := by
  unfold atR
  constructor
  · intro h
    obtain ⟨⟨x, i⟩, h1, rfl⟩ := List.mem_map.mp h
    obtain ⟨h2, h3⟩ := List.mem_filter.mp h1
    exact ⟨x, List.mem_zipIdx_iff_getElem?.mp h2, by simpa using h3⟩
  · rintro ⟨x, h1, h2⟩
    exact List.mem_map.mpr ⟨(x, j), List.mem_filter.mpr ⟨List.mem_zipIdx_iff_getElem?.mpr h1, by simpa using h2⟩, rfl⟩
end Fn

namespace Fn
open PySem PySem.Spec PyProof.Rows L2 Uv
end Fn

namespace Calm
def sm (l : List Nat) (g : Nat → Int) : Int := (l.map g).sum
theorem sm_cons {x : Nat} {l : List Nat} {g : Nat → Int} : sm (x :: l) g = g x + sm l g := by simp [sm]
theorem sm_same {l : List Nat} {g g' : Nat → Int} (h : ∀ j ∈ l, g' j = g j) : sm l g' = sm l g := by
  unfold sm
  rw [List.map_congr_left h]
theorem sm_le {l : List Nat} {g g' : Nat → Int} (h : ∀ j ∈ l, g j ≤ g' j) : sm l g ≤ sm l g' := by
  induction l with
  | nil => exact Int.le_refl _
  | cons x xs ih =>
    have h1 := h x (List.mem_cons_self ..)
    have h2 := ih fun j hj => h j (List.mem_cons_of_mem _ hj)
    rw [sm_cons, sm_cons]
    omega
theorem sm_nn {l : List Nat} {g : Nat → Int} (h : ∀ j ∈ l, 0 ≤ g j) : 0 ≤ sm l g := by
  have := sm_le (g := fun _ => 0) h
  have e : ∀ l : List Nat, sm l (fun _ => 0) = 0 := fun l => by
    induction l with
    | nil => rfl
    | cons x xs ih => rw [sm_cons, ih]; rfl
  rw [e] at this
  exact this
structure Net where
  n : Nat
  hs : Nat
  b : Nat → Option Nat
  e : Nat → Option Nat
  r : Nat → Int
  g : Nat → List Nat
  t : Nat → List Nat
structure Net.Ok (N : Net) : Prop where
  ne : ∀ k, k < N.n → N.b k ≠ N.e k
  r0 : ∀ k, 0 ≤ N.r k
  gm : ∀ h k, k ∈ N.g h ↔ k < N.n ∧ N.b k = some h
  tm : ∀ h k, k ∈ N.t h ↔ k < N.n ∧ N.e k = some h
  gn : ∀ h, (N.g h).Nodup
  tn : ∀ h, (N.t h).Nodup
  bh : ∀ k h, k < N.n → N.b k = some h → h < N.hs
  eh : ∀ k h, k < N.n → N.e k = some h → h < N.hs
variable {N : Net}
def outs (N : Net) (D R : Nat → Int) (h : Nat) : Int := sm (N.g h) fun k => D k - R k
def ins (N : Net) (D R : Nat → Int) (h : Nat) : Int := sm (N.t h) fun k => D k - R k
def worse (N : Net) (D R : Nat → Int) (h k : Nat) : Int := sm (N.t h) fun j => if (N.t h).idxOf k < (N.t h).idxOf j then D j - R j else 0
structure St (N : Net) (D R : Nat → Int) : Prop where
  i1 : ∀ k, 0 ≤ R k ∧ R k ≤ D k ∧ D k ≤ N.r k
  i2 : ∀ k, N.b k = none → D k = N.r k
  i3 : ∀ h k j, k ∈ N.g h → j ∈ N.g h → (N.g h).idxOf k < (N.g h).idxOf j → 0 < D j → D k = N.r k
  i4 : ∀ k, N.e k = none → R k = 0
  i5 : ∀ h, outs N D R h ≤ ins N D R h
  i6 : ∀ h k, k ∈ N.t h → 0 < R k → (∀ j ∈ N.g h, D j = N.r j) ∧ worse N D R h k ≤ ins N D R h - outs N D R h
def up (D : Nat → Int) (k : Nat) : Nat → Int := fun j => if j = k then D j + 1 else D j
theorem start (ok : N.Ok) : St N (fun k => if N.b k = none then N.r k else 0) fun _ => 0 := by
  refine ⟨fun k => ?_, fun k hk => if_pos hk, fun h k j hk hj hij hD => ?_, fun _ _ => rfl, fun h => ?_, fun h k hk hR => by omega⟩
  · have := ok.r0 k
    split <;> omega
  · have : N.b j ≠ none := fun z => by rw [((ok.gm h j).mp hj).2] at z; exact nomatch z
    rw [if_neg this] at hD
    omega
  · have e : outs N (fun k => if N.b k = none then N.r k else 0) (fun _ => 0) h = sm (N.g h) fun _ => 0 := sm_same fun j hj => by
      have : N.b j ≠ none := fun z => by rw [((ok.gm h j).mp hj).2] at z; exact nomatch z
      show (if N.b j = none then N.r j else 0) - 0 = 0
      rw [if_neg this]; rfl
    have z : sm (N.g h) (fun _ => 0) ≤ sm (N.g h) (fun _ => 0) := Int.le_refl _
    have e0 : ∀ l : List Nat, sm l (fun _ => 0) = 0 := fun l => by
      induction l with
      | nil => rfl
      | cons x xs ih => rw [sm_cons, ih]; rfl
    rw [e, e0]
    exact sm_nn fun j _ => by
      have := ok.r0 j
      show 0 ≤ (if N.b j = none then N.r j else 0) - 0
      split <;> omega
structure Rests (N : Net) (f : Nat → Int) (L : Nat → Prop) : Prop where
  lo : ∀ k, 0 ≤ f k
  hi : ∀ k, f k ≤ N.r k
  even : ∀ h, sm (N.g h) f = sm (N.t h) f
  calm : ∀ k, k < N.n → f k < N.r k → (∀ h, N.b k = some h → L h ∨ ∃ j ∈ N.g h, (N.g h).idxOf k < (N.g h).idxOf j ∧ 0 < f j) → ∃ h, N.e k = some h ∧ L h ∧ ∀ j ∈ N.t h, (N.t h).idxOf k < (N.t h).idxOf j → f j = 0
end Calm

namespace Uv
open PySem PySem.Spec PyProof.Rows L2
theorem eqv_nat {a b : Nat} : PyData.eqv (natD a) (natD b) = (a == b) := by
  show ((a : Int) == (b : Int)) = _
  exact Bool.eq_iff_iff.mpr (by simp; omega)
theorem lay_end {k : Nat} {o : Option Nat} : Lay k (endD o) := by cases o; exact Lay.non; exact Lay.int
def rd (W : Web) (k : Nat) : Road := W.roads.getD k ⟨none, none, 0⟩
def giv (W : Web) (h : Nat) : List Nat := W.gives.getD h []
def tak (W : Web) (h : Nat) : List Nat := W.takes.getD h []
def at0 (f : List Int) (k : Nat) : Int := f.getD k 0
def lessB (f : List Int) (o : List Nat) (k : Nat) : Bool := (o.drop (o.idxOf k + 1)).any fun j => decide (0 < at0 f j)
def pushB (W : Web) (f : List Int) (lot : List Nat) (k : Nat) : Bool := match (rd W k).b with
  | none => true
  | some h => lot.contains h || lessB f (giv W h) k
def pullB (W : Web) (f : List Int) (lot : List Nat) (k : Nat) : Bool := match (rd W k).e with
  | none => true
  | some h => !lot.contains h || lessB f (tak W h) k
def openB (W : Web) (f : List Int) (k : Nat) : Bool := decide (at0 f k < (rd W k).r)
def calmB (W : Web) (f : List Int) (lot : List Nat) : Bool := (List.range W.roads.length).all fun k => !(openB W f k && pushB W f lot k && pullB W f lot k)
structure Bears (W : Web) (f : List Int) : Prop where
  len : f.length = W.roads.length
  nn : ∀ x ∈ f, 0 ≤ x
structure IsLot (n : Nat) (l : List Nat) : Prop where
  up : l.Pairwise (· < ·)
  lt : ∀ x ∈ l, x < n
theorem rd_eq {W : Web} {k : Nat} (h : k < W.roads.length) : rd W k = W.roads[k] := by simp [rd, h]
theorem giv_eq {W : Web} {k : Nat} (h : k < W.gives.length) : giv W k = W.gives[k] := by simp [giv, h]
theorem tak_eq {W : Web} {k : Nat} (h : k < W.takes.length) : tak W k = W.takes[k] := by simp [tak, h]
theorem at0_eq {f : List Int} {k : Nat} (h : k < f.length) : at0 f k = f[k] := by simp [at0, h]
theorem atI_bears {f : List Int} {k : Nat} (h : k < f.length) : atI (f.map PyData.int) (k : Int) = some (.int (at0 f k)) := by rw [atI_map h, at0_eq h]
theorem atI_road {W : Web} {k : Nat} (h : k < W.roads.length) : atI (W.roads.map roadD) (k : Int) = some (roadD (rd W k)) := by rw [atI_map h, rd_eq h]
theorem atI_tak {W : Web} {k : Nat} (h : k < W.takes.length) : atI (W.takes.map natsD) (k : Int) = some (natsD (tak W k)) := by rw [atI_map h, tak_eq h]
section
variable {W : Web} {f : List Int}
theorem IsWeb.rd (hw : IsWeb W) {k : Nat} (h : k < W.roads.length) : OkRoad W.gives.length (rd W k) := by rw [rd_eq h]; exact hw.road _ (List.getElem_mem h)
theorem IsWeb.giv (hw : IsWeb W) {h : Nat} (hh : h < W.gives.length) : (giv W h).Perm (atR W.roads 0 h) := by rw [giv_eq hh]; exact hw.give h _ (List.getElem?_eq_getElem hh)
theorem IsWeb.tak (hw : IsWeb W) {h : Nat} (hh : h < W.gives.length) : (tak W h).Perm (atR W.roads 1 h) := by
  have hh' : h < W.takes.length := by rw [hw.same]; exact hh
  rw [tak_eq hh']; exact hw.take h _ (List.getElem?_eq_getElem hh')
theorem IsWeb.mem_giv (hw : IsWeb W) {h k : Nat} (hh : h < W.gives.length) : k ∈ Uv.giv W h ↔ k < W.roads.length ∧ (Uv.rd W k).b = some h := by
  rw [(hw.giv hh).mem_iff, Uv.mem_atR]
  constructor
  · rintro ⟨x, h1, h2⟩
    obtain ⟨h3, h4⟩ := List.getElem?_eq_some_iff.mp h1
    exact ⟨h3, by rw [rd_eq h3, h4]; exact h2⟩
  · rintro ⟨h1, h2⟩
    exact ⟨_, List.getElem?_eq_getElem h1, by rw [← rd_eq h1]; exact h2⟩
theorem IsWeb.mem_tak (hw : IsWeb W) {h k : Nat} (hh : h < W.gives.length) : k ∈ Uv.tak W h ↔ k < W.roads.length ∧ (Uv.rd W k).e = some h := by
  rw [(hw.tak hh).mem_iff, Uv.mem_atR]
  constructor
  · rintro ⟨x, h1, h2⟩
    obtain ⟨h3, h4⟩ := List.getElem?_eq_some_iff.mp h1
    exact ⟨h3, by rw [rd_eq h3, h4]; exact h2⟩
  · rintro ⟨h1, h2⟩
    exact ⟨_, List.getElem?_eq_getElem h1, by rw [← rd_eq h1]; exact h2⟩
theorem nodup_atR {rs : List Road} {s h : Nat} : (atR rs s h).Nodup := (atR_sorted rs s h).imp fun h => by omega
theorem IsWeb.nd_giv (hw : IsWeb W) {h : Nat} (hh : h < W.gives.length) : (Uv.giv W h).Nodup := (hw.giv hh).nodup_iff.mpr nodup_atR
theorem IsWeb.nd_tak (hw : IsWeb W) {h : Nat} (hh : h < W.gives.length) : (Uv.tak W h).Nodup := (hw.tak hh).nodup_iff.mpr nodup_atR
theorem IsWeb.len_giv (hw : IsWeb W) {h : Nat} (hh : h < W.gives.length) : (Uv.giv W h).length ≤ 20 := by rw [(hw.giv hh).length_eq]; exact Nat.le_trans atR_len hw.count.2
theorem IsWeb.len_tak (hw : IsWeb W) {h : Nat} (hh : h < W.gives.length) : (Uv.tak W h).length ≤ 20 := by rw [(hw.tak hh).length_eq]; exact Nat.le_trans atR_len hw.count.2
theorem Bears.at (hf : Bears W f) (k : Nat) : 0 ≤ at0 f k := by
  by_cases h : k < f.length
  · rw [at0_eq h]; exact hf.nn _ (List.getElem_mem h)
  · simp [at0, h]
end
end Uv

namespace Fn
open PySem PySem.Spec PyProof.Rows L2 Uv
section
variable {W : Web} {f : List Int} {lot : List Nat}
theorem p_borne {l : List Nat} (h : ∀ j ∈ l, j < f.length) (hl : l.length ≤ 40000) : F_borne [intsD f, natsD l] = some (.int (l.map (at0 f)).sum) := by
  refine eq_of_wp ?_
  unfold F_borne
  refine wp_runP rfl ?_
  unfold X_borne
  simp -implicitDefEqProofs
  refine ⟨hl, wp_lcT (fun j => .int (at0 f j)) (fun j hj => ?_) ?_⟩
  · simp -implicitDefEqProofs [atI_bears (h j hj)]
  · simp -implicitDefEqProofs [q_sum]
end
end Fn

namespace Fn
open PySem PySem.Spec PyProof.Rows L2 Uv
section
variable {W : Web} {f : List Int} {lot : List Nat}
end
end Fn

namespace Fn
open PySem PySem.Spec PyProof.Rows L2 Uv
section
variable {W : Web} {f : List Int} {lot : List Nat}
end
end Fn

namespace Fn
open PySem PySem.Spec PyProof.Rows L2 Uv
section
variable {W : Web} {f : List Int} {lot : List Nat}
def evenB (W : Web) (f : List Int) : Bool := (List.range W.gives.length).all fun h => decide (((giv W h).map (at0 f)).sum = ((tak W h).map (at0 f)).sum)
end
end Fn

namespace Fn
open PySem PySem.Spec PyProof.Rows L2 Uv
section
variable {W : Web} {f : List Int} {lot : List Nat}
end
end Fn

namespace Calm
theorem sm_add {l : List Nat} {g g' : Nat → Int} : sm l (fun k => g k + g' k) = sm l g + sm l g' := by
  induction l with
  | nil => rfl
  | cons x xs ih => rw [sm_cons, sm_cons, sm_cons, ih]; omega
theorem sm_nul {l : List Nat} {g : Nat → Int} (h : ∀ k ∈ l, g k = 0) : sm l g = 0 := by
  induction l with
  | nil => rfl
  | cons x xs ih =>
    rw [sm_cons, h x (List.mem_cons_self ..), ih fun k hk => h k (List.mem_cons_of_mem _ hk)]; rfl
theorem sm_perm {l m : List Nat} {g : Nat → Int} (p : l.Perm m) : sm l g = sm m g := by
  induction p with
  | nil => rfl
  | cons x _ ih => rw [sm_cons, sm_cons, ih]
  | swap x y l => rw [sm_cons, sm_cons, sm_cons, sm_cons]; omega
  | trans _ _ h1 h2 => rw [h1, h2]
theorem sm_swap {l m : List Nat} {G : Nat → Nat → Int} : sm l (fun h => sm m fun k => G h k) = sm m fun k => sm l fun h => G h k := by
  induction l with
  | nil => exact (sm_nul fun _ _ => rfl).symm
  | cons x xs ih => rw [sm_cons, ih, ← sm_add]; rfl
theorem sm_single {l : List Nat} {g : Nat → Int} {a : Nat} (nd : l.Nodup) (ha : a ∈ l) (h : ∀ k ∈ l, k ≠ a → g k = 0) : sm l g = g a := by
  induction l with
  | nil => exact nomatch ha
  | cons x xs ih =>
    obtain ⟨n1, n2⟩ := List.nodup_cons.mp nd
    rw [sm_cons]
    by_cases e : x = a
    · subst e
      rw [sm_nul fun k hk => h k (List.mem_cons_of_mem _ hk) fun z => n1 (z ▸ hk)]
      omega
    · rw [h x (List.mem_cons_self ..) e, ih n2 ((List.mem_cons.mp ha).resolve_left fun z => e z.symm) fun k hk => h k (List.mem_cons_of_mem _ hk)]
      omega
theorem sm_filter {l : List Nat} {p : Nat → Bool} {g : Nat → Int} : sm (l.filter p) g = sm l fun k => if p k = true then g k else 0 := by
  induction l with
  | nil => rfl
  | cons x xs ih =>
    rw [List.filter_cons, sm_cons]
    by_cases c : p x = true
    · rw [if_pos c, if_pos c, sm_cons, ih]
    · rw [if_neg c, if_neg c, ih]; omega
variable {N : Net}
open Classical in
/-- a sum over the roads of one side, house by house -/
theorem sides {n hs : Nat} {b : Nat → Option Nat} {l : Nat → List Nat} (lm : ∀ h k, k ∈ l h ↔ k < n ∧ b k = some h) (ln : ∀ h, (l h).Nodup) (bh : ∀ k h, k < n → b k = some h → h < hs) (P : Nat → Prop) (Q : Nat → Prop) (hQ : ∀ k, Q k ↔ ∃ h, b k = some h ∧ P h) (F : Nat → Int) :
    sm (List.range n) (fun k => if Q k then F k else 0) = sm (List.range hs) (fun h => if P h then sm (l h) F else 0) := by
  have e1 : ∀ h, sm (l h) F = sm (List.range n) (fun k => if b k = some h then F k else 0) := fun h => by
    have p : (l h).Perm ((List.range n).filter fun k => decide (b k = some h)) := (List.perm_ext_iff_of_nodup (ln h) (List.nodup_range.filter _)).mpr fun k => by
      rw [lm, List.mem_filter, List.mem_range, decide_eq_true_iff]
    rw [sm_perm p, sm_filter]
    exact sm_same fun k _ => by simp
  have e2 : sm (List.range hs) (fun h => if P h then sm (l h) F else 0) = sm (List.range hs) (fun h => sm (List.range n) fun k => if P h ∧ b k = some h then F k else 0) := sm_same fun h _ => by
    by_cases c : P h
    · rw [if_pos c, e1]
      exact sm_same fun k _ => by simp [c]
    · rw [if_neg c]
      exact (sm_nul fun k _ => by simp [c]).symm
  rw [e2, sm_swap]
  apply sm_same
  intro k hk
  have hk := List.mem_range.mp hk
  cases hb : b k with
  | none =>
    rw [if_neg (by rw [hQ]; rintro ⟨h, e, _⟩; rw [hb] at e; exact nomatch e)]
    exact (sm_nul fun h _ => by simp).symm
  | some h0 =>
    rw [sm_single List.nodup_range (List.mem_range.mpr (bh k h0 hk hb)) (fun h _ hne => if_neg fun z => hne (Option.some.inj z.2).symm)]
    by_cases c : P h0
    · rw [if_pos ((hQ k).mpr ⟨h0, hb, c⟩), if_pos ⟨c, rfl⟩]
    · rw [if_neg (by rw [hQ]; rintro ⟨h, e, ph⟩; rw [hb] at e; exact c (Option.some.inj e ▸ ph)), if_neg fun z => c z.1]
def thr (N : Net) (f : Nat → Int) (h : Nat) : Int := sm (N.g h) f
def Up (N : Net) (f : Nat → Int) (S : Nat → Prop) (g : Nat → Int) (T : Nat → Prop) (h : Nat) : Prop :=
  (∃ k ∈ N.g h, g k < f k ∧ ¬ T h ∧ ∀ j ∈ N.g h, (N.g h).idxOf k < (N.g h).idxOf j → g j = 0) ∨ (S h ∧ (¬ T h ∨ thr N f h < thr N g h))
def Vp (N : Net) (f : Nat → Int) (S : Nat → Prop) (g : Nat → Int) (T : Nat → Prop) (h : Nat) : Prop :=
  (∃ k ∈ N.t h, g k < f k ∧ T h ∧ ∀ j ∈ N.t h, (N.t h).idxOf k < (N.t h).idxOf j → g j = 0) ∨ (¬ S h ∧ (T h ∨ thr N f h < thr N g h))
def UU (N : Net) (f : Nat → Int) (S : Nat → Prop) (g : Nat → Int) (T : Nat → Prop) (k : Nat) : Prop := ∃ h, N.b k = some h ∧ Up N f S g T h
def VV (N : Net) (f : Nat → Int) (S : Nat → Prop) (g : Nat → Int) (T : Nat → Prop) (k : Nat) : Prop := ∃ h, N.e k = some h ∧ Vp N f S g T h
section
variable {f g : Nat → Int} {S T : Nat → Prop}
end
end Calm

namespace Calm
def lx : List Int → List Int → Bool
  | [], [] => false
  | [], _ :: _ => true
  | _ :: _, [] => false
  | a :: l, b :: m => if a = b then lx l m else decide (a < b)
variable {N : Net} {f g : Nat → Int} {S T : Nat → Prop}
open Classical in
/-- what a house goes by when it likes one of two pairs -/
noncomputable def key (N : Net) (f : Nat → Int) (S : Nat → Prop) (h : Nat) : List Int := if S h then 0 :: 0 :: (N.g h).map f else 1 :: -(sm (N.t h) f) :: (N.g h).map f
theorem Up.to (h : Nat) {k : Nat} (ok : N.Ok) (hk : k ∈ N.g h) : UU N f S g T k ↔ Up N f S g T h := by
  obtain ⟨_, kb⟩ := (ok.gm h k).mp hk
  constructor
  · rintro ⟨h', e, u⟩
    rw [kb] at e
    exact Option.some.inj e ▸ u
  · exact fun u => ⟨h, kb, u⟩
theorem Vp.to (h : Nat) {k : Nat} (ok : N.Ok) (hk : k ∈ N.t h) : VV N f S g T k ↔ Vp N f S g T h := by
  obtain ⟨_, kb⟩ := (ok.tm h k).mp hk
  constructor
  · rintro ⟨h', e, u⟩
    rw [kb] at e
    exact Option.some.inj e ▸ u
  · exact fun u => ⟨h, kb, u⟩
end Calm

namespace Fn
open PySem PySem.Spec PyProof.Rows L2 Uv
structure Pr (W : Web) (p : List Int × List Nat) : Prop where
  be : Bears W p.1
  hi : ∀ k, at0 p.1 k ≤ (rd W k).r
  ev : evenB W p.1 = true
  ca : calmB W p.1 p.2 = true
  lo : IsLot W.gives.length p.2
section
variable {W : Web} {p q : List Int × List Nat} {h : Nat}
def keyL (W : Web) (p : List Int × List Nat) (h : Nat) : List Int := if p.2.contains h = true then 0 :: 0 :: (giv W h).map (at0 p.1) else 1 :: -((tak W h).map (at0 p.1)).sum :: (giv W h).map (at0 p.1)
def cmpK (W : Web) (h : Nat) (p q : List Int × List Nat) : Int := if keyL W p h = keyL W q h then 0 else if Calm.lx (keyL W q h) (keyL W p h) = true then 1 else -1
end
end Fn

namespace Fn
open PySem PySem.Spec PyProof.Rows L2 Uv
section
variable {W : Web} {p q : List Int × List Nat} {h : Nat}
theorem eq_nilL {l : List PD} (h : ∀ d ∈ l, Lay 59 d) : eqP (.list l) (.list []) = some (.bool l.isEmpty) := by
  rw [eqP_lay (Lay.lst h) (Lay.lst (k := 59) (by simp))]
  cases l with
  | nil => rfl
  | cons x xs => simp [PyData.eqv, PyData.eqvAll]
theorem Pr.even (hp : Pr W p) (hh : h < W.gives.length) : ((giv W h).map (at0 p.1)).sum = ((tak W h).map (at0 p.1)).sum := by
  have e := hp.ev
  unfold evenB at e
  exact of_decide_eq_true (List.all_eq_true.mp e h (List.mem_range.mpr hh))
end
end Fn

namespace Fn
open PySem PySem.Spec PyProof.Rows L2 Uv
@[simp] theorem q_zip3 {xs ys zs : List PD} : zip3P [.tuple xs, .tuple ys, .tuple zs] = some (zipD3 xs ys zs) := (rfl)
section
variable {W : Web} {p q : List Int × List Nat} {h : Nat}
structure Sz (W : Web) (p : List Int × List Nat) : Prop where
  len : p.1.length = W.roads.length
  lo : IsLot W.gives.length p.2
theorem Pr.sz (hp : Pr W p) : Sz W p := ⟨hp.be.len, hp.lo⟩
def joinS (W : Web) (p q : List Int × List Nat) (k : Nat) : Int := match (rd W k).b with
  | none => at0 p.1 k
  | some h => if cmpK W h p q < 0 then at0 q.1 k else at0 p.1 k
def joinL (W : Web) (p q : List Int × List Nat) : List Int × List Nat := ((List.range W.roads.length).map (joinS W p q), p.2.filter fun h => q.2.contains h)
theorem at0_range {f : Nat → Int} {n k : Nat} (hk : k < n) : at0 ((List.range n).map f) k = f k := by
  rw [at0_eq (by simpa using hk)]
  simp
theorem ints_range {f : List Int} {n : Nat} (hf : f.length = n) : f.map PyData.int = (List.range n).map fun k => .int (at0 f k) := by
  apply List.ext_getElem
  · simp [hf]
  · intro i h1 h2
    simp at h1 h2
    simp [at0_eq h1]
def mx (a b : List Int) : List Int := if Calm.lx a b = true then b else a
def mn (a b : List Int) : List Int := if Calm.lx a b = true then a else b
def Dr (W : Web) (d : Nat → Int) (p : List Int × List Nat) : Prop := ∀ k, k < W.roads.length → (rd W k).b = none → at0 p.1 k = d k
theorem Dr.join {d : Nat → Int} (hp : Dr W d p) : Dr W d (joinL W p q) := fun k hk hb => by
  show at0 ((List.range W.roads.length).map (joinS W p q)) k = _
  rw [at0_range hk]
  unfold joinS
  rw [hb]
  exact hp k hk hb
end
end Fn

namespace Uv
open PySem PySem.Spec PyProof.Rows L2
def endV {Q : List Cel × List Cel → Prop} (_ : Tag Q) : Out → Prop
  | .retO r ρ => wp (ownAt ρ 0) (tag fun cs => Q (r, cs))
  | _ => False
@[simp] theorem endV_ret {Q : List Cel × List Cel → Prop} {r : List Cel} {ρ : Env} : endV (tag Q) (.retO r ρ) = wp (ownAt ρ 0) (tag fun cs => Q (r, cs)) := (rfl)
theorem wp_runV {n k : Nat} {X : XS} {cs : List Cel} {ds : List PD} {Q : List Cel × List Cel → Prop} (hn : ds.length = n) (h : wp (X (.own cs :: (ds.map Sl.dat ++ List.replicate k Sl.un))) (tag (endV (tag Q)))) : wp (runV n k X cs ds) (tag Q) := by
  obtain ⟨o, e, h⟩ := h
  unfold runV
  rw [if_pos hn, e]
  cases o with
  | retO r ρ =>
    obtain ⟨cs', e2, h2⟩ := h
    exact ⟨(r, cs'), by rw [Option.bind_some]; show (ownAt ρ 0).bind _ = _; rw [e2]; rfl, h2⟩
  | _ => exact h.elim
@[simp] theorem q_wCallV {i m : Nat} {g : List Cel → List PD → Option (List Cel × List Cel)} {a : XW} {ρ : Env} : wCallV i m g a ρ = (ownAt ρ i).bind fun _ => (a ρ).bind fun x => (ownAt x.2 i).bind fun cs => (ownAt x.2 m).bind fun ms => (allDat ms).bind fun ds => (g cs [x.1, .list ds]).bind fun y => grd (flatC y.1 = true ∧ flatC y.2 = true) (some (y.1, x.2.set i (.own y.2))) := by
  unfold wCallV
  simp only [grd_ite]
theorem flats_mapA {α : Type} {f : α → PD} (h : ∀ x, flat (f x) = true) : ∀ l : List α, flats (l.map f) = true
  | [] => q_flats_nil
  | x :: l => by rw [List.map_cons, q_flats_cons, h x, flats_mapA h l]; rfl
theorem flatC_dats : ∀ {ds : List PD}, flats ds = true → flatC (dats ds) = true
  | [], _ => rfl
  | d :: ds, h => by
    rw [q_flats_cons, Bool.and_eq_true] at h
    show (flat d && flatC (dats ds)) = true
    rw [h.1, flatC_dats h.2]
    rfl
theorem eqv_end {a b : Option Nat} : PyData.eqv (endD a) (endD b) = (a == b) := by
  cases a with
  | none => cases b <;> rfl
  | some x =>
    cases b with
    | none => rfl
    | some y =>
      show PyData.eqv (natD x) (natD y) = _
      rw [eqv_nat]
      exact Bool.eq_iff_iff.mpr (by simp)
theorem any_endL {os : List (Option Nat)} {o : Option Nat} : ((os.map endD).any fun z => PyData.eqv z (endD o)) = os.contains o := by
  induction os with
  | nil => rfl
  | cons x xs ih =>
    rw [List.map_cons, List.any_cons, ih, List.contains_cons, eqv_end]
    congr 1
    exact Bool.eq_iff_iff.mpr (by simp; exact eq_comm)
theorem in_endL {os : List (Option Nat)} {o : Option Nat} : inP (endD o) (.list (os.map endD)) = some (.bool (os.contains o)) := by
  unfold inP
  rw [if_pos ⟨lay_end.sh, (Lay.lst (k := 59) (Lay.map fun _ => lay_end)).sh⟩]
  show some (PyData.bool _) = _
  rw [any_endL]
theorem notin_endL {os : List (Option Nat)} {o : Option Nat} : notinP (endD o) (.list (os.map endD)) = some (.bool (!os.contains o)) := by
  unfold notinP
  rw [if_pos ⟨lay_end.sh, (Lay.lst (k := 59) (Lay.map fun _ => lay_end)).sh⟩]
  show some (PyData.bool _) = _
  rw [any_endL]
theorem idx_endL {os : List (Option Nat)} {o : Option Nat} (h : o ∈ os) : idxP (.list (os.map endD)) (endD o) = some (natD (os.idxOf o)) := by
  have hf : (os.map endD).findIdx? (fun z => PyData.eqv z (endD o)) = some (os.idxOf o) := by
    induction os with
    | nil => exact nomatch h
    | cons x xs ih =>
      rw [List.map_cons, List.findIdx?_cons, List.idxOf_cons, eqv_end]
      by_cases c : x = o
      · simp [c]
      · have hk : o ∈ xs := (List.mem_cons.mp h).resolve_left fun z => c z.symm
        have e2 : (x == o) = false := by simpa using c
        rw [e2]
        simp [ih hk]
  unfold idxP
  dsimp only
  rw [if_pos ⟨(Lay.lst (k := 59) (Lay.map fun _ => lay_end)).sh, lay_end.sh⟩, hf]
end Uv
namespace Fn
open PySem PySem.Spec PyProof.Rows L2 Uv
section
variable {W : Web} {R : List Nat} {f : List Int}
def begs (W : Web) (R : List Nat) : List (Option Nat) := R.map fun k => (rd W k).b
def ends (W : Web) (R : List Nat) : List (Option Nat) := R.map fun k => (rd W k).e
structure RowOk (W : Web) (R : List Nat) : Prop where
  lt : ∀ k ∈ R, k < W.roads.length
  nd : R.Nodup
  bal : (begs W R).Perm (ends W R)
def ind (R : List Nat) (c : Int) (k : Nat) : Int := if k ∈ R then c else 0
theorem ind_sm {l : List Nat} {c : Int} (hl : l.Nodup) (hr : R.Nodup) : Calm.sm l (ind R c) = Calm.sm R (ind l c) := by
  have e1 : ∀ {l m : List Nat}, m.Nodup → Calm.sm l (ind m c) = Calm.sm l fun k => Calm.sm m fun j => if j = k then c else 0 := fun {l m} hm => Calm.sm_same fun k _ => by
    by_cases h : k ∈ m
    · show (if k ∈ m then c else 0) = _
      rw [if_pos h, Calm.sm_single (a := k) hm h fun j _ hj => if_neg hj, if_pos rfl]
    · show (if k ∈ m then c else 0) = _
      rw [if_neg h]
      exact (Calm.sm_nul fun j hj => by rw [if_neg]; rintro rfl; exact h hj).symm
  rw [e1 hr, e1 hl, Calm.sm_swap]
  exact Calm.sm_same fun j _ => Calm.sm_same fun k _ => by
    by_cases h : j = k
    · rw [if_pos h, if_pos h.symm]
    · rw [if_neg h, if_neg fun z => h z.symm]
def cnt (o : Option Nat) (c : Int) (l : List (Option Nat)) : Int := (l.map fun x => if x = o then c else 0).sum
theorem cnt_perm {o : Option Nat} {c : Int} {l m : List (Option Nat)} (p : l.Perm m) : cnt o c l = cnt o c m := by
  unfold cnt
  induction p with
  | nil => rfl
  | cons x _ ih => rw [List.map_cons, List.map_cons, List.sum_cons, List.sum_cons, ih]
  | swap x y l => simp only [List.map_cons, List.sum_cons]; omega
  | trans _ _ h1 h2 => rw [h1, h2]
theorem sm_giv (hw : IsWeb W) (hr : RowOk W R) {h : Nat} (hh : h < W.gives.length) {c : Int} : Calm.sm (giv W h) (ind R c) = cnt (some h) c (begs W R) := by
  rw [ind_sm (hw.nd_giv hh) hr.nd]
  unfold cnt begs Calm.sm
  rw [List.map_map]
  congr 1
  refine List.map_congr_left fun k hk => ?_
  show (if k ∈ giv W h then c else 0) = if (rd W k).b = some h then c else 0
  by_cases z : (rd W k).b = some h
  · rw [if_pos z, if_pos ((hw.mem_giv hh).mpr ⟨hr.lt k hk, z⟩)]
  · rw [if_neg z, if_neg fun y => z ((hw.mem_giv hh).mp y).2]
theorem sm_tak (hw : IsWeb W) (hr : RowOk W R) {h : Nat} (hh : h < W.gives.length) {c : Int} : Calm.sm (tak W h) (ind R c) = cnt (some h) c (ends W R) := by
  rw [ind_sm (hw.nd_tak hh) hr.nd]
  unfold cnt ends Calm.sm
  rw [List.map_map]
  congr 1
  refine List.map_congr_left fun k hk => ?_
  show (if k ∈ tak W h then c else 0) = if (rd W k).e = some h then c else 0
  by_cases z : (rd W k).e = some h
  · rw [if_pos z, if_pos ((hw.mem_tak hh).mpr ⟨hr.lt k hk, z⟩)]
  · rw [if_neg z, if_neg fun y => z ((hw.mem_tak hh).mp y).2]
theorem row_even (hw : IsWeb W) (hr : RowOk W R) {h : Nat} (hh : h < W.gives.length) {c : Int} : Calm.sm (giv W h) (ind R c) = Calm.sm (tak W h) (ind R c) := by
  rw [sm_giv hw hr hh, sm_tak hw hr hh, cnt_perm hr.bal]
structure Chn (W : Web) (R : List Nat) (z : Option Nat) : Prop where
  ne : R ≠ []
  lt : ∀ k ∈ R, k < W.roads.length
  nd : (begs W R).Nodup
  ch : ends W R = (begs W R).tail ++ [z]
theorem Chn.snoc {z : Option Nat} (h : Chn W R z) {k : Nat} (hk : k < W.roads.length) (hb : (rd W k).b = z) (hz : z ∉ begs W R) : Chn W (R ++ [k]) (rd W k).e := by
  have eb : begs W (R ++ [k]) = begs W R ++ [z] := by unfold begs; rw [List.map_append, List.map_cons, hb]; rfl
  refine ⟨by simp, fun j hj => ?_, ?_, ?_⟩
  · rcases List.mem_append.mp hj with y | y
    · exact h.lt j y
    · rw [List.mem_singleton.mp y]; exact hk
  · rw [eb]
    refine List.nodup_append.mpr ⟨h.nd, by simp, fun a ha b hb' => ?_⟩
    rw [List.mem_singleton.mp hb']
    rintro rfl
    exact hz ha
  · have ee : ends W (R ++ [k]) = ends W R ++ [(rd W k).e] := by unfold ends; rw [List.map_append]; rfl
    rw [ee, eb, h.ch]
    have : begs W R ≠ [] := by unfold begs; simpa using h.ne
    rw [List.tail_append_of_ne_nil this]
theorem nodup_of_begs (h : (begs W R).Nodup) : R.Nodup := by
  unfold begs at h
  rw [List.nodup_iff_pairwise_ne, List.pairwise_map] at h
  exact h.imp fun {a b} h => by rintro rfl; exact h rfl
theorem Chn.row {z : Option Nat} (h : Chn W R z) {j : Nat} (hj : j < R.length) (hz : (begs W R)[j]? = some z) : RowOk W (R.drop j) := by
  have bl : (begs W R).length = R.length := by unfold begs; simp
  have hjb : j < (begs W R).length := by omega
  refine ⟨fun k hk => h.lt k (List.mem_of_mem_drop hk), (nodup_of_begs h.nd).sublist (List.drop_sublist ..), ?_⟩
  have e1 : begs W (R.drop j) = (begs W R).drop j := by unfold begs; rw [List.map_drop]
  have e2 : ends W (R.drop j) = (ends W R).drop j := by unfold ends; rw [List.map_drop]
  rw [e1, e2, h.ch]
  obtain ⟨_, ez⟩ := List.getElem?_eq_some_iff.mp hz
  rw [List.drop_eq_getElem_cons hjb, ez, ← List.drop_one, List.drop_append_of_le_length (by simp; omega), List.drop_drop, Nat.add_comm 1 j]
  exact (List.perm_append_singleton _ _).symm
theorem Chn.len {z : Option Nat} (hw : IsWeb W) (h : Chn W R z) : R.length ≤ W.gives.length + 1 := by
  have bl : (begs W R).length = R.length := by unfold begs; simp
  have sub : begs W R ⊆ spots W.gives.length := fun o ho => by
    obtain ⟨k, hk, rfl⟩ := List.mem_map.mp ho
    unfold spots
    cases e : (rd W k).b with
    | none => simp
    | some x => simp; exact (hw.rd (h.lt k hk)).2.1 x e
  have p : (begs W R).Perm ((spots W.gives.length).filter fun o => (begs W R).contains o) := (List.perm_ext_iff_of_nodup h.nd (spots_nodup.filter _)).mpr fun o => by
    rw [List.mem_filter, List.contains_iff_mem]
    exact ⟨fun z => ⟨sub z, z⟩, fun z => z.2⟩
  have l1 := p.length_eq
  have l2 := List.length_filter_le (fun o => (begs W R).contains o) (spots W.gives.length)
  rw [spots_len] at l2
  omega
end
end Fn

namespace Fn
open PySem PySem.Spec PyProof.Rows L2 Uv
section
variable {W : Web} {R : List Nat} {f : List Int}
theorem DkA.flat {b : Nat} {cs : List Cel} (h : DkA b cs) : flatC cs = true := by
  obtain ⟨gs, ns, n, rfl, _⟩ := h
  have e : ∀ l : List Int, flats (l.map PyData.int) = true := flats_mapA fun _ => q_flat_i
  simp [flatC, e]
def Drawn (W : Web) (f : List Int) (R : List Nat) : Prop := R ≠ [] → RowOk W R ∧ ∀ k ∈ R, at0 f k < (rd W k).r
theorem eq_nilN {l : List Nat} : eqP (.list (l.map natD)) (.list []) = some (.bool l.isEmpty) := by
  rw [eq_nilL (Lay.map (k := 59) fun _ => Lay.int)]
  cases l <;> rfl
theorem at_last {α β : Type} {g : α → β} {l : List α} {x : α} : atI ((l ++ [x]).map g) (-1) = some (g x) := by
  have e0 : (l ++ [x]).map g = l.map g ++ [g x] := by rw [List.map_append]; rfl
  rw [e0]
  have i1 : ixN (l.map g ++ [g x]).length (-1) = some l.length := by
    unfold ixN
    simp
    omega
  unfold atI
  rw [i1]
  simp
theorem cut_nat {ds : List PD} {k : Nat} : Uv.cutD ds (some (k : Int)) none = ds.drop k := by
  unfold Uv.cutD
  rw [HT.sIx_nat, HT.sIx_none]
  by_cases c : k ≤ ds.length
  · rw [Nat.min_eq_left c, List.take_of_length_le (by simp)]
  · rw [Nat.min_eq_right (by omega), List.drop_eq_nil_of_le (Nat.le_refl _), List.drop_eq_nil_of_le (by omega)]
    simp
theorem a_round {b : Nat} {cs : List Cel} {Q : List Cel × List Cel → Prop} (h : DkA b cs) (hb : b + 20 ≤ 2 ^ 40) (hw : IsWeb W) (hf : f.length = W.roads.length) (hq : ∀ (R : List Nat) cs', Drawn W f R → DkA (b + 20) cs' → Q (dats (R.map natD), cs')) : wp (F__law_round_b cs [webD W, .list (f.map PyData.int)]) (tag Q) := by
  have hc := hw.count
  have hh := hw.houses
  have none0 : ∀ cs', DkA (b + 20) cs' → Q ([], cs') := fun cs' d => hq [] cs' (fun z => absurd rfl z) d
  obtain ⟨lit, hlit⟩ : ∃ l, l = (List.range W.roads.length).filter (openB W f) := ⟨_, rfl⟩
  have litm : ∀ k ∈ lit, k < W.roads.length ∧ at0 f k < (rd W k).r := fun k hk => by
    rw [hlit] at hk
    obtain ⟨h1, h2⟩ := List.mem_filter.mp hk
    exact ⟨List.mem_range.mp h1, of_decide_eq_true h2⟩
  have litl : lit.length ≤ 20 := by
    rw [hlit]
    exact Nat.le_trans (List.length_filter_le ..) (by simp; omega)
  unfold F__law_round_b
  refine wp_runV rfl ?_
  unfold X__law_round_b
  refine wp_cut3 (fun R => ∀ (bg : List Nat) (cs : List Cel), bg.length ≤ 20 → (∀ k ∈ bg, k ∈ lit) → DkA (b + 1) cs → wp (R [.own cs, .dat (webD W), .dat (.list (f.map PyData.int)), .dat (.list (lit.map natD)), .dat (.list (bg.map natD)), .un, .un, .un, .un, .un, .un]) (tag (endV (tag Q)))) ?_ fun R hR => ?_
  · -- the row
    intro bg cs bgl bgm d
    simp -implicitDefEqProofs [eq_nilN]
    refine wp_alt (fun c => ?_) (fun c => ?_)
    · simp -implicitDefEqProofs
      exact none0 cs (d.mono (by omega))
    have bn : bg ≠ [] := by
      rintro rfl
      exact nomatch c
    simp -implicitDefEqProofs
    refine a_one d (by omega) bn (by omega) fun k hk cs1 d1 => ?_
    have kl := litm k (bgm k hk)
    have i0 : atI [natD k] 0 = some (natD k) := rfl
    simp -implicitDefEqProofs [i0, atI_road kl.1, roadD]
    refine wp_while (fun m ρ => ∃ (cs : List Cel) (ini : List Nat) (x : Nat) (z7 z8 : Sl), ρ = [.own cs, .dat (webD W), .dat (.list (f.map PyData.int)), .dat (.list (lit.map natD)), .dat (.list (bg.map natD)), .own (dats ((ini ++ [x]).map natD)), .own (dats ((begs W (ini ++ [x])).map endD)), z7, z8, .un, .un] ∧ Chn W (ini ++ [x]) (rd W x).e ∧ (∀ k ∈ ini ++ [x], k ∈ lit) ∧ m = 20 - ini.length ∧ DkA (b + 2 + ini.length) cs) (k := 20) (@fuel_lt kk0 _ (by omega)) ⟨cs1, [], k, _, _, rfl, ⟨by simp, fun j hj => ?_, by simp [begs], by simp [begs, ends]⟩, fun j hj => ?_, rfl, d1⟩ ?_
    · have : j = k := by simpa using hj
      rw [this]; exact kl.1
    · have : j = k := by simpa using hj
      rw [this]; exact bgm k hk
    rintro m ρ ⟨cs, ini, x, z7, z8, rfl, ch, inl, hm, d⟩
    have xl := litm x (inl x (by simp))
    have len := ch.len hw
    have len' : ini.length ≤ 8 := by simp at len; omega
    have bl : (begs W (ini ++ [x])).length = ini.length + 1 := by unfold begs; simp
    obtain ⟨os, hos⟩ : ∃ os, os = begs W (ini ++ [x]) := ⟨_, rfl⟩
    have la := at_last (g := natD) (l := ini) (x := x)
    rw [← hos] at bl
    have ch' := ch
    rw [← hos]
    have eo : os.map endD ++ [PyData.none] = (os ++ [none]).map endD := by rw [List.map_append]; rfl
    obtain ⟨row, hrow⟩ : ∃ r, r = ini ++ [x] := ⟨_, rfl⟩
    have rl : row.length = ini.length + 1 := by rw [hrow]; simp
    rw [← hrow] at la ch inl hos ⊢
    simp -implicitDefEqProofs [la, atI_road xl.1, roadD]
    refine ⟨by omega, ?_⟩
    rw [eo]
    simp -implicitDefEqProofs [notin_endL, -List.contains_eq_mem, -List.map_append]
    have hd : 0 < row.length := by omega
    have a0 : atI (row.map natD) 0 = some (natD row[0]) := atI_map (k := 0) hd
    have h0l := litm row[0] (inl _ (List.getElem_mem hd))
    have os0 : os[0]? = some (rd W row[0]).b := by rw [hos]; unfold begs; rw [List.getElem?_map, List.getElem?_eq_getElem hd]; rfl
    have fin : ∀ j, j < row.length → os[j]? = some (rd W x).e → Q (dats ((row.drop j).map natD), cs) := fun j hj ej => by
      refine hq (row.drop j) cs (fun _ => ⟨ch.row hj (by rw [← hos]; exact ej), fun k hk => (litm k (inl k (List.mem_of_mem_drop hk))).2⟩) (d.mono (by omega))
    refine ⟨fun hE => ?_, fun hN hS => ?_⟩
    · simp -implicitDefEqProofs [la, atI_road xl.1, roadD]
      cases he : (rd W x).e with
      | none =>
        simp -implicitDefEqProofs [endD, a0, atI_road h0l.1, roadD]
        cases hb0 : (rd W row[0]).b with
        | some y =>
          simp -implicitDefEqProofs [endD]
          exact none0 cs (d.mono (by omega))
        | none =>
          have mem : none ∈ os := List.mem_of_getElem? (by rw [os0, hb0])
          have ix := idx_endL mem
          have ix : idxP (.list (os.map endD)) .none = some (natD (os.idxOf none)) := ix
          simp -implicitDefEqProofs [endD, ix, atI]
          have cn := cut_nat (ds := row.map natD) (k := 0)
          have cn : Uv.cutD (row.map natD) (some 0) none = row.map natD := cn
          rw [cn]
          have := fin 0 hd (by rw [os0, hb0, he])
          simpa using this
      | some y =>
        rw [he] at hE
        have mem : some y ∈ os := by
          rw [← List.contains_iff_mem]
          cases hc : os.contains (some y) with
          | true => rfl
          | false => exact nomatch hE hc
        have ix := idx_endL mem
        have ix : idxP (.list (os.map endD)) (natD y) = some (natD (os.idxOf (some y))) := ix
        simp -implicitDefEqProofs [endD, ix, atI]
        rw [cut_nat, ← List.map_drop]
        have lt := List.idxOf_lt_length_iff.mpr mem
        exact fin _ (by omega) (by rw [List.getElem?_eq_getElem lt, List.getElem_idxOf lt, he])
    · obtain ⟨y, he⟩ := Option.isSome_iff_exists.mp hS
      rw [he] at hN
      unfold X__law_round_b_b1
      simp -implicitDefEqProofs [la, atI_road xl.1, roadD, he, endD]
      refine ⟨by omega, by omega, wp_lc (fun k => (rd W k).b == some y) natD (fun k hk => ?_) ?_⟩
      · simp -implicitDefEqProofs [atI_road (litm k hk).1, roadD, eq_end]
      obtain ⟨fu, hfu⟩ : ∃ l, l = lit.filter fun k => (rd W k).b == some y := ⟨_, rfl⟩
      have ful : fu.length ≤ 20 := by rw [hfu]; exact Nat.le_trans (List.length_filter_le ..) litl
      have fum : ∀ k ∈ fu, k ∈ lit ∧ (rd W k).b = some y := fun k hk => by
        rw [hfu] at hk
        obtain ⟨h1, h2⟩ := List.mem_filter.mp hk
        exact ⟨h1, by simpa using h2⟩
      rw [← hfu]
      simp -implicitDefEqProofs [eq_nilN]
      refine wp_alt (fun c => ?_) (fun c => ?_)
      · simp -implicitDefEqProofs
        exact none0 cs (d.mono (by omega))
      · simp -implicitDefEqProofs
        refine a_one d (by omega) (by rintro rfl; exact nomatch c) (by omega) fun w hw' cs2 d2 => ?_
        obtain ⟨w1, w2⟩ := fum w hw'
        simp -implicitDefEqProofs
        have e1 : row.map natD ++ [natD w] = (row ++ [w]).map natD := by rw [List.map_append]; rfl
        have e2 : os.map endD ++ [natD y] = (begs W (row ++ [w])).map endD := by
          have : begs W (row ++ [w]) = os ++ [some y] := by unfold begs; rw [List.map_append, hos, List.map_cons, w2]; rfl
          rw [this, List.map_append]
          rfl
        rw [e1, e2]
        refine ⟨by omega, m - 1, by omega, cs2, row, w, _, _, rfl, ?_, ?_, ?_, ?_⟩
        · refine ch.snoc (litm w w1).1 (by rw [w2, he]) ?_
          rw [he, ← hos]
          intro z
          rw [← List.contains_iff_mem, hN] at z
          exact nomatch z
        · intro j hj
          rcases List.mem_append.mp hj with z | z
          · exact inl j z
          · rw [List.mem_singleton.mp z]; exact w1
        · omega
        · exact d2.mono (by omega)
  simp -implicitDefEqProofs
  refine ⟨in62_nat (by omega), by omega, wp_lc (fun k => openB W f k) natD (fun k hk => ?_) ?_⟩
  · have hk := List.mem_range.mp hk
    simp -implicitDefEqProofs [atI_bears (show k < f.length by omega), atI_road hk, roadD]
    rfl
  have e0 : (fun k => openB W f k) = openB W f := rfl
  rw [e0, ← hlit]
  simp -implicitDefEqProofs
  refine ⟨by omega, wp_lc (fun k => (rd W k).b == none) natD (fun k hk => ?_) ?_⟩
  · have hk := (litm k hk).1
    cases hbk : (rd W k).b with
    | none => simp -implicitDefEqProofs [atI_road hk, roadD, hbk, endD]
    | some x => simp -implicitDefEqProofs [atI_road hk, roadD, hbk, endD]
  obtain ⟨bg, hbg⟩ : ∃ l, l = lit.filter fun k => (rd W k).b == none := ⟨_, rfl⟩
  have bgl : bg.length ≤ 20 := by rw [hbg]; exact Nat.le_trans (List.length_filter_le ..) litl
  have bgm : ∀ k ∈ bg, k ∈ lit := fun k hk => by rw [hbg] at hk; exact (List.mem_filter.mp hk).1
  rw [← hbg]
  simp -implicitDefEqProofs [eq_nilN]
  refine wp_alt (fun c => ?_) (fun c => ?_)
  · simp -implicitDefEqProofs
    exact hR lit cs litl (fun k hk => hk) (h.mono (by omega))
  · simp -implicitDefEqProofs
    refine a_next h (by omega) (by omega) (by omega) fun r cs1 hr d1 => ?_
    simp -implicitDefEqProofs
    refine wp_alt (fun c => ?_) (fun c => ?_)
    · simp -implicitDefEqProofs
      exact hR lit cs1 litl (fun k hk => hk) d1
    · simp -implicitDefEqProofs
      exact hR bg cs1 bgl bgm d1
structure Stm (W : Web) (f : List Int) : Prop where
  be : Bears W f
  hi : ∀ k, at0 f k ≤ (rd W k).r
  ev : ∀ h, h < W.gives.length → Calm.sm (giv W h) (at0 f) = Calm.sm (tak W h) (at0 f)
def addR (W : Web) (f : List Int) (R : List Nat) (c : Int) : List Int := (List.range W.roads.length).map fun k => at0 f k + ind R c k
theorem at0_add {c : Int} (hf : f.length = W.roads.length) (hr : ∀ k ∈ R, k < W.roads.length) (k : Nat) : at0 (addR W f R c) k = at0 f k + ind R c k := by
  by_cases h : k < W.roads.length
  · exact at0_range h
  · have e1 : at0 f k = 0 := by simp [at0, hf, h]
    have e2 : ind R c k = 0 := if_neg fun z => h (hr k z)
    rw [e1, e2]
    simp [at0, addR, h]
theorem Stm.add {c : Int} (hw : IsWeb W) (hf : Stm W f) (hr : RowOk W R) (c0 : ∀ k ∈ R, 0 ≤ at0 f k + c ∧ at0 f k + c ≤ (rd W k).r) : Stm W (addR W f R c) := by
  have e := at0_add (c := c) hf.be.len hr.lt
  have sum : ∀ l : List Nat, Calm.sm l (at0 (addR W f R c)) = Calm.sm l (at0 f) + Calm.sm l (ind R c) := fun l => by
    rw [← Calm.sm_add]
    exact Calm.sm_same fun k _ => e k
  have pt : ∀ k, 0 ≤ at0 (addR W f R c) k ∧ at0 (addR W f R c) k ≤ (rd W k).r := fun k => by
    rw [e k]
    unfold ind
    by_cases h : k ∈ R
    · rw [if_pos h]; exact c0 k h
    · rw [if_neg h]
      have h1 := hf.be.at k
      have h2 := hf.hi k
      omega
  refine ⟨⟨by simp [addR], fun x hx => ?_⟩, fun k => (pt k).2, fun h hh => ?_⟩
  · obtain ⟨i, hi, rfl⟩ := List.mem_iff_getElem.mp hx
    rw [← at0_eq hi]
    exact (pt i).1
  · rw [sum, sum, hf.ev h hh, row_even hw hr hh]
end
end Fn

namespace Fn
open PySem PySem.Spec PyProof.Rows L2 Uv
section
variable {W : Web} {R : List Nat} {f : List Int}
theorem unI_ints : ∀ l : List Int, Uv.unI (l.map PyData.int) = some l
  | [] => rfl
  | x :: l => by
    show (Uv.unI (l.map PyData.int)).map _ = _
    rw [unI_ints l]
    rfl
theorem q_least {α : Type} {g : α → Int} {l : List α} (h : l ≠ []) : ∃ m, (Uv.unI (l.map fun x => PyData.int (g x))).bind minL = some (.int m) ∧ (∀ x ∈ l, m ≤ g x) ∧ ∃ x ∈ l, g x = m := by
  have e : l.map (fun x => PyData.int (g x)) = (l.map g).map PyData.int := by rw [List.map_map]; rfl
  rw [e, unI_ints]
  cases l with
  | nil => exact absurd rfl h
  | cons x xs =>
    refine ⟨leastI (g x) (xs.map g), rfl, fun y hy => @leastI_le kk0 _ _ _ (by rw [← List.map_cons]; exact List.mem_map_of_mem hy), ?_⟩
    have := @leastI_mem kk0 (xs.map g) (g x)
    rw [← List.map_cons] at this
    obtain ⟨y, hy, e⟩ := List.mem_map.mp this
    exact ⟨y, hy, e⟩
theorem nul_stm (hw : IsWeb W) : Stm W ((List.range W.roads.length).map fun _ => (0 : Int)) := by
  have z : ∀ k, at0 ((List.range W.roads.length).map fun _ => (0 : Int)) k = 0 := fun k => by
    by_cases h : k < W.roads.length
    · exact at0_range (f := fun _ => (0 : Int)) h
    · simp [at0, h]
  refine ⟨⟨by simp, fun x hx => ?_⟩, fun k => ?_, fun h _ => ?_⟩
  · obtain ⟨_, _, rfl⟩ := List.mem_map.mp hx
    exact Int.le_refl _
  · rw [z]
    by_cases h : k < W.roads.length
    · exact (hw.rd h).2.2.2.1
    · simp [rd, h]
  · rw [Calm.sm_nul fun k _ => z k, Calm.sm_nul fun k _ => z k]
def berD (W : Web) (g : Nat → Int) : List PD := (List.range W.roads.length).map fun k => .int (g k)
theorem berD_eq (hf : f.length = W.roads.length) : f.map PyData.int = berD W (at0 f) := ints_range hf
theorem ind_snoc {c : Int} {i : Nat} (hi : i < R.length) (nd : R.Nodup) (k : Nat) : ind (R.take (i + 1)) c k = if k = R[i] then c else ind (R.take i) c k := by
  have tk : R.take (i + 1) = R.take i ++ [R[i]] := by rw [List.take_succ, List.getElem?_eq_getElem hi]; rfl
  unfold ind
  rw [tk]
  by_cases h : k = R[i]
  · rw [if_pos h, if_pos (by rw [h]; exact List.mem_append_right _ (List.mem_singleton.mpr rfl))]
  · rw [if_neg h]
    by_cases h2 : k ∈ R.take i
    · rw [if_pos h2, if_pos (List.mem_append_left _ h2)]
    · rw [if_neg h2, if_neg]
      intro z
      rcases List.mem_append.mp z with z | z
      · exact h2 z
      · exact h (List.mem_singleton.mp z)
theorem ind_fresh {c : Int} {i : Nat} (hi : i < R.length) (nd : R.Nodup) : ind (R.take i) c R[i] = 0 := by
  refine if_neg fun z => ?_
  obtain ⟨j, hj, e⟩ := List.mem_iff_getElem.mp z
  rw [List.getElem_take] at e
  have hj' : j < i := by simp at hj; omega
  have := (List.nodup_iff_pairwise_ne.mp nd)
  exact absurd e (List.pairwise_iff_getElem.mp this j i (by omega) hi hj')
theorem range_setA {f g : Nat → Int} {n r : Nat} {v : Int} (h1 : g r = v) (h2 : ∀ k, k ≠ r → g k = f k) : ((List.range n).map fun k => PyData.int (f k)).set r (.int v) = (List.range n).map fun k => .int (g k) := by
  apply List.ext_getElem
  · simp
  · intro i a b
    rw [List.getElem_set]
    by_cases c : r = i
    · subst c
      rw [if_pos rfl]
      simp [h1]
    · rw [if_neg c]
      simp [h2 i fun z => c z.symm]
end
end Fn

namespace Fn
open PySem PySem.Spec PyProof.Rows L2 Uv
section
variable {W : Web} {R : List Nat} {f : List Int}
structure Bun (W : Web) (R : List Nat) : Prop where
  ok : RowOk W R
  ne : R ≠ []
  inn : cnt none 1 (begs W R) = if (rd W (R.headD 0)).b = none then 1 else 0
theorem cnt_none0 : ∀ {l : List (Option Nat)}, none ∉ l → cnt none 1 l = 0
  | [], _ => rfl
  | x :: l, h => by
    have h1 : x ≠ none := fun z => h (by rw [z]; exact List.mem_cons_self ..)
    have h2 := cnt_none0 (l := l) fun z => h (List.mem_cons_of_mem _ z)
    unfold cnt at h2 ⊢
    rw [List.map_cons, List.sum_cons, h2, if_neg h1]
    rfl
theorem Bun.of (ok : RowOk W R) (ne : R ≠ []) (h : none ∉ begs W R) : Bun W R := by
  refine ⟨ok, ne, ?_⟩
  rw [cnt_none0 h, if_neg]
  intro z
  obtain ⟨x, xs, rfl⟩ := List.exists_cons_of_ne_nil ne
  exact h (by rw [← z]; exact List.mem_cons_self ..)
end
end Fn

namespace Fn
open PySem PySem.Spec PyProof.Rows L2 Uv
section
variable {W : Web} {R : List Nat} {f g : List Int}
def tot (rows : List (List Nat × Int)) (k : Nat) : Int := (rows.map fun p => ind p.1 p.2 k).sum
end
end Fn

namespace Fn
open PySem PySem.Spec PyProof.Rows L2 Uv
section
variable {W : Web} {R : List Nat} {f g : List Int}
structure WayR (W : Web) (R : List Nat) : Prop where
  ne : R ≠ []
  lt : ∀ k ∈ R, k < W.roads.length
  nd : (begs W R).Nodup
  tn : none ∉ (begs W R).tail
  ch : ends W R = (begs W R).tail ++ [(rd W (R.headD 0)).b]
  mn : (rd W (R.headD 0)).b ≠ none → ∀ k ∈ R, R.headD 0 ≤ k
theorem WayR.nodup (h : WayR W R) : R.Nodup := nodup_of_begs h.nd
theorem WayR.len (h : WayR W R) : R.length ≤ W.roads.length := by
  have p : R.Perm ((List.range W.roads.length).filter fun k => R.contains k) := (List.perm_ext_iff_of_nodup h.nodup (List.nodup_range.filter _)).mpr fun k => by
    rw [List.mem_filter, List.contains_iff_mem, List.mem_range]
    exact ⟨fun z => ⟨h.lt k z, z⟩, fun z => z.2⟩
  have := List.length_filter_le (fun k => R.contains k) (List.range W.roads.length)
  rw [p.length_eq]
  simp at this ⊢
  omega
end
end Fn

namespace Fn
open PySem PySem.Spec PyProof.Rows L2 Uv
section
variable {W : Web} {R : List Nat} {f : List Int}
end
end Fn

namespace Fn
open PySem PySem.Spec PyProof.Rows L2 Uv
section
variable {W : Web} {R : List Nat} {f g : List Int}
structure Bdl (W : Web) (f : List Int) (rows : List (List Nat × Int)) : Prop where
  len : rows.length ≤ W.roads.length
  row : ∀ p ∈ rows, WayR W p.1 ∧ 1 ≤ p.2
  nd : (rows.map (·.1)).Nodup
  tot : ∀ k, Fn.tot rows k = at0 f k
end
end Fn

namespace Fn
open PySem PySem.Spec PyProof.Rows L2 Uv
section
variable {W : Web} {R : List Nat} {f g : List Int}
end
end Fn

namespace Fn
open PySem PySem.Spec PyProof.Rows L2 Uv
section
variable {W : Web} {f : List Int}
theorem p_formA (hf : Bears W f) (hw : IsWeb W) : F_is_form [intsD f, natD W.roads.length] = some (.bool true) := by
  have hc := hw.count
  have e1 : F_is_tuple_of [intsD f, natD W.roads.length, natD W.roads.length] = some (.bool true) := by
    show F_is_tuple_of [.tuple (f.map PyData.int), .int _, .int _] = _
    rw [p_is_tuple_of, List.length_map, hf.len]
    simp
  refine eq_of_wp ?_
  unfold F_is_form
  refine wp_runP rfl ?_
  unfold X_is_form
  simp -implicitDefEqProofs [e1]
  have := hf.len
  refine ⟨by omega, wp_lcT (fun i => .bool (decide (0 ≤ i))) (fun i hi => ?_) ?_⟩
  · simp -implicitDefEqProofs
  simp -implicitDefEqProofs [q_all]
  exact hf.nn
variable {qs : List (List Nat × Int)}
theorem tot_nn (h : ∀ p ∈ qs, 0 ≤ p.2) (k : Nat) : 0 ≤ tot qs k := by
  induction qs with
  | nil => exact Int.le_refl _
  | cons p qs ih =>
    have h1 := h p (List.mem_cons_self ..)
    have h2 := ih fun q hq => h q (List.mem_cons_of_mem _ hq)
    unfold tot at h2 ⊢
    rw [List.map_cons, List.sum_cons]
    have : 0 ≤ ind p.1 p.2 k := by unfold ind; split <;> omega
    omega
theorem tot_mem (h : ∀ p ∈ qs, 0 ≤ p.2) {p : List Nat × Int} (hp : p ∈ qs) (k : Nat) : ind p.1 p.2 k ≤ tot qs k := by
  induction qs with
  | nil => exact nomatch hp
  | cons q qs ih =>
    have h1 := h q (List.mem_cons_self ..)
    have h3 := tot_nn (fun r hr => h r (List.mem_cons_of_mem _ hr)) k
    have hn : 0 ≤ ind q.1 q.2 k := by unfold ind; split <;> omega
    have e : tot (q :: qs) k = ind q.1 q.2 k + tot qs k := by unfold tot; rw [List.map_cons, List.sum_cons]
    rw [e]
    rcases List.mem_cons.mp hp with z | z
    · rw [z]; omega
    · have := ih (fun r hr => h r (List.mem_cons_of_mem _ hr)) z
      omega
end
end Fn

namespace Fn
open PySem PySem.Spec PyProof.Rows L2 Uv
section
variable {W : Web} {R : List Nat} {f g : List Int}
theorem a_streamN {b s : Nat} {cs : List Cel} {Q : PD × List Cel → Prop} (h : DkA b cs) (hb : b + 2000 ≤ 2 ^ 40) (hw : IsWeb W) (hs : s ≤ 30) (hq : ∀ f cs', Stm W f → DkA (b + 1000) cs' → Q (intsD f, cs')) : wp (F__law_stream_f cs [webD W, natD s]) (tag Q) := by
  have hc := hw.count
  unfold F__law_stream_f
  refine wp_runW rfl ?_
  unfold X__law_stream_f
  simp -implicitDefEqProofs
  refine ⟨⟨by omega, by omega⟩, in62_nat (by omega), ?_⟩
  refine wp_forR (fun i ρ => ∃ (cs : List Cel) (f : List Int) (z4 z5 z6 z7 z8 : Sl), ∃ ds : List PD, ρ = [.own cs, .dat (webD W), .dat (natD s), .own (dats ds), z4, z5, z6, z7, z8] ∧ ds = f.map PyData.int ∧ Stm W f ∧ DkA (b + 30 * i) cs) ⟨cs, (List.range W.roads.length).map fun _ => (0 : Int), _, _, _, _, _, _, rfl, ?_, nul_stm hw, h⟩ ?_ ?_
  · have e : ((List.range W.roads.length).map fun _ => (0 : Int)).map PyData.int = List.replicate W.roads.length (.int 0) := by
      rw [List.map_map]
      apply List.ext_getElem
      · simp
      · intro i h1 h2
        simp
    rw [e]
  · rintro i hi ρ ⟨cs, f, z4, z5, z6, z7, z8, _, rfl, rfl, hf, d⟩
    have lf := hf.be.len
    unfold X__law_stream_f_b2
    simp -implicitDefEqProofs
    refine a_round d (by omega) hw lf fun R cs1 dr d1 => ?_
    have fr : flatC (dats (R.map natD)) = true := flatC_dats (flats_mapA (fun _ => q_flat_i) R)
    simp -implicitDefEqProofs [fr, d1.flat, ne_nilN]
    refine wp_alt (fun c => ?_) (fun c => ?_)
    · have rn : R ≠ [] := by
        rintro rfl
        exact nomatch c
      obtain ⟨ro, rm⟩ := dr rn
      obtain ⟨m, em, ml, ⟨x0, hx0, ex0⟩⟩ := q_least (g := fun k => (rd W k).r - at0 f k) rn
      have m1 : 1 ≤ m := by have := rm x0 hx0; omega
      have mx : m ≤ 1000000000000 := by
        have h1 := (hw.rd (ro.lt x0 hx0)).2.2.2.2
        have h2 := hf.be.at x0
        omega
      have rl : R.length ≤ 20 := by
        have p : R.Perm ((List.range W.roads.length).filter fun k => R.contains k) := (List.perm_ext_iff_of_nodup ro.nd (List.nodup_range.filter _)).mpr fun k => by
          rw [List.mem_filter, List.contains_iff_mem, List.mem_range]
          exact ⟨fun z => ⟨ro.lt k z, z⟩, fun z => z.2⟩
        have := List.length_filter_le (fun k => R.contains k) (List.range W.roads.length)
        rw [p.length_eq]
        simp at this ⊢
        omega
      simp -implicitDefEqProofs
      refine ⟨by omega, wp_lcT (fun k => .int ((rd W k).r - at0 f k)) (fun k hk => ?_) ?_⟩
      · have hk := ro.lt k hk
        simp -implicitDefEqProofs [atI_road hk, roadD, atI_bears (show k < f.length by omega)]
      simp -implicitDefEqProofs [em]
      refine a_next d1 (by omega) (by omega) (by omega) fun r cs2 hr d2 => ?_
      simp -implicitDefEqProofs
      have el : [PyData.int 1, .int m, .int (1 + (r : Int))] = ([1, m, 1 + (r : Int)] : List Int).map PyData.int := rfl
      rw [el]
      refine a_pick d2 (by omega) (by simp) (by simp) fun c hc' cs3 d3 => ?_
      have cb : 1 ≤ c ∧ c ≤ m := by simp at hc'; omega
      simp -implicitDefEqProofs
      have st := hf.add (c := c) hw ro fun k hk => by
        have := ml k hk
        have := hf.be.at k
        omega
      refine wp_forM (fun j ρ => ∃ (ds : List PD) (z8 : Sl), ρ = [.own cs3, .dat (webD W), .dat (natD s), .own (dats ds), .dat (natD i), .dat (.list (R.map natD)), .dat (.int m), .dat (.int c), z8] ∧ ds = berD W fun k => at0 f k + ind (R.take j) c k) ⟨_, _, rfl, ?_⟩ ?_ ?_
      · rw [berD_eq lf]
        unfold berD
        refine List.map_congr_left fun k _ => ?_
        simp [ind]
      · rintro j hj ρ ⟨ds, z8, rfl, eds⟩
        obtain ⟨x, ex⟩ : ∃ x, x = R[j] := ⟨_, rfl⟩
        have xn : x < W.roads.length := by rw [ex]; exact ro.lt _ (List.getElem_mem hj)
        have ld : x < ds.length := by rw [eds]; unfold berD; simpa using xn
        have ax : atI ds (x : Int) = some (.int (at0 f x)) := by
          have e0 : ind (R.take j) c x = 0 := by rw [ex]; exact ind_fresh hj ro.nd
          rw [eds]
          unfold berD
          rw [atI_map (by simpa using xn)]
          simp [e0]
        rw [← ex]
        unfold X__law_stream_f_b1
        simp -implicitDefEqProofs [ax]
        rw [ixN_nat' ld]
        simp -implicitDefEqProofs
        rw [datAt_at ld]
        simp -implicitDefEqProofs
        refine ⟨_, _, rfl, ?_⟩
        rw [eds]
        refine range_setA ?_ fun k hk => ?_
        · rw [ind_snoc hj ro.nd, if_pos ex]
        · rw [ind_snoc hj ro.nd, if_neg (by rw [← ex]; exact hk)]
      · rintro ρ ⟨ds, z8, rfl, eds⟩
        rw [List.take_length] at eds
        simp -implicitDefEqProofs
        refine ⟨cs3, addR W f R c, _, _, _, _, _, _, rfl, ?_, st, d3.mono (by omega)⟩
        rw [eds]
        unfold berD addR
        rw [List.map_map]
        rfl
    · simp -implicitDefEqProofs
      exact ⟨cs1, f, _, _, _, _, _, _, rfl, rfl, hf, d1.mono (by omega)⟩
  · rintro ρ ⟨cs, f, z4, z5, z6, z7, z8, _, rfl, rfl, hf, d⟩
    simp -implicitDefEqProofs
    exact hq f cs hf (d.mono (by omega))
theorem Bdl.most (hw : IsWeb W) (hf : Stm W f) {rows : List (List Nat × Int)} (B : Bdl W f rows) {p : List Nat × Int} (hp : p ∈ rows) : ∃ k, k < W.roads.length ∧ p.2 ≤ at0 f k := by
  obtain ⟨wR, m1⟩ := B.row p hp
  obtain ⟨x, xs, ex⟩ := List.exists_cons_of_ne_nil wR.ne
  have xR : x ∈ p.1 := by rw [ex]; exact List.mem_cons_self ..
  refine ⟨x, wR.lt x xR, ?_⟩
  have h1 := tot_mem (fun q hq => by have := (B.row q hq).2; omega) hp x
  rw [B.tot x] at h1
  unfold ind at h1
  rw [if_pos xR] at h1
  exact h1
theorem Bdl.none (hw : IsWeb W) (hf : Stm W f) {rows : List (List Nat × Int)} (B : Bdl W f rows) (z : ∀ k, at0 f k = 0) : rows = [] := by
  cases rows with
  | nil => rfl
  | cons p rows =>
    obtain ⟨k, _, h⟩ := B.most hw hf (List.mem_cons_self ..)
    have := (B.row p (List.mem_cons_self ..)).2
    rw [z k] at h
    omega
end
end Fn

namespace Uv
variable {ρ : Env}
@[simp] theorem q_wOMv0 {cs : List Cel} {r : Env} : wOMv 0 (.own cs :: r) = some (cs, .un :: r) := (rfl)
@[simp] theorem q_wOMv1 {cs : List Cel} {s : Sl} {r : Env} : wOMv 1 (s :: .own cs :: r) = some (cs, s :: .un :: r) := (rfl)
end Uv
namespace Fn
open PySem PySem.Spec PyProof.Rows L2 Uv
def DkB (b : Nat) (cs : List Cel) : Prop := ∃ (gs : List Int) (n w : Int), cs = [.dat (.int n), .dat (.int w), .sub (gs.map PyData.int)] ∧ gs.length ≤ 5000 ∧ 0 ≤ n ∧ n ≤ b
theorem DkB.mono {b c : Nat} {cs : List Cel} (h : DkB b cs) (hb : b ≤ c) : DkB c cs := by
  obtain ⟨gs, n, w, e, h1, h2, h3⟩ := h
  exact ⟨gs, n, w, e, h1, h2, by omega⟩
theorem DkB.flat {b : Nat} {cs : List Cel} (h : DkB b cs) : flatC cs = true := by
  obtain ⟨gs, n, w, rfl, _⟩ := h
  have : flats (gs.map PyData.int) = true := flats_mapA (fun _ => q_flat_i) gs
  simp [flatC, this]
end Fn

namespace Fn
open PySem PySem.Spec PyProof.Rows L2 Uv
end Fn

namespace Fn
open PySem PySem.Spec PyProof.Rows L2 Uv
section
variable {W : Web} {f : List Int}
end
end Fn

namespace Fn
open PySem PySem.Spec PyProof.Rows L2 Uv
section
variable {W : Web} {f : List Int}
def fstB (W : Web) (f : List Int) (k : Nat) : Bool := match (rd W k).b with
  | none => true
  | some h => lessB f (giv W h) k
def lstB (W : Web) (f : List Int) (k : Nat) : Bool := match (rd W k).e with
  | none => true
  | some h => lessB f (tak W h) k
end
end Fn

namespace Fn
open PySem PySem.Spec PyProof.Rows L2 Uv
section
variable {W : Web} {f : List Int} {lot : List Nat}
structure Least (W : Web) (f : List Int) (L : List Nat) : Prop where
  lot : IsLot W.gives.length L
  calm : calmB W f L = true
  low : ∀ M, calmB W f M = true → ∀ x ∈ L, x ∈ M
structure Great (W : Web) (f : List Int) (L : List Nat) : Prop where
  lot : IsLot W.gives.length L
  calm : calmB W f L = true
  top : ∀ M, IsLot W.gives.length M → calmB W f M = true → ∀ x ∈ M, x ∈ L
end
end Fn

namespace Fn
open PySem PySem.Spec PyProof.Rows L2 Uv
section
variable {W : Web} {f : List Int} {lot : List Nat}
end
end Fn

namespace Fn
open PySem PySem.Spec PyProof.Rows L2 Uv
section
variable {W : Web} {f : List Int}
end
end Fn

namespace Uv
variable {ρ : Env}
@[simp] theorem q_sDComp {i : Nat} {src : XI} {g : XGV} {t : XT} {k e : XE} {vs : List Nat} : sDComp i src g t k e vs ρ = (src (vw ρ)).bind fun xs => grd (xs.length ≤ 40000) ((dcGo g t k e (clear (vw ρ) vs) xs []).bind fun l => grd (i < ρ.length) (some (.nxt (ρ.set i (.dic l))))) := by
  unfold sDComp
  simp only [grd_ite]
end Uv
namespace Fn
open PySem PySem.Spec PyProof.Rows L2 Uv
section
variable {W : Web} {f : List Int}
def Pth (W : Web) (R : List Nat) : Prop := ∀ (i : Nat) (h : i + 1 < R.length), ∃ y, (rd W (R[i]'(by omega))).e = some y ∧ (rd W R[i + 1]).b = some y
structure Wlk0 (W : Web) (f : List Int) (S R : List Nat) : Prop where
  ne : R ≠ []
  mem : ∀ k ∈ R, k ∈ S
  nd : R.Nodup
  path : Pth W R
  fst : ∀ k, R.head? = some k → fstB W f k = true
structure Wlk (W : Web) (f : List Int) (R : List Nat) : Prop where
  ne : R ≠ []
  opn : ∀ k ∈ R, k < W.roads.length ∧ openB W f k = true
  nd : R.Nodup
  path : Pth W R
  fst : ∀ k, R.head? = some k → fstB W f k = true
  lst : ∀ k, R.getLast? = some k → lstB W f k = true
theorem Pth.snoc {ri : List Nat} {x k y : Nat} (h : Pth W (ri ++ [x])) (he : (rd W x).e = some y) (hb : (rd W k).b = some y) : Pth W (ri ++ [x] ++ [k]) := by
  intro i hi
  by_cases c : i + 1 < (ri ++ [x]).length
  · obtain ⟨z, h1, h2⟩ := h i c
    refine ⟨z, ?_, ?_⟩
    · rw [List.getElem_append_left (by omega)]; exact h1
    · rw [List.getElem_append_left c]; exact h2
  · have ei : i = ri.length := by simp at hi c; omega
    subst ei
    exact ⟨y, by simpa using he, by simpa using hb⟩
def Done (W : Web) (f : List Int) (S : List Nat) (k : Nat) : Prop := lstB W f k = false ∧ ∀ y, (rd W k).e = some y → ∀ j ∈ giv W y, openB W f j = true → j ∈ S
theorem Done.mono {S S' : List Nat} (h : ∀ x ∈ S, x ∈ S') {k : Nat} (d : Done W f S k) : Done W f S' k := ⟨d.1, fun y e j hj ho => h j (d.2 y e j hj ho)⟩
end
end Fn

namespace Fn
open PySem PySem.Spec PyProof.Rows L2 Uv
section
variable {W : Web} {f : List Int}
theorem small_of {n : Nat} {l : List Nat} (nd : l.Nodup) (lt : ∀ h ∈ l, h < n) : l.length ≤ n := by
  have := List.Nodup.length_le_of_subset nd (l₂ := List.range n) fun x hx => List.mem_range.mpr (lt x hx)
  simpa using this
structure Seek (W : Web) (f : List Int) (S : List Nat) (ws : List (List Nat)) : Prop where
  nd : S.Nodup
  opn : ∀ k ∈ S, k < W.roads.length ∧ openB W f k = true
  fst : ∀ k, k < W.roads.length → openB W f k = true → fstB W f k = true → k ∈ S
  wlk : ∀ w ∈ ws, Wlk0 W f S w
end
end Fn

namespace Fn
open PySem PySem.Spec PyProof.Rows L2 Uv
section
variable {W : Web} {f : List Int} {R : List Nat}
theorem Wlk.len (hw : IsWeb W) (h : Wlk W f R) : 1 ≤ R.length ∧ R.length ≤ 20 := by
  have := small_of h.nd fun k hk => (h.opn k hk).1
  have := hw.count
  have := List.length_pos_iff.mpr h.ne
  omega
end
end Fn

namespace Fn
open PySem PySem.Spec PyProof.Rows L2 Uv
section
variable {W : Web} {f : List Int}
end
end Fn

namespace Fn
open PySem PySem.Spec PyProof.Rows L2 Uv
section
variable {W : Web} {f : List Int} {R : List Nat}
end
end Fn

namespace Fn
open PySem PySem.Spec PyProof.Rows L2 Uv
end Fn

namespace Fn
open PySem PySem.Spec PyProof.Rows L2 Uv
section
variable {W : Web} {f : List Int} {R : List Nat}
end
end Fn

namespace Fn
open PySem PySem.Spec PyProof.Rows L2 Uv
section
variable {W : Web} {f : List Int}
end
end Fn

namespace Fn
open PySem PySem.Spec PyProof.Rows L2 Uv
section
variable {W : Web} {f : List Int}
end
end Fn

namespace Fn
open PySem PySem.Spec PyProof.Rows L2 Uv
section
variable {W : Web} {f : List Int}
end
end Fn

namespace Fn
open PySem PySem.Spec PyProof.Rows L2 Uv
section
variable {W : Web} {f : List Int}
structure Wk (W : Web) (f : List Int) (l : List (Int × PD)) (w : List Nat) : Prop where
  ne : w ≠ []
  path : Pth W w
  fst : ∀ k, w.head? = some k → fstB W f k = true
  mid : ∀ k ∈ w.dropLast, lstB W f k = false ∧ ∃ h : Nat, (rd W k).e = some h ∧ hasD l (h : Int) = true
  nd : (w.dropLast.map fun k => (rd W k).e).Nodup
theorem Wk.one {l : List (Int × PD)} {k : Nat} (h : fstB W f k = true) : Wk W f l [k] :=
  ⟨by simp, fun i hi => by simp at hi, fun j hj => by simp at hj; subst hj; exact h, fun j hj => by simp at hj, by simp⟩
theorem Wk.done {l : List (Int × PD)} {wi : List Nat} {x : Nat} (h : Wk W f l (wi ++ [x])) (hx : lstB W f x = true) (ho : ∀ k ∈ wi ++ [x], k < W.roads.length ∧ openB W f k = true) : Wlk W f (wi ++ [x]) := by
  have hm := h.mid
  have hd := h.nd
  rw [List.dropLast_concat] at hm hd
  refine ⟨h.ne, ho, ?_, h.path, h.fst, fun k hk => ?_⟩
  · refine List.nodup_append.mpr ⟨List.Pairwise.of_map (fun k => (rd W k).e) (fun a b hab e => hab (by rw [e])) hd, by simp, ?_⟩
    intro a ha b hb e
    rw [List.mem_singleton.mp hb] at e
    subst e
    have := (hm a ha).1
    rw [hx] at this; exact nomatch this
  · simp at hk
    subst hk
    exact hx
end
end Fn

namespace Fn
open PySem PySem.Spec PyProof.Rows L2 Uv
theorem wp_lcT0 {v : VE} {g : XGV} {e : XE} (f : PD → PD) {l : List PD} {Q : List PD → Prop} (h : ∀ x ∈ l, wp (g x v) (tag fun v1 => wp (e v1) (tag fun d => d = f x))) (hq : Q (l.map f)) : wp (lcGo g xYes e v l) (tag Q) := by
  have e' : lcGo g xYes e v l = lcGo g xYes e v (l.map id) := by rw [List.map_id]
  rw [e']
  exact wp_lcT (enc := id) f h hq
theorem scrFs_mem : ∀ {ds : List PD}, scrFs ds = true → ∀ x ∈ ds, scrF x = true
  | [], _, x, hx => nomatch hx
  | d :: ds, h, x, hx => by
    simp only [scrFs, Bool.and_eq_true] at h
    rcases List.mem_cons.mp hx with e | e
    · rw [e]; exact h.1
    · exact scrFs_mem h.2 x e
theorem full_scr {d : PD} (h : scrF d = true) : full d = false := by
  cases d with
  | dict kvs =>
    cases kvs with
    | nil => rfl
    | cons p r =>
      obtain ⟨k, v⟩ := p
      cases k with
      | none => simp [scrF, scrFk] at h
      | _ => rfl
  | _ => rfl
structure Thg (d : PD) : Prop where
  sho : Sho 20 100000 d
  len : ∀ ds, d = .tuple ds → ds.length ≤ 30
theorem Thg.full {d : PD} (h : Thg d) : full d = false := full_scr h.sho.nd
theorem Thg.mem {ds : List PD} (h : Thg (.tuple ds)) : ∀ x ∈ ds, Uv.full x = false := fun x hx => full_scr (scrFs_mem (by have := h.sho.nd; simpa [scrF] using this) x hx)
def isI0 : PD → Bool
  | .int _ => true
  | _ => false
theorem p_num {x : PD} (hx : full x = false) : F_is_number [x] = some (.bool (isI0 x)) := by
  refine eq_of_wp ?_
  unfold F_is_number
  refine wp_runP rfl ?_
  unfold X_is_number
  cases x <;> simp -implicitDefEqProofs [hx, isTy, isI0]
theorem p_tupOf {d : PD} (hd : full d = false) {l m : Int} : F_is_tuple_of [d, .int l, .int m] = some (.bool (match d with | .tuple ds => decide (l ≤ (ds.length : Int)) && decide ((ds.length : Int) ≤ m) | _ => false)) := by
  refine eq_of_wp ?_
  unfold F_is_tuple_of
  refine wp_runP rfl ?_
  unfold X_is_tuple_of
  cases d with
  | tuple ds =>
    simp -implicitDefEqProofs [isTy]
  | _ => simp -implicitDefEqProofs [hd, isTy]
section
variable {W : Web} {f : List Int}
structure Row (W : Web) (f : List Int) (R : List Nat) : Prop where
  opn : ∀ k ∈ R, k < W.roads.length ∧ openB W f k = true
  nd : R.Nodup
  path : Pth W R
end
end Fn

namespace Fn
open PySem PySem.Spec PyProof.Rows L2 Uv
def lfB (d : PD) : Bool := d.showable && scrF d && decide (d.depth ≤ 1) && decide (d.shown.length ≤ 60) && PyData.strOk d.shown && (match d with | .tuple _ => false | _ => true)
structure Lf (d : PD) : Prop where
  sho : Sho 1 60 d
  no : ∀ ds, d ≠ .tuple ds
theorem Lf.of {d : PD} (h : lfB d = true) : Lf d := by
  unfold lfB at h
  simp only [Bool.and_eq_true, decide_eq_true_eq] at h
  obtain ⟨⟨⟨⟨⟨h1, h2⟩, h3⟩, h4⟩, h5⟩, h6⟩ := h
  exact ⟨⟨h1, h2, h3, h4, h5⟩, fun ds e => by rw [e] at h6; exact nomatch h6⟩
def Bd (l : Nat) : Nat → PD → Prop
  | 0, d => Lf d
  | h + 1, d => Lf d ∨ ∃ ds, (d = .tuple ds ∨ d = .list ds) ∧ ds.length ≤ l ∧ ∀ x ∈ ds, Bd l h x
def bdB (l : Nat) : Nat → PD → Bool
  | 0, d => lfB d
  | h + 1, d => lfB d || match d with
    | .tuple ds => decide (ds.length ≤ l) && ds.all (bdB l h)
    | .list ds => decide (ds.length ≤ l) && ds.all (bdB l h)
    | _ => false
theorem Bd.of {l : Nat} : ∀ {h : Nat} {d : PD}, bdB l h d = true → Bd l h d
  | 0, d, e => Lf.of e
  | h + 1, d, e => by
    rcases Bool.or_eq_true_iff.mp (show (lfB d || _) = true from e) with q | q
    · exact .inl (Lf.of q)
    · cases d with
      | tuple ds =>
        have q : (decide (ds.length ≤ l) && ds.all (bdB l h)) = true := q
        rw [Bool.and_eq_true, List.all_eq_true] at q
        exact .inr ⟨ds, .inl rfl, of_decide_eq_true q.1, fun x hx => Bd.of (q.2 x hx)⟩
      | list ds =>
        have q : (decide (ds.length ≤ l) && ds.all (bdB l h)) = true := q
        rw [Bool.and_eq_true, List.all_eq_true] at q
        exact .inr ⟨ds, .inr rfl, of_decide_eq_true q.1, fun x hx => Bd.of (q.2 x hx)⟩
      | _ => exact nomatch q
theorem Bd.leaf {l h : Nat} {d : PD} (q : Lf d) : Bd l h d := by
  cases h with
  | zero => exact q
  | succ h => exact .inl q
theorem Bd.mono {l l' : Nat} (hl : l ≤ l') : ∀ {h h' : Nat} {d : PD}, h ≤ h' → Bd l h d → Bd l' h' d
  | 0, h', d, _, q => Bd.leaf q
  | h + 1, 0, d, hh, q => by omega
  | h + 1, h' + 1, d, hh, q => by
    rcases q with q | ⟨ds, e, dl, m⟩
    · exact .inl q
    · exact .inr ⟨ds, e, Nat.le_trans dl hl, fun x hx => Bd.mono hl (by omega) (m x hx)⟩
def bdN (l : Nat) : Nat → Nat
  | 0 => 60
  | h + 1 => l * (bdN l h + 2) + 63
theorem Bd.sho {l : Nat} : ∀ {h : Nat} {d : PD}, Bd l h d → Sho (1 + h) (bdN l h) d
  | 0, d, q => Lf.sho q
  | h + 1, d, q => by
    have eN : bdN l (h + 1) = l * (bdN l h + 2) + 63 := rfl
    rcases q with q | ⟨ds, e, dl, m⟩
    · exact (Lf.sho q).mono (by omega) (by rw [eN]; omega)
    · rcases e with rfl | rfl
      · exact (Sho.tup (fun x hx => (m x hx).sho) dl).mono (by omega) (by rw [eN]; omega)
      · exact (Sho.lst (fun x hx => (m x hx).sho) dl).mono (by omega) (by rw [eN]; omega)
theorem Bd.full {l h : Nat} {d : PD} (q : Bd l h d) : Uv.full d = false := full_scr q.sho.nd
theorem Bd.tup {l h : Nat} {ds : List PD} (q : Bd l (h + 1) (.tuple ds)) : ds.length ≤ l ∧ ∀ x ∈ ds, Bd l h x := by
  rcases q with q | ⟨es, e, dl, m⟩
  · exact absurd rfl (q.no ds)
  · rcases e with e | e
    · cases e; exact ⟨dl, m⟩
    · exact nomatch e
theorem Bd.tup0 {l h : Nat} {ds : List PD} (q : Bd l h (.tuple ds)) : ∃ h', h = h' + 1 := by
  cases h with
  | zero => exact absurd rfl (Lf.no q ds)
  | succ h => exact ⟨h, rfl⟩
theorem Bd.mk {l h : Nat} {ds : List PD} (dl : ds.length ≤ l) (m : ∀ x ∈ ds, Bd l h x) : Bd l (h + 1) (.tuple ds) := .inr ⟨ds, .inl rfl, dl, m⟩
theorem Lf.int {i : Int} (h : i.natAbs < 10 ^ 40) : Lf (.int i) := ⟨(Sho.int (k := 0) h).mono (by decide) (by decide), fun ds e => nomatch e⟩
end Fn

namespace Fn
open PySem PySem.Spec PyProof.Rows L2 Uv
theorem perm_sumI {l m : List Int} (p : l.Perm m) : l.sum = m.sum := by
  induction p with
  | nil => rfl
  | cons x _ ih => simp [ih]
  | swap x y l => simp; omega
  | trans _ _ h1 h2 => exact h1.trans h2
theorem find_first {n i : Nat} {p : Nat → Bool} (hi : i < n) (h : ∀ j, j < i → p j = false) (hp : p i = true) : (List.range n).find? p = some i := by
  rw [List.find?_range_eq_some]
  exact ⟨hp, List.mem_range.mpr hi, fun j hj => by rw [h j hj]; rfl⟩
theorem find_no {n : Nat} {p : Nat → Bool} (h : ∀ j, j < n → p j = false) : (List.range n).find? p = none := by
  rw [List.find?_eq_none]
  intro j hj
  rw [h j (List.mem_range.mp hj)]
  exact Bool.false_ne_true
section
variable {W : Web} {f : List Int}
def overB (W : Web) (f : List Int) (k : Nat) : Bool := decide ((rd W k).r < at0 f k)
def oddB (W : Web) (f : List Int) (h : Nat) : Bool := !((((tak W h).map (at0 f)).sum) == (((giv W h).map (at0 f)).sum))
def faultF (W : Web) (f : List Int) : PD := match (List.range W.roads.length).find? (overB W f) with
  | some k => .tuple [.str "room", natD k]
  | none => match (List.range W.gives.length).find? (oddB W f) with
    | some h => .tuple [.str "house", natD h]
    | none => .none
def isNN : PD → Bool
  | .int i => decide (0 ≤ i)
  | _ => false
def toI : PD → Int
  | .int i => i
  | _ => 0
def asI (m : Nat) : PD → Option (List Int)
  | .tuple ds => if ds.length = m ∧ ds.all isNN = true then some (ds.map toI) else none
  | _ => none
theorem isNN_eq {x : PD} (h : isNN x = true) : x = .int (toI x) ∧ 0 ≤ toI x := by
  cases x with
  | int i => exact ⟨rfl, of_decide_eq_true h⟩
  | _ => exact nomatch h
theorem asI_some {m : Nat} {d : PD} {f : List Int} (h : asI m d = some f) : d = intsD f ∧ f.length = m ∧ ∀ x ∈ f, 0 ≤ x := by
  cases d with
  | tuple ds =>
    have h : (if ds.length = m ∧ ds.all isNN = true then some (ds.map toI) else none) = some f := h
    by_cases c : ds.length = m ∧ ds.all isNN = true
    · rw [if_pos c] at h
      cases h
      have a := List.all_eq_true.mp c.2
      refine ⟨?_, by simpa using c.1, fun x hx => ?_⟩
      · unfold intsD
        congr 1
        rw [List.map_map]
        exact ((List.map_congr_left fun x hx => ((isNN_eq (a x hx)).1).symm).trans (List.map_id ds)).symm
      · obtain ⟨y, hy, rfl⟩ := List.mem_map.mp hx
        exact (isNN_eq (a y hy)).2
    · rw [if_neg c] at h; cases h
  | _ => cases h
def faultD (W : Web) (d : PD) : PD := match asI W.roads.length d with
  | some f => faultF W f
  | none => .tuple [.str "form"]
theorem p_fault (hw : IsWeb W) (hf : Bears W f) : F_streamfault [webD W, intsD f] = some (faultF W f) := by
  have hc := hw.count
  have hh := hw.houses
  have lf := hf.len
  refine eq_of_wp ?_
  unfold F_streamfault
  refine wp_runP rfl ?_
  unfold X_streamfault
  simp -implicitDefEqProofs [p_formA hf hw]
  refine wp_forE (fun k ρ => ∃ (z5 z6 z7 z8 : Sl), ρ = [.dat (webD W), .dat (intsD f), .dat (.tuple (W.roads.map roadD)), .dat (.tuple (W.gives.map natsD)), .dat (.tuple (W.takes.map natsD)), z5, z6, z7, z8] ∧ ∀ j, j < k → overB W f j = false) ⟨_, _, _, _, rfl, by simp⟩ ?_ ?_
  · rintro k hk ρ ⟨z5, z6, z7, z8, rfl, ok⟩
    have hk' : k < W.roads.length := by omega
    have ea := (at0_eq hk).symm
    unfold X_streamfault_b1
    simp -implicitDefEqProofs [atI_road hk', roadD, ea]
    refine wp_alt (fun c => ?_) (fun c => ?_)
    · simp -implicitDefEqProofs
      unfold faultF
      rw [find_first hk' ok c]
    · simp -implicitDefEqProofs
      refine ⟨_, _, _, _, rfl, fun j hj => ?_⟩
      by_cases e : j = k
      · rw [e]; exact c
      · exact ok j (by omega)
  rintro ρ ⟨z5, z6, z7, z8, rfl, ok⟩
  simp -implicitDefEqProofs
  refine wp_forE (fun k ρ => ∃ (z5 z6 z7 z8 : Sl), ρ = [.dat (webD W), .dat (intsD f), .dat (.tuple (W.roads.map roadD)), .dat (.tuple (W.gives.map natsD)), .dat (.tuple (W.takes.map natsD)), z5, z6, z7, z8] ∧ ∀ j, j < k → oddB W f j = false) ⟨_, _, _, _, rfl, by simp⟩ ?_ ?_
  · rintro k hk ρ ⟨z5, z6, z7, z8, rfl, ok2⟩
    have hk' : k < W.takes.length := by rw [hw.same]; exact hk
    have l1 := hw.len_giv hk
    have l2 := hw.len_tak hk
    have b1 := p_borne (f := f) (l := tak W k) (fun j hj => by rw [lf]; exact ((hw.mem_tak hk).mp hj).1) (by omega)
    have b2 := p_borne (f := f) (l := giv W k) (fun j hj => by rw [lf]; exact ((hw.mem_giv hk).mp hj).1) (by omega)
    have eg : W.gives[k] = giv W k := (giv_eq hk).symm
    rw [eg]
    unfold X_streamfault_b2
    simp -implicitDefEqProofs [atI_tak hk', b1, b2]
    refine wp_alt (fun c => ?_) (fun c => ?_)
    · simp -implicitDefEqProofs
      unfold faultF
      rw [find_no fun j hj => ok j (by omega)]
      show _ = (match (List.range W.gives.length).find? (oddB W f) with | some h => PyData.tuple [.str "house", natD h] | none => .none)
      rw [find_first hk ok2 c]
    · simp -implicitDefEqProofs
      refine ⟨_, _, _, _, rfl, fun j hj => ?_⟩
      by_cases e : j = k
      · rw [e]; exact c
      · exact ok2 j (by omega)
  rintro ρ ⟨z5, z6, z7, z8, rfl, ok2⟩
  simp -implicitDefEqProofs
  unfold faultF
  rw [find_no fun j hj => ok j (by omega)]
  show _ = (match (List.range W.gives.length).find? (oddB W f) with | some h => PyData.tuple [.str "house", natD h] | none => .none)
  rw [find_no ok2]
theorem p_whole {x : PD} (hx : full x = false) : F__law_whole [x] = some (.bool (isI0 x)) := by
  refine eq_of_wp ?_
  unfold F__law_whole
  refine wp_runP rfl ?_
  unfold X__law_whole
  cases x <;> simp -implicitDefEqProofs [hx, isTy, isI0]
theorem p_formF {d : PD} {l h : Nat} (t : Bd l h d) (l30 : l ≤ 100) {m : Nat} (no : asI m d = none) : F_is_form [d, natD m] = some (.bool false) := by
  refine eq_of_wp ?_
  unfold F_is_form
  refine wp_runP rfl ?_
  unfold X_is_form
  cases d with
  | tuple ds =>
    obtain ⟨h', rfl⟩ := t.tup0
    obtain ⟨dl, dm⟩ := t.tup
    obtain ⟨b, hb⟩ : ∃ b, b = (decide ((m : Int) ≤ (ds.length : Int)) && decide ((ds.length : Int) ≤ (m : Int))) := ⟨_, rfl⟩
    have e : F_is_tuple_of [.tuple ds, natD m, natD m] = some (.bool b) := by rw [hb]; exact p_tupOf t.full
    simp -implicitDefEqProofs [e]
    cases b with
    | false => simp -implicitDefEqProofs
    | true =>
      have lm : ds.length = m := by
        have := hb.symm
        rw [Bool.and_eq_true] at this
        have h1 := of_decide_eq_true this.1
        have h2 := of_decide_eq_true this.2
        omega
      simp -implicitDefEqProofs
      refine ⟨by omega, wp_lcT0 (fun x => .bool (isNN x)) (fun x hx => ?_) ?_⟩
      · have fx := (dm x hx).full
        cases x <;> simp -implicitDefEqProofs [p_num fx, isI0, isNN]
      have na : ds.all isNN = false := by
        have no : (if ds.length = m ∧ ds.all isNN = true then some (ds.map toI) else none) = none := no
        cases q : ds.all isNN with
        | false => rfl
        | true => rw [if_pos ⟨lm, q⟩] at no; cases no
      simp -implicitDefEqProofs [q_all, na]
  | dict kvs =>
    have e : F_is_tuple_of [.dict kvs, natD m, natD m] = some (.bool false) := p_tupOf t.full
    simp -implicitDefEqProofs [e]
  | _ =>
    have e : F_is_tuple_of [_, natD m, natD m] = some (.bool false) := p_tupOf t.full
    simp -implicitDefEqProofs [e]
theorem p_faultX (hw : IsWeb W) {d : PD} {l h : Nat} (t : Bd l h d) (l30 : l ≤ 100) : F_streamfault [webD W, d] = some (faultD W d) := by
  unfold faultD
  cases c : asI W.roads.length d with
  | some f =>
    obtain ⟨rfl, h1, h2⟩ := asI_some c
    exact p_fault hw ⟨h1, h2⟩
  | none =>
    refine eq_of_wp ?_
    unfold F_streamfault
    refine wp_runP rfl ?_
    unfold X_streamfault
    simp -implicitDefEqProofs [p_formF t l30 c]
theorem l_sum (hw : IsWeb W) (hf : Bears W f) {s h : Nat} (hs : s = 0 ∨ s = 1) (hh : h < W.gives.length) : F__law_sum [webD W, intsD f, natD s, natD h] = some (.int (((atR W.roads s h).map (at0 f)).sum)) := by
  have hc := hw.count
  have lf := hf.len
  refine eq_of_wp ?_
  unfold F__law_sum
  refine wp_runP rfl ?_
  unfold X__law_sum
  simp -implicitDefEqProofs
  refine ⟨in62_nat (by omega), by omega, wp_lc (fun k => isAt W.roads s h k) (fun k => .int (at0 f k)) (fun k hk => ?_) ?_⟩
  · have hk := List.mem_range.mp hk
    have es : isAt W.roads s h k = (side s (rd W k) == some h) := by
      unfold isAt
      rw [rd_eq hk, List.getElem?_eq_getElem hk]
    have as : atI [endD (rd W k).b, endD (rd W k).e, .int (rd W k).r] (s : Int) = some (endD (side s (rd W k))) := by
      rcases hs with rfl | rfl <;> rfl
    rw [es]
    simp -implicitDefEqProofs [atI_road hk, roadD, as, eq_end, atI_bears (show k < f.length by omega)]
  rw [filter_atR]
  have su : sumP (.list ((atR W.roads s h).map fun k => .int (at0 f k))) = some (.int (((atR W.roads s h).map (at0 f)).sum)) := q_sum
  simp -implicitDefEqProofs [su]
theorem sum_at (hw : IsWeb W) {h : Nat} (hh : h < W.gives.length) : ((atR W.roads 0 h).map (at0 f)).sum = ((giv W h).map (at0 f)).sum ∧ ((atR W.roads 1 h).map (at0 f)).sum = ((tak W h).map (at0 f)).sum :=
  ⟨(perm_sumI ((hw.giv hh).map _)).symm, (perm_sumI ((hw.tak hh).map _)).symm⟩
theorem l_faultX (hw : IsWeb W) {d : PD} {l h : Nat} (t : Bd l h d) (l30 : l ≤ 100) : F__law_stream_fault [webD W, d] = some (faultD W d) := by
  have hc := hw.count
  have hh := hw.houses
  refine eq_of_wp ?_
  unfold F__law_stream_fault
  refine wp_runP rfl ?_
  unfold X__law_stream_fault
  have form : ∀ {ds : List PD}, d = .tuple ds → (ds.length ≠ W.roads.length ∨ ds.all isNN = false) → faultD W d = .tuple [.str "form"] := fun {ds} e h => by
    unfold faultD
    rw [e]
    have : asI W.roads.length (.tuple ds) = none := by
      show (if ds.length = W.roads.length ∧ ds.all isNN = true then some (ds.map toI) else none) = none
      rw [if_neg]
      rintro ⟨h1, h2⟩
      rcases h with h | h
      · exact h h1
      · rw [h2] at h; exact nomatch h
    rw [this]
  cases d with
  | tuple ds =>
    obtain ⟨h', rfl⟩ := t.tup0
    obtain ⟨dl, dm⟩ := t.tup
    simp -implicitDefEqProofs [isTy]
    by_cases cl : ds.length = W.roads.length
    · have n1 : ((ds.length : Int) == (W.roads.length : Int)) = true := by rw [cl]; simp
      simp -implicitDefEqProofs [cl]
      refine ⟨by omega, ?_⟩
      rw [show lcGo _ _ _ _ ds = lcGo _ _ _ _ (ds.map id) from by rw [List.map_id]]
      refine wp_lc (fun x => !isNN x) (fun _ => .int 1) (fun x hx => ?_) ?_
      · have fx := (dm x hx).full
        cases x <;> simp -implicitDefEqProofs [p_whole fx, isI0, isNN]
        rename_i i
        exact Bool.eq_iff_iff.mpr (by simp)
      have en : neP (.list ((ds.filter fun x => !isNN x).map fun _ => .int 1)) (.list []) = some (.bool (!(ds.filter fun x => !isNN x).isEmpty)) := by
        have := ne_nilIA (l := (ds.filter fun x => !isNN x).map fun _ => (1 : Int))
        rw [List.map_map] at this
        have e2 : ((ds.filter fun x => !isNN x).map fun _ => (1 : Int)).isEmpty = (ds.filter fun x => !isNN x).isEmpty := by simp
        rw [e2] at this
        exact this
      simp -implicitDefEqProofs only [wp_some, en]
      cases na : ds.all isNN with
      | false =>
        have : (ds.filter fun x => !isNN x).isEmpty = false := by
          rw [← Bool.not_eq_true, List.isEmpty_iff, List.filter_eq_nil_iff]
          intro z
          rw [← Bool.not_eq_true, List.all_eq_true] at na
          exact na fun x hx => by simpa using z x hx
        simp -implicitDefEqProofs [this, en]
        exact (form rfl (.inr na)).symm
      | true =>
        have a := List.all_eq_true.mp na
        have : (ds.filter fun x => !isNN x).isEmpty = true := by
          rw [List.isEmpty_iff, List.filter_eq_nil_iff]
          intro x hx
          rw [a x hx]
          simp
        obtain ⟨f, ef⟩ : ∃ f, asI W.roads.length (.tuple ds) = some f := ⟨ds.map toI, if_pos ⟨cl, na⟩⟩
        obtain ⟨ed, lf, nn⟩ := asI_some ef
        have hf : Bears W f := ⟨lf, nn⟩
        have ed' : ds = f.map PyData.int := PyData.tuple.inj ed
        have fd : faultD W (.tuple ds) = faultF W f := by unfold faultD; rw [ef]
        rw [fd]
        simp -implicitDefEqProofs [this, en]
        rw [ed]
        refine ⟨in62_nat (by omega), ?_⟩
        rw [cl]
        refine wp_forR (fun k ρ => ∃ (z2 z3 z4 : Sl), ρ = [.dat (webD W), .dat (intsD f), z2, z3, z4] ∧ ∀ j, j < k → overB W f j = false) ⟨_, _, _, rfl, by simp⟩ ?_ ?_
        · rintro k hk ρ ⟨z2, z3, z4, rfl, ok⟩
          have hk : k < W.roads.length := by omega
          unfold X__law_stream_fault_b1
          simp -implicitDefEqProofs [atI_road hk, roadD, atI_bears (show k < f.length by omega)]
          refine wp_alt (fun c => ?_) (fun c => ?_)
          · simp -implicitDefEqProofs
            unfold faultF
            rw [find_first hk ok c]
          · simp -implicitDefEqProofs
            refine ⟨_, _, _, rfl, fun j hj => ?_⟩
            by_cases e : j = k
            · rw [e]; exact c
            · exact ok j (by omega)
        rintro ρ ⟨z2, z3, z4, rfl, ok⟩
        simp -implicitDefEqProofs
        refine ⟨in62_nat (by omega), ?_⟩
        refine wp_forR (fun k ρ => ∃ (z2 z3 z4 : Sl), ρ = [.dat (webD W), .dat (intsD f), z2, z3, z4] ∧ ∀ j, j < k → oddB W f j = false) ⟨_, _, _, rfl, by simp⟩ ?_ ?_
        · rintro k hk ρ ⟨z2, z3, z4, rfl, ok2⟩
          have s0 := l_sum hw hf (s := 0) (.inl rfl) hk
          have s1 := l_sum hw hf (s := 1) (.inr rfl) hk
          rw [(sum_at hw hk).1] at s0
          rw [(sum_at hw hk).2] at s1
          have s0 : F__law_sum [webD W, intsD f, .int 0, natD k] = _ := s0
          have s1 : F__law_sum [webD W, intsD f, .int 1, natD k] = _ := s1
          have oe : oddB W f k = !((((giv W k).map (at0 f)).sum) == (((tak W k).map (at0 f)).sum)) := by
            unfold oddB
            congr 1
            exact Bool.eq_iff_iff.mpr (by simp; exact eq_comm)
          unfold X__law_stream_fault_b2
          simp -implicitDefEqProofs [s0, s1]
          rw [← oe]
          refine wp_alt (fun c => ?_) (fun c => ?_)
          · simp -implicitDefEqProofs
            unfold faultF
            rw [find_no fun j hj => ok j (by omega)]
            show _ = (match (List.range W.gives.length).find? (oddB W f) with | some h => PyData.tuple [.str "house", natD h] | none => .none)
            rw [find_first hk ok2 c]
          · simp -implicitDefEqProofs
            refine ⟨_, _, _, rfl, fun j hj => ?_⟩
            by_cases e : j = k
            · rw [e]; exact c
            · exact ok2 j (by omega)
        rintro ρ ⟨z2, z3, z4, rfl, ok2⟩
        simp -implicitDefEqProofs
        unfold faultF
        rw [find_no fun j hj => ok j (by omega)]
        show _ = (match (List.range W.gives.length).find? (oddB W f) with | some h => PyData.tuple [.str "house", natD h] | none => .none)
        rw [find_no ok2]
    · have n1 : ((ds.length : Int) == (W.roads.length : Int)) = false := by rw [beq_eq_false_iff_ne]; omega
      simp -implicitDefEqProofs [n1, cl]
      exact (form rfl (.inl cl)).symm
  | dict kvs => simp -implicitDefEqProofs [isTy, t.full]; rfl
  | _ => simp -implicitDefEqProofs [isTy]; rfl
end
end Fn

namespace Fn
open PySem PySem.Spec PyProof.Rows L2 Uv
end Fn

namespace Fn
open PySem PySem.Spec PyProof.Rows L2 Uv TL
def numS (n : Nat) : Str := Str.ofString (toString ((n : Nat) : Int))
section
variable {n : Nat} {l : List Nat} {a b : Str}
theorem tl_numS : tl (numS n) = numL n := tl_num n
theorem len_app : (a ++ b).length = a.length + b.length := by rw [len_tl, len_tl, len_tl, tl_append, List.length_append]
theorem len_numS (h : n < 10 ^ 13) : (numS n).length ≤ 13 := by rw [len_tl, tl_numS]; exact numL_len (by decide) h
def Sg (p : Nat → Bool) (x : Str) : Prop := ∀ c ∈ tl x, p c = true
theorem Sg.app {p : Nat → Bool} (ha : Sg p a) (hb : Sg p b) : Sg p (a ++ b) := fun c hc => by
  rw [tl_append] at hc
  rcases List.mem_append.mp hc with z | z
  · exact ha c z
  · exact hb c z
theorem sg_lit {p : Nat → Bool} {x : Str} (h : (tl x).all p = true) : Sg p x := fun c hc => List.all_eq_true.mp h c hc
theorem sg_num {p : Nat → Bool} (h : ∀ c, 48 ≤ c → c ≤ 57 → p c = true) : Sg p (numS n) := fun c hc => by
  rw [tl_numS] at hc
  have := numL_digits n c hc
  exact h c this.1 this.2
theorem mem_joinT {S : List Nat} {c : Nat} : ∀ {ps : List (List Nat)}, c ∈ TL.joinL S ps → c ∈ S ∨ ∃ p ∈ ps, c ∈ p
  | [], h => nomatch h
  | [p], h => .inr ⟨p, List.mem_cons_self .., h⟩
  | p :: q :: r, h => by
    rcases List.mem_append.mp (show c ∈ p ++ (S ++ TL.joinL S (q :: r)) from h) with z | z
    · exact .inr ⟨p, List.mem_cons_self .., z⟩
    · rcases List.mem_append.mp z with z | z
      · exact .inl z
      · rcases mem_joinT z with z | ⟨p', hp, z⟩
        · exact .inl z
        · exact .inr ⟨p', List.mem_cons_of_mem _ hp, z⟩
theorem tl_joinT (y : Str) (ps : List Str) : tl (Txt.join y ps) = TL.joinL (tl y) (ps.map tl) := by rw [join_eq, tl_join]
theorem sg_join {p : Nat → Bool} {y : Str} {ps : List Str} (hy : Sg p y) (hp : ∀ x ∈ ps, Sg p x) : Sg p (Txt.join y ps) := fun c hc => by
  rw [tl_joinT] at hc
  rcases mem_joinT hc with z | ⟨q, hq, z⟩
  · exact hy c z
  · obtain ⟨x, hx, rfl⟩ := List.mem_map.mp hq
    exact hp x hx c z
end
end Fn

namespace Uv
open PySem PySem.Spec PyProof.Rows L2
def jsK (xs : List XE) (acc : Str) (ρ : VE) : PD → Option PD
  | .str y => if (acc ++ y).length ≤ 16000000 then xJs xs (acc ++ y) ρ else none
  | _ => none
@[simp] theorem q_xJs_nil {acc : Str} {ρ : VE} : xJs [] acc ρ = some (.str acc) := (rfl)
@[simp] theorem q_xJs_cons {x : XE} {xs : List XE} {acc : Str} {ρ : VE} : xJs (x :: xs) acc ρ = (x ρ).bind (jsK xs acc ρ) := by
  show (x ρ).bind _ = _
  congr 1
@[simp] theorem q_jsK {xs : List XE} {acc y : Str} {ρ : VE} : jsK xs acc ρ (.str y) = grd ((acc ++ y).length ≤ 16000000) (xJs xs (acc ++ y) ρ) := by
  show (if _ then _ else none) = _
  exact grd_ite
end Uv
namespace Fn
open PySem PySem.Spec PyProof.Rows L2 Uv TL
section
variable {n : Nat} {l : List Nat} {a b y s : Str} {W : Web}
theorem log_le {n : Nat} (h : n < 10 ^ 13) : n.log2 < 1920 := by
  by_cases z : n = 0
  · subst z; decide
  · exact (Nat.log2_lt z).mpr (Nat.lt_of_lt_of_le h (Nat.le_trans (show 10 ^ 13 ≤ 2 ^ 44 by decide) (Nat.pow_le_pow_right (by decide) (by decide))))
theorem s_num (h : n < 10 ^ 13) : strP (natD n) = some (.str (numS n)) := by
  show (if ((n : Int)).natAbs.log2 < 1920 then some (PyData.str (toString (n : Int))) else none) = _
  rw [if_pos (by show n.log2 < 1920; exact log_le h)]
  rfl
theorem join_f {ys : List Str} (h : (ys.map (·.length)).sum + ys.length * s.length ≤ 16777216) : joinT (.str s) (.list (ys.map PyData.str)) = some (.str (Txt.join s ys)) := by
  show (unS (ys.map PyData.str)).bind _ = _
  rw [@unS_map kk0, Option.bind_some, if_pos h]
structure OkR (x : Road) : Prop where
  b : ∀ n, x.b = some n → n < 10 ^ 13
  e : ∀ n, x.e = some n → n < 10 ^ 13
  r0 : 0 ≤ x.r
  r1 : x.r ≤ 1000000000000
end
end Fn

namespace Fn
open PySem PySem.Spec PyProof.Rows L2 Uv TL
section
variable {n : Nat} {l : List Nat} {a b y s : Str} {W : Web}
theorem sum_leT {b : Nat} : ∀ {ls : List Str}, (∀ x ∈ ls, x.length ≤ b) → (ls.map (·.length)).sum ≤ ls.length * b
  | [], _ => Nat.zero_le _
  | x :: ls, h => by
    have h3 := sum_leT (ls := ls) fun k hk => h k (List.mem_cons_of_mem _ hk)
    have h4 := h x (List.mem_cons_self ..)
    rw [List.map_cons, List.sum_cons, List.length_cons, Nat.succ_mul]
    omega
end
end Fn

namespace Fn
open PySem PySem.Spec PyProof.Rows L2 Uv TL
section
variable {n : Nat} {l : List Nat} {a b y s : Str} {W : Web}
theorem add_s (h : a.length + b.length ≤ 16000000) : addX (.str a) (.str b) = some (.str (a ++ b)) := if_pos h
end
end Fn

namespace Fn
open PySem PySem.Spec PyProof.Rows L2 Uv TL
def digB (c : Nat) : Bool := decide (48 ≤ c ∧ c ≤ 57)
def ascB (c : Nat) : Bool := decide (c < 128)
section
variable {n m : Nat} {l : List Nat} {a b y s x : Str} {W : Web}
theorem all_tl {p : Nat → Bool} (h : Sg p x) : x.cps.all p = true := by
  rw [← Array.all_toList]
  exact List.all_eq_true.mpr h
theorem Sg.mono {p q : Nat → Bool} (h : Sg p x) (k : ∀ c, p c = true → q c = true) : Sg q x := fun c hc => k c (h c hc)
theorem sg_asc (h : Sg ascB x) : PyData.strOk x = true := all_tl (h.mono fun c hc => by
  have : c < 128 := of_decide_eq_true hc
  exact decide_eq_true (by omega))
theorem asc_num : Sg ascB (numS n) := sg_num fun c h1 h2 => decide_eq_true (by omega)
theorem shp_strT {x : Str} (h : PyData.strOk x = true) : SeqAt.shaped (.str x) = true := by
  unfold SeqAt.shaped
  rw [show PyData.canLay0 (.str x) = PyData.strOk x by simp [PyData.canLay0], h]
  rfl
theorem eq_strs (ha : Sg ascB a) (hb : Sg ascB b) : eqP (.str a) (.str b) = some (.bool (decide (a = b))) := by
  unfold eqP
  rw [if_pos ⟨shp_strT (sg_asc ha), shp_strT (sg_asc hb)⟩]
  rfl
end
end Fn

namespace Fn
open PySem PySem.Spec PyProof.Rows L2 Uv TL
section
variable {n m : Nat} {l : List Nat} {a b y s x : Str} {W : Web}
theorem dig_dig {c : Nat} (h : digB c = true) : Unicode.isDigit c = true := by
  have h : 48 ≤ c ∧ c ≤ 57 := of_decide_eq_true h
  have : ∀ c, c < 58 → 48 ≤ c → Unicode.isDigit c = true := by decide +kernel
  exact this c (by omega) h.1
theorem isasc (h : Sg ascB x) : isascT (.str x) = some (.bool true) := by
  show some (PyData.bool (Txt.isascii x)) = _
  rw [show Txt.isascii x = true from all_tl h]
theorem isdig_no {c : Nat} (hc : c ∈ tl x) (hd : Unicode.isDigit c = false) : isdigT (.str x) = some (.bool false) := by
  show some (PyData.bool (Txt.isdigit x)) = _
  have h1 : Txt.isdigit x = (decide (x.length > 0) && x.cps.all Unicode.isDigit) := rfl
  have h2 : x.cps.all Unicode.isDigit = false := by
    rw [← Array.all_toList, List.all_eq_false]
    exact ⟨c, hc, by rw [hd]; decide⟩
  rw [h1, h2, Bool.and_false]
end
end Fn

namespace Fn
open PySem PySem.Spec PyProof.Rows L2 Uv TL
section
variable {n m : Nat} {l : List Nat} {a b y s x : Str} {W : Web}
end
end Fn

namespace Fn
open PySem PySem.Spec PyProof.Rows L2 Uv TL
section
variable {n m : Nat} {l : List Nat} {a b y s x : Str} {W : Web}
theorem lf_end {o : Option Nat} (h : ∀ n, o = some n → n < 10 ^ 13) : Lf (endD o) := by
  cases o with
  | none => exact ⟨(Sho.non (k := 0)).mono (by decide) (by decide), fun ds e => nomatch e⟩
  | some j =>
    have := h j rfl
    have c : (10 : Nat) ^ 13 < 10 ^ 20 := by decide
    exact Lf.int (by show (j : Int).natAbs < _; omega)
end
end Fn

namespace Fn
open PySem PySem.Spec PyProof.Rows L2 Uv TL
section
variable {n m : Nat} {l : List Nat} {a b y s x : Str} {W : Web} {f : List Int}
end
end Fn

namespace Fn
open PySem PySem.Spec PyProof.Rows L2 Uv TL
def strmS (f : List Int) : Str := Txt.join " " (f.map fun x => numS x.toNat)
section
variable {n m : Nat} {l : List Nat} {a b y s x : Str} {W : Web} {f : List Int}
theorem stm_lim (hw : IsWeb W) (hf : Stm W f) : f.length ≤ 20 ∧ 1 ≤ f.length ∧ ∀ x ∈ f, 0 ≤ x ∧ x.toNat < 10 ^ 13 ∧ PyData.int x = natD x.toNat := by
  have hc := hw.count
  have lf := hf.be.len
  refine ⟨by omega, by omega, fun x hx => ?_⟩
  have h0 := hf.be.nn x hx
  obtain ⟨k, hk, rfl⟩ := List.mem_iff_getElem.mp hx
  have hi := hf.hi k
  have hk2 : k < W.roads.length := by omega
  have r1 := (hw.road _ (List.getElem_mem hk2)).2.2.2.2
  rw [at0_eq hk, rd_eq hk2] at hi
  have c : (1000000000000 : Nat) < 10 ^ 13 := by decide
  exact ⟨h0, by omega, (natD_toNat h0).symm⟩
theorem len_strm (h : ∀ x ∈ f, 0 ≤ x ∧ x.toNat < 10 ^ 13 ∧ PyData.int x = natD x.toNat) (hl : f.length ≤ 20) : ((f.map fun x => numS x.toNat).map (·.length)).sum ≤ 400 ∧ (strmS f).length ≤ 1000 := by
  have h1 := sum_leT (b := 13) (ls := f.map fun x => numS x.toNat) fun x hx => by
    obtain ⟨i, hi, rfl⟩ := List.mem_map.mp hx
    exact len_numS (h i hi).2.1
  rw [List.length_map] at h1
  have h3 : (" " : Str).length = 1 := by decide
  have h2 := StrLaws.join_length_le " " (f.map fun x => numS x.toNat)
  rw [h3, List.length_map] at h2
  refine ⟨by omega, ?_⟩
  unfold strmS
  rw [join_eq]
  omega
theorem join_strm (h : ∀ x ∈ f, 0 ≤ x ∧ x.toNat < 10 ^ 13 ∧ PyData.int x = natD x.toNat) (hl : f.length ≤ 20) : joinT (.str " ") (.list ((f.map fun x => numS x.toNat).map PyData.str)) = some (.str (strmS f)) := by
  have h3 : (" " : Str).length = 1 := by decide
  refine join_f ?_
  have := (len_strm h hl).1
  rw [h3, List.length_map]
  omega
theorem asc_strm : Sg ascB (strmS f) := sg_join (sg_lit (by decide)) fun x hx => by
  obtain ⟨y, hy, rfl⟩ := List.mem_map.mp hx
  exact asc_num
end
end Fn

namespace Fn
open PySem PySem.Spec PyProof.Rows L2 Uv TL
def sgO : PD → Option (List PD)
  | .str z => some (sgnD z)
  | _ => none
@[simp] theorem q_xiS {a : XE} {v : VE} : xiS a v = (a v).bind sgO := by
  show (a v).bind _ = _
  congr 1
@[simp] theorem q_sgO {z : Str} : sgO (.str z) = some (sgnD z) := (rfl)
def valS (w : Str) : Nat := NumText.digitsVal (tl w)
def wordN (w : Str) : Option Nat := if tl w = [] ∨ 13 < w.length ∨ ¬ (∀ c ∈ tl w, digB c = true) then none else if (tl w).head? = some 48 ∧ tl w ≠ [48] then none else some (valS w)
section
variable {n m : Nat} {l : List Nat} {a b y s x w : Str} {W : Web} {f : List Int}
theorem val_lt : ∀ (l : List Nat) (a : Nat), NumText.AllDigits l → l.foldl (fun acc c => acc * 10 + (c - 48)) a < (a + 1) * 10 ^ l.length
  | [], a, _ => by simp
  | c :: l, a, h => by
    have hc := h c (List.mem_cons_self ..)
    have := val_lt l (a * 10 + (c - 48)) fun d hd => h d (List.mem_cons_of_mem _ hd)
    rw [List.foldl_cons, List.length_cons, Nat.pow_succ]
    have h2 : a * 10 + (c - 48) + 1 ≤ (a + 1) * 10 := by omega
    have h3 := Nat.mul_le_mul_right (10 ^ l.length) h2
    have e : (a + 1) * 10 * 10 ^ l.length = (a + 1) * (10 ^ l.length * 10) := by rw [Nat.mul_assoc, Nat.mul_comm 10]
    omega
theorem all_of (h : ∀ c ∈ tl w, digB c = true) : NumText.AllDigits (tl w) := fun c hc => of_decide_eq_true (h c hc)
theorem valS_lt (h : ∀ c ∈ tl w, digB c = true) (hl : w.length ≤ 13) : valS w < 10 ^ 13 := by
  have := val_lt (tl w) 0 (all_of h)
  unfold valS NumText.digitsVal
  have h2 : (10 : Nat) ^ (tl w).length ≤ 10 ^ 13 := Nat.pow_le_pow_right (by decide) (by rw [← len_tl]; exact hl)
  omega
theorem wordN_lt {k : Nat} (h : wordN w = some k) : k < 10 ^ 13 := by
  unfold wordN at h
  by_cases c : tl w = [] ∨ 13 < w.length ∨ ¬ (∀ c ∈ tl w, digB c = true)
  · rw [if_pos c] at h; cases h
  · rw [if_neg c] at h
    have c1 : ¬ 13 < w.length := fun z => c (.inr (.inl z))
    have c2 : ∀ c ∈ tl w, digB c = true := Classical.not_not.mp fun z => c (.inr (.inr z))
    by_cases d : (tl w).head? = some 48 ∧ tl w ≠ [48]
    · rw [if_pos d] at h; cases h
    · rw [if_neg d] at h
      cases h
      exact valS_lt c2 (by omega)
theorem dig_not {c : Nat} (ha : c < 128) (h : digB c = false) : Unicode.isDigit c = false := by
  have : ∀ c, c < 128 → digB c = false → Unicode.isDigit c = false := by decide +kernel
  exact this c ha h
theorem isdig_all (h : ∀ c ∈ tl w, digB c = true) (hn : tl w ≠ []) : isdigT (.str w) = some (.bool true) := by
  show some (PyData.bool (Txt.isdigit w)) = _
  have h1 : Txt.isdigit w = (decide (w.length > 0) && w.cps.all Unicode.isDigit) := rfl
  have h2 : w.cps.all Unicode.isDigit = true := all_tl (p := Unicode.isDigit) fun c hc => dig_dig (h c hc)
  have : 0 < w.length := by rw [len_tl]; exact List.length_pos_iff.mpr hn
  rw [h1, h2, decide_eq_true this]
  rfl
theorem starts_head : startsT (.str w) (.str "0") = some (.bool (decide ((tl w).head? = some 48))) := by
  show some (PyData.bool (Txt.startswith w "0")) = _
  congr 2
  have hz : tl ("0" : Str) = [48] := by decide
  have e : Txt.startswith w "0" = (decide (0 + ("0" : Str).length ≤ w.length) && Builtin.Str.subAt w "0" 0) := rfl
  have ai := at_iff (x := w) (y := "0") (by rw [hz]; simp) 0
  have e2 : Txt.startswith w "0" = true ↔ pre (tl "0") ((tl w).drop 0) = true := by
    rw [e, Bool.and_eq_true, decide_eq_true_iff]
    exact ai
  rw [hz, List.drop_zero] at e2
  cases q : tl w with
  | nil =>
    rw [q] at e2
    have : pre [48] [] = false := by decide
    rw [this] at e2
    simp at e2
    rw [e2]
    rfl
  | cons c r =>
    rw [q] at e2
    by_cases z : c = 48
    · subst z
      have : pre [48] (48 :: r) = true := pre_self [48] r
      rw [e2.mpr this]
      rfl
    · have : pre [48] (c :: r) = false := pre_of_head [] r z
      rw [this] at e2
      have : Txt.startswith w "0" = false := by
        rw [Bool.eq_false_iff]
        exact fun t => Bool.false_ne_true (e2.mp t)
      rw [this]
      simp [z]
theorem int_any (h : ∀ c ∈ tl w, digB c = true) (hn : tl w ≠ []) (hl : w.length ≤ 13) : intT (.str w) = some (natD (valS w)) := by
  have e := intText_digits (x := w) (all_of h) hn (by omega)
  show (PySem.intText? w).bind _ = _
  rw [show PySem.intText? w = some ((valS w : Nat) : Int) from e, Option.bind_some, if_pos (by omega)]
theorem ne_strs (ha : Sg ascB a) (hb : Sg ascB b) : neP (.str a) (.str b) = some (.bool (!decide (a = b))) := by
  unfold neP
  rw [if_pos ⟨shp_strT (sg_asc ha), shp_strT (sg_asc hb)⟩]
  rfl
theorem eq_tl : a = b ↔ tl a = tl b := ⟨fun h => by rw [h], ext_tl⟩
theorem p_word (ha : Sg ascB w) (hl : w.length ≤ 1000000) : F_number_in [.str w] = some (endD (wordN w)) := by
  have g : lenT (.str w) = some (natD w.length) := if_pos (by omega)
  have gt : gtU (natD w.length) (.int 13) = some (.bool (decide (13 < w.length))) := by
    show some (PyData.bool (decide ((13 : Int) < (w.length : Int)))) = _
    congr 2
    simp
    omega
  have h0 : tl ("0" : Str) = [48] := by decide
  refine eq_of_wp ?_
  unfold F_number_in
  refine wp_runP rfl ?_
  unfold X_number_in
  by_cases hd : ∀ c ∈ tl w, digB c = true
  · by_cases hn : tl w = []
    · have i0 : isdigT (.str w) = some (.bool false) := by
        have : w = "" := ext_tl (by rw [hn]; decide)
        rw [this]
        rfl
      have e : wordN w = none := if_pos (.inl hn)
      simp -implicitDefEqProofs [isasc ha, i0, e]
      rfl
    · by_cases h13 : 13 < w.length
      · have e : wordN w = none := if_pos (.inr (.inl h13))
        rw [decide_eq_true h13] at gt
        simp -implicitDefEqProofs [isasc ha, isdig_all hd hn, g, gt, e]
        rfl
      · have c : ¬ (tl w = [] ∨ 13 < w.length ∨ ¬ (∀ c ∈ tl w, digB c = true)) := fun z => z.elim hn fun z => z.elim h13 fun z => z hd
        have i := int_any hd hn (by omega)
        rw [decide_eq_false h13] at gt
        have ne := ne_strs ha (b := "0") (sg_lit (by decide))
        have st := starts_head (w := w)
        by_cases z : (tl w).head? = some 48
        · by_cases z2 : tl w = [48]
          · have e : wordN w = some (valS w) := by
              unfold wordN
              rw [if_neg c, if_neg fun t => t.2 z2]
            rw [decide_eq_true z] at st
            rw [decide_eq_true (eq_tl.mpr (by rw [z2, h0]))] at ne
            simp -implicitDefEqProofs [isasc ha, isdig_all hd hn, g, gt, st, ne, i, e]
            rfl
          · have e : wordN w = none := by
              unfold wordN
              rw [if_neg c, if_pos ⟨z, z2⟩]
            rw [decide_eq_true z] at st
            rw [decide_eq_false fun t => z2 (by rw [← h0, ← t])] at ne
            simp -implicitDefEqProofs [isasc ha, isdig_all hd hn, g, gt, st, ne, e]
            rfl
        · have e : wordN w = some (valS w) := by
            unfold wordN
            rw [if_neg c, if_neg fun t => z t.1]
          rw [decide_eq_false z] at st
          simp -implicitDefEqProofs [isasc ha, isdig_all hd hn, g, gt, st, i, e]
          rfl
  · have e : wordN w = none := if_pos (.inr (.inr hd))
    obtain ⟨c, hc, nd⟩ : ∃ c ∈ tl w, digB c = false := by
      refine Classical.byContradiction fun z => hd fun c hc => ?_
      cases q : digB c with
      | true => rfl
      | false => exact absurd ⟨c, hc, q⟩ z
    have ca : c < 128 := of_decide_eq_true (ha c hc)
    simp -implicitDefEqProofs [isasc ha, isdig_no hc (dig_not ca nd), e]
    rfl
theorem lay_strs {l : List Nat} (h : ∀ c ∈ l, c < 128) : Lay 60 (.list (l.map fun c => PyData.str ⟨#[c]⟩)) := by
  refine Lay.lst (k := 59) fun d hd => ?_
  obtain ⟨c, hc, rfl⟩ := List.mem_map.mp hd
  have := h c hc
  refine ⟨?_, Nat.zero_le _⟩
  show PyData.canLay0 (.str ⟨#[c]⟩) = true
  have e : PyData.strOk ⟨#[c]⟩ = true := by
    show #[c].all _ = true
    simp
    omega
  simp [PyData.canLay0, e]
theorem l_word (ha : Sg ascB w) (hl : w.length ≤ 1000000) : F__law_number_in_b [.str w, .int 9999999999999] = some (endD (wordN w)) := by
  have g : lenT (.str w) = some (natD w.length) := if_pos (by omega)
  have gt : gtU (natD w.length) (.int 13) = some (.bool (decide (13 < w.length))) := by
    show some (PyData.bool (decide ((13 : Int) < (w.length : Int)))) = _
    congr 2
    simp
    omega
  have h0 : tl ("0" : Str) = [48] := by decide
  have he : tl ("" : Str) = [] := by decide
  have ee := eq_strs ha (b := "") (sg_lit (by decide))
  have nl : neP (.list (((tl w).filter fun c => !digB c).map fun c => PyData.str ⟨#[c]⟩)) (.list []) = some (.bool (!((tl w).filter fun c => !digB c).isEmpty)) := by
    have l0 : Lay 60 (.list []) := Lay.lst (k := 59) fun d hd => nomatch hd
    rw [neP_lay (lay_strs fun c hc => of_decide_eq_true (ha c (List.mem_filter.mp hc).1)) l0]
    cases (tl w).filter fun c => !digB c <;> rfl
  have dc : ∀ c, c < 128 → decide (c ∈ tl ("0123456789" : Str)) = digB c := by decide +kernel
  refine eq_of_wp ?_
  unfold F__law_number_in_b
  refine wp_runP rfl ?_
  unfold X__law_number_in_b
  by_cases hn : tl w = []
  · have e : wordN w = none := if_pos (.inl hn)
    rw [decide_eq_true (eq_tl.mpr (by rw [hn, he]))] at ee
    simp -implicitDefEqProofs [ee, e]
    rfl
  · rw [decide_eq_false fun t => hn (by rw [← he, ← t])] at ee
    by_cases h13 : 13 < w.length
    · have e : wordN w = none := if_pos (.inr (.inl h13))
      rw [decide_eq_true h13] at gt
      simp -implicitDefEqProofs [ee, g, gt, e]
      rfl
    · rw [decide_eq_false h13] at gt
      have sl : (sgnD w).length ≤ 40000 := by
        unfold sgnD
        rw [List.length_map, Array.length_toList]
        have : w.cps.size = w.length := rfl
        omega
      simp -implicitDefEqProofs [ee, g, gt]
      refine ⟨sl, wp_lc (enc := fun c => PyData.str ⟨#[c]⟩) (l := tl w) (fun c => !digB c) (fun c => .str ⟨#[c]⟩) (fun c hc => ?_) ?_⟩
      · have ca : c < 128 := of_decide_eq_true (ha c hc)
        have ni : notinS (.str ⟨#[c]⟩) (.str "0123456789") = some (.bool (!digB c)) := by
          rw [← dc c ca]
          rfl
        simp -implicitDefEqProofs [ni]
      by_cases hd : ∀ c ∈ tl w, digB c = true
      · have fe : (tl w).filter (fun c => !digB c) = [] := by
          rw [List.filter_eq_nil_iff]
          intro c hc
          rw [hd c hc]
          decide
        rw [fe] at nl ⊢
        have nl : neP (.list []) (.list []) = some (.bool false) := nl
        have c : ¬ (tl w = [] ∨ 13 < w.length ∨ ¬ (∀ c ∈ tl w, digB c = true)) := fun z => z.elim hn fun z => z.elim h13 fun z => z hd
        have i := int_any hd hn (by omega)
        have lt := valS_lt hd (by omega)
        have gm : gtU (natD (valS w)) (.int 9999999999999) = some (.bool false) := by
          show some (PyData.bool (decide ((9999999999999 : Int) < (valS w : Int)))) = _
          rw [decide_eq_false (by omega)]
        obtain ⟨d, r, q⟩ := List.exists_cons_of_ne_nil hn
        have ix : ixT (.str w) (.int 0) = some (.str ⟨#[d]⟩) := by
          show (if w.length ≤ 16000000 then (L2.atI (tl w) 0).map fun c => PyData.str ⟨#[c]⟩ else none) = _
          rw [if_pos (by omega), q, show (0 : Int) = ((0 : Nat) : Int) from rfl, atI_at (show 0 < (d :: r).length by simp)]
          rfl
        have ad : Sg ascB (⟨#[d]⟩ : Str) := fun c hc => ha c (by rw [q]; have : c = d := List.mem_singleton.mp hc; rw [this]; exact List.mem_cons_self ..)
        have e1 := eq_strs ad (b := "0") (sg_lit (by decide))
        have e2 := ne_strs ha (b := "0") (sg_lit (by decide))
        have h1 : (tl w).head? = some d := by rw [q]; rfl
        by_cases z : d = 48
        · rw [decide_eq_true (eq_tl.mpr (by rw [h0, z]))] at e1
          by_cases z2 : tl w = [48]
          · have e : wordN w = some (valS w) := by
              unfold wordN
              rw [if_neg c, if_neg fun t => t.2 z2]
            rw [decide_eq_true (eq_tl.mpr (by rw [z2, h0]))] at e2
            simp -implicitDefEqProofs [nl, ix, e1, e2, i, gm, e]
            rfl
          · have e : wordN w = none := by
              unfold wordN
              rw [if_neg c, if_pos ⟨by rw [h1, z], z2⟩]
            rw [decide_eq_false fun t => z2 (by rw [← h0, ← t])] at e2
            simp -implicitDefEqProofs [nl, ix, e1, e2, e]
            rfl
        · have e : wordN w = some (valS w) := by
            unfold wordN
            rw [if_neg c, if_neg fun t => z (by have := t.1; rw [h1] at this; exact Option.some.inj this)]
          rw [decide_eq_false fun t => z (by have := eq_tl.mp t; rw [h0] at this; exact (List.cons.inj (show [d] = [48] from this)).1)] at e1
          simp -implicitDefEqProofs [nl, ix, e1, i, gm, e]
          rfl
      · have e : wordN w = none := if_pos (.inr (.inr hd))
        have ne : ((tl w).filter fun c => !digB c).isEmpty = false := by
          rw [Bool.eq_false_iff]
          intro z
          refine hd fun c hc => ?_
          rw [List.isEmpty_iff, List.filter_eq_nil_iff] at z
          have := z c hc
          simpa using this
        rw [ne] at nl
        simp -implicitDefEqProofs [nl, e]
        rfl
end
end Fn

namespace Fn
open PySem PySem.Spec PyProof.Rows L2 Uv TL
section
variable {n m : Nat} {l : List Nat} {a b y s x w : Str} {W : Web} {f : List Int}
theorem spl_in : ∀ (l acc : List Nat), (∀ p ∈ spl [32] 0 acc l, (∀ c ∈ p, c ∈ acc ∨ c ∈ l) ∧ p.length ≤ acc.length + l.length) ∧ (spl [32] 0 acc l).length ≤ l.length + 1
  | [], acc => by
    rw [spl_nil]
    exact ⟨fun p hp => by rw [List.mem_singleton.mp hp]; exact ⟨fun c hc => .inl hc, Nat.le_refl _⟩, Nat.le_refl _⟩
  | c :: r, acc => by
    by_cases z : c = 32
    · subst z
      have h : pre [32] (32 :: r) = true := pre_self [32] r
      rw [spl_hit h]
      have ih := spl_in r []
      refine ⟨fun p hp => ?_, ?_⟩
      · rcases List.mem_cons.mp hp with rfl | hp
        · exact ⟨fun c hc => .inl hc, by omega⟩
        · have := ih.1 p hp
          refine ⟨fun c hc => (this.1 c hc).elim (fun z => nomatch z) fun z => .inr (List.mem_cons_of_mem _ z), ?_⟩
          have := this.2
          simp at this ⊢
          omega
      · have := ih.2
        show (spl [32] 0 [] r).length + 1 ≤ r.length + 1 + 1
        omega
    · have h : pre [32] (c :: r) = false := pre_of_head [] r z
      rw [spl_miss h]
      have ih := spl_in r (acc ++ [c])
      refine ⟨fun p hp => ?_, ?_⟩
      · have := ih.1 p hp
        refine ⟨fun d hd => (this.1 d hd).elim (fun z => (List.mem_append.mp z).elim .inl fun z => .inr (by rw [List.mem_singleton.mp z]; exact List.mem_cons_self ..)) fun z => .inr (List.mem_cons_of_mem _ z), ?_⟩
        have := this.2
        simp at this ⊢
        omega
      · have := ih.2
        simp
        omega
theorem words_in (ha : Sg ascB x) : (∀ p ∈ Txt.split x " ", Sg ascB p ∧ p.length ≤ x.length) ∧ (Txt.split x " ").length ≤ x.length + 1 := by
  have e : (Txt.split x " ").map tl = spl [32] 0 [] (tl x) := split_spl x " " (by decide) (kind_ok (by decide +kernel))
  have h := spl_in (tl x) []
  refine ⟨fun p hp => ?_, ?_⟩
  · have := h.1 (tl p) (by rw [← e]; exact List.mem_map_of_mem hp)
    refine ⟨fun c hc => ha c ((this.1 c hc).elim (fun z => nomatch z) id), ?_⟩
    have := this.2
    rw [len_tl, len_tl]
    simpa using this
  · have := h.2
    rw [← e, List.length_map] at this
    rw [len_tl]
    exact this
def numsS (x : Str) : List (Option Nat) := (Txt.split x " ").map wordN
def tupS (x : Str) : PD := .tuple ((numsS x).map endD)
theorem split_any (hl : x.length ≤ 10000) : splitT (.str x) (.str " ") = some (.list ((Txt.split x " ").map PyData.str)) := by
  show (if _ then _ else none) = _
  rw [if_pos ⟨by decide, by omega⟩]
def goodS (W : Web) (x : Str) : Bool := decide ((numsS x).length = W.roads.length) && isNone (faultD W (tupS x))
theorem bd_tup (h : (numsS x).length ≤ 20) : Bd 20 1 (tupS x) := by
  refine Bd.mk (by rw [List.length_map]; exact h) fun d hd => ?_
  obtain ⟨o, ho, rfl⟩ := List.mem_map.mp hd
  obtain ⟨w, hw, rfl⟩ := List.mem_map.mp ho
  exact lf_end fun n e => wordN_lt e
theorem p_strF (hw : IsWeb W) (hl : (numsS x).length ≤ 40000) : ∃ d, F_streamfault [webD W, tupS x] = some d ∧ isNone d = goodS W x := by
  have hc := hw.count
  by_cases c : (numsS x).length = W.roads.length
  · refine ⟨_, p_faultX hw (bd_tup (by omega)) (by decide), ?_⟩
    unfold goodS
    rw [decide_eq_true c, Bool.true_and]
  · refine ⟨.tuple [.str "form"], ?_, ?_⟩
    · have tl0 : F_is_tuple_of [tupS x, natD W.roads.length, natD W.roads.length] = some (.bool false) := by
        show F_is_tuple_of [.tuple ((numsS x).map endD), .int _, .int _] = _
        rw [p_is_tuple_of, List.length_map]
        congr 2
        rw [Bool.and_eq_false_iff]
        by_cases z : (W.roads.length : Int) ≤ ((numsS x).length : Int)
        · exact .inr (decide_eq_false (by omega))
        · exact .inl (decide_eq_false z)
      have fm : F_is_form [tupS x, natD W.roads.length] = some (.bool false) := by
        refine eq_of_wp ?_
        unfold F_is_form
        refine wp_runP rfl ?_
        unfold X_is_form
        simp -implicitDefEqProofs [tl0]
      have eW : seqP (webD W) = some [.tuple (W.roads.map roadD), .tuple (W.gives.map natsD), .tuple (W.takes.map natsD)] := rfl
      refine eq_of_wp ?_
      unfold F_streamfault
      refine wp_runP rfl ?_
      unfold X_streamfault
      simp -implicitDefEqProofs [eW, gCons', gName', gNil', fm]
    · unfold goodS
      rw [decide_eq_false c]
      rfl
theorem l_strF (hw : IsWeb W) (hl : (numsS x).length ≤ 40000) : ∃ d, F__law_stream_fault [webD W, tupS x] = some d ∧ isNone d = goodS W x := by
  have hc := hw.count
  by_cases c : (numsS x).length = W.roads.length
  · refine ⟨_, l_faultX hw (bd_tup (by omega)) (by decide), ?_⟩
    unfold goodS
    rw [decide_eq_true c, Bool.true_and]
  · refine ⟨.tuple [.str "form"], ?_, ?_⟩
    · have ty : isTy .tuple (tupS x) = true := rfl
      have ln : lenP (tupS x) = some (natD (numsS x).length) := by
        show lenP (.tuple _) = _
        rw [q_len_t, List.length_map]
      have lr : lenP (.tuple (W.roads.map roadD)) = some (natD W.roads.length) := by rw [q_len_t, List.length_map]
      have a0 : atI [PyData.tuple (W.roads.map roadD), .tuple (W.gives.map natsD), .tuple (W.takes.map natsD)] 0 = some (.tuple (W.roads.map roadD)) := rfl
      have ne : neP (natD (numsS x).length) (natD W.roads.length) = some (.bool true) := by
        rw [neP_lay Lay.int Lay.int]
        congr 2
        show (!(((numsS x).length : Int) == (W.roads.length : Int))) = true
        have : (((numsS x).length : Int) == (W.roads.length : Int)) = false := by rw [beq_eq_false_iff_ne]; omega
        rw [this]
        rfl
      have fu : Uv.full (tupS x) = false := rfl
      refine eq_of_wp ?_
      unfold F__law_stream_fault
      refine wp_runP rfl ?_
      unfold X__law_stream_fault
      simp -implicitDefEqProofs [ty, ln, lr, a0, ne, fu]
    · unfold goodS
      rw [decide_eq_false c]
      rfl
end
end Fn

namespace Uv
open PySem PySem.Spec PyProof.Rows L2
def dropYK (ρ : Env) : PD → Option Out := fun d => match isExv d with
  | none => some (.nxt ρ)
  | some (n, x) => some (.ret (exvD n x) ρ)
end Uv
namespace Fn
open PySem PySem.Spec PyProof.Rows L2 Uv TL
section
variable {n m : Nat} {l : List Nat} {a b y s x w : Str} {W : Web} {f : List Int} {d : PD}
theorem p_checkS : F_check_text_b [.str x] = some .none := by
  have t : isTy .str (.str x) = true := rfl
  refine eq_of_wp ?_
  unfold F_check_text_b
  refine wp_runP rfl ?_
  unfold X_check_text_b
  simp -implicitDefEqProofs [t]
theorem q_sRv {k : Nat} {x : XE} {ρ : Uv.Env} : sRv k x ρ = (x (mk ρ)).bind fun d => some (.ret (exvD k d) ρ) := rfl
theorem p_checkN (t : isTy .str d = false) (fu : Uv.full d = false) : F_check_text_b [d] = some (exvD 0 .none) := by
  refine eq_of_wp ?_
  unfold F_check_text_b
  refine wp_runP rfl ?_
  unfold X_check_text_b
  simp -implicitDefEqProofs [t, fu, q_sRv]
theorem q_dropY {g : List PD → Option PD} {as : XA} {ρ : Uv.Env} : sDropY g as ρ = (as (mk ρ)).bind fun xs => (g xs).bind fun d => dropYK ρ d := by
  show (as (mk ρ)).bind _ = _
  congr 1
theorem drop_ok {ρ : Uv.Env} : dropYK ρ .none = some (.nxt ρ) := rfl
theorem drop_ex {k : Nat} {x : PD} {ρ : Uv.Env} : dropYK ρ (exvD k x) = some (.ret (exvD k x) ρ) := rfl
theorem p_readN (t : isTy .str d = false) (fu : Uv.full d = false) : F_read_stream_b [webD W, d] = some (exvD 0 .none) := by
  refine eq_of_wp ?_
  unfold F_read_stream_b
  refine wp_runP rfl ?_
  unfold X_read_stream_b
  simp -implicitDefEqProofs [q_dropY, p_checkN t fu, drop_ex]
theorem p_readS (hw : IsWeb W) (ha : Sg ascB x) (hl : x.length ≤ 10000) : F_read_stream_b [webD W, .str x] = some (if goodS W x = true then tupS x else exvD 0 (.int 0)) := by
  have wi := words_in ha
  have nl : (numsS x).length ≤ 40000 := by
    unfold numsS
    rw [List.length_map]
    have := wi.2
    omega
  obtain ⟨z, e1, e2⟩ := p_strF (W := W) (x := x) hw nl
  have et : PyData.tuple ((Txt.split x " ").map fun w => endD (wordN w)) = tupS x := by
    unfold tupS numsS
    rw [List.map_map]
    rfl
  have lw : (Txt.split x " ").length ≤ 40000 := by have := wi.2; omega
  refine eq_of_wp ?_
  unfold F_read_stream_b
  refine wp_runP rfl ?_
  unfold X_read_stream_b
  simp -implicitDefEqProofs [q_dropY, p_checkS, drop_ok, split_any hl]
  refine ⟨lw, wp_lcT (enc := PyData.str) (fun w : Str => endD (wordN w)) (fun w hw' => ?_) ?_⟩
  · have := wi.1 w hw'
    simp -implicitDefEqProofs [p_word this.1 (by omega)]
  simp -implicitDefEqProofs
  rw [et]
  simp -implicitDefEqProofs [e1]
  rw [e2]
  cases goodS W x with
  | true => simp -implicitDefEqProofs
  | false => simp -implicitDefEqProofs [q_sRv]
end
end Fn

namespace Fn
open PySem PySem.Spec PyProof.Rows L2 Uv TL
section
variable {n m : Nat} {l : List Nat} {a b y s x w : Str} {W : Web} {f : List Int} {d : PD}
def noD (d : PD) : PD := .list [.str "no", d]
def resS (W : Web) (x : Str) : PD := if goodS W x = true then .list [.str "stream", tupS x] else noD (.int 0)
def asgLK (w : Str) (j : Nat) (ρ : Uv.Env) : PD → Option Out := fun d => match isExv d with
  | none => some (.nxt (ρ.set j (.dat (.list [.str w, d]))))
  | some (n, y) => some (.ret (exvD n y) ρ)
theorem q_asgL {w : Str} {x : XE} {j : Nat} {ρ : Uv.Env} : sAsgL w x j ρ = (x (mk ρ)).bind (asgLK w j ρ) := by
  show (x (mk ρ)).bind _ = _
  congr 1
def tryVK (cs : List Nat) (i j m : Nat) : Out → Option Out := fun o => match o with
  | .ret d ρ' => (match isExv d with
    | some (n, x) => if n ∈ cs ∧ ρ'.length = m then some (.nxt ((ρ'.set i .un).set j (.dat (.list [.str "no", x])))) else none
    | none => none)
  | .nxt ρ' => some (.nxt ρ')
  | _ => none
theorem q_tryV {y : XS} {cs : List Nat} {i j m : Nat} {ρ : Uv.Env} : sTryV y cs i j m ρ = (y ρ).bind (tryVK cs i j m) := by
  show (y ρ).bind _ = _
  congr 1
theorem told_ex {k : PD} (h : F_read_stream_b [webD W, d] = some (exvD 0 k)) : F__law_told_r [webD W, d] = some (noD k) := by
  refine eq_of_wp ?_
  unfold F__law_told_r
  refine wp_runP rfl ?_
  unfold X__law_told_r
  have e1 : asgLK "stream" 2 [.dat (webD W), .dat d, .dat .none, .un] (exvD 0 k) = some (.ret (exvD 0 k) [.dat (webD W), .dat d, .dat .none, .un]) := rfl
  have e2 : tryVK [0] 3 2 4 (.ret (exvD 0 k) [.dat (webD W), .dat d, .dat .none, .un]) = some (.nxt [.dat (webD W), .dat d, .dat (.list [.str "no", k]), .un]) := rfl
  simp -implicitDefEqProofs [q_tryV, q_asgL, h, e1, e2]
  rfl
theorem told_ok {k : PD} (h : F_read_stream_b [webD W, d] = some k) (nk : isExv k = none) : F__law_told_r [webD W, d] = some (.list [.str "stream", k]) := by
  refine eq_of_wp ?_
  unfold F__law_told_r
  refine wp_runP rfl ?_
  unfold X__law_told_r
  have e1 : asgLK "stream" 2 [.dat (webD W), .dat d, .dat .none, .un] k = some (.nxt [.dat (webD W), .dat d, .dat (.list [.str "stream", k]), .un]) := by
    unfold asgLK
    rw [nk]
    rfl
  have e2 : tryVK [0] 3 2 4 (.nxt [.dat (webD W), .dat d, .dat (.list [.str "stream", k]), .un]) = some (.nxt [.dat (webD W), .dat d, .dat (.list [.str "stream", k]), .un]) := rfl
  simp -implicitDefEqProofs [q_tryV, q_asgL, h, e1, e2]
theorem told_N (t : isTy .str d = false) (fu : Uv.full d = false) : F__law_told_r [webD W, d] = some (noD .none) := told_ex (p_readN t fu)
theorem told_S (hw : IsWeb W) (ha : Sg ascB x) (hl : x.length ≤ 10000) : F__law_told_r [webD W, .str x] = some (resS W x) := by
  have h := p_readS hw ha hl
  unfold resS
  by_cases g : goodS W x = true
  · rw [if_pos g] at h ⊢
    exact told_ok h rfl
  · rw [if_neg g] at h ⊢
    exact told_ex h
theorem due_N (t : isTy .str d = false) (fu : Uv.full d = false) : F__law_due_f [webD W, d] = some (noD .none) := by
  refine eq_of_wp ?_
  unfold F__law_due_f
  refine wp_runP rfl ?_
  unfold X__law_due_f
  simp -implicitDefEqProofs [t, fu]
  rfl
theorem good_some (h : none ∈ numsS x) : goodS W x = false := by
  unfold goodS
  rw [Bool.and_eq_false_iff]
  right
  have : asI W.roads.length (tupS x) = none := by
    show (if _ ∧ ((numsS x).map endD).all isNN = true then _ else none) = _
    rw [if_neg]
    intro z
    have := List.all_eq_true.mp z.2 _ (List.mem_map_of_mem h)
    exact nomatch this
  unfold faultD
  rw [this]
  rfl
theorem in_none {os : List (Option Nat)} : inP .none (.list (os.map endD)) = some (.bool (os.contains none)) := in_endL (o := none)
theorem due_S (hw : IsWeb W) (ha : Sg ascB x) (hl : x.length ≤ 10000) : F__law_due_f [webD W, .str x] = some (resS W x) := by
  have wi := words_in ha
  have nl : (numsS x).length ≤ 40000 := by
    unfold numsS
    rw [List.length_map]
    have := wi.2
    omega
  obtain ⟨z, e1, e2⟩ := l_strF (W := W) (x := x) hw nl
  have et : ((Txt.split x " ").map fun w => endD (wordN w)) = (numsS x).map endD := by
    unfold numsS
    rw [List.map_map]
    rfl
  have et2 : PyData.tuple ((numsS x).map endD) = tupS x := rfl
  have lw : (Txt.split x " ").length ≤ 40000 := by have := wi.2; omega
  have pw : subP (.int 10000000000000) (.int 1) = some (.int 9999999999999) := rfl
  have t : isTy .str (.str x) = true := rfl
  refine eq_of_wp ?_
  unfold F__law_due_f
  refine wp_runP rfl ?_
  unfold X__law_due_f
  simp -implicitDefEqProofs [t, split_any hl]
  refine ⟨lw, wp_lcT (enc := PyData.str) (fun w : Str => endD (wordN w)) (fun w hw' => ?_) ?_⟩
  · have := wi.1 w hw'
    simp -implicitDefEqProofs [l_word this.1 (by omega)]
  rw [et]
  simp -implicitDefEqProofs [in_none]
  rw [et2, e1]
  unfold resS
  by_cases c : none ∈ numsS x
  · rw [decide_eq_true c, good_some c]
    simp -implicitDefEqProofs
    rfl
  · rw [decide_eq_false c]
    simp -implicitDefEqProofs
    rw [e2]
    cases goodS W x with
    | true =>
      simp -implicitDefEqProofs
      rfl
    | false =>
      simp -implicitDefEqProofs
      rfl
end
end Fn

namespace Fn
open PySem PySem.Spec PyProof.Rows L2 Uv TL
section
variable {n m k : Nat} {l : List Nat} {a b y s x w : Str} {W : Web} {f : List Int} {d : PD}
theorem tl_rev : tl (revS x) = (tl x).reverse := by
  show (Builtin.Str.strSliceIndices none none (-1) x.length).filterMap (x.cps[·]?) = _
  have e : Builtin.Str.strSliceIndices none none (-1) x.length = sliceRange ((x.length : Int) - 1) (-1) (-1) := rfl
  rw [e, PySem.W.krv_sliceRange, PySem.W.krv_range, List.filterMap_reverse]
  have := PySem.W.krv_all x.cps
  rw [show x.length = x.cps.size from rfl, this]
theorem rev_len : (revS x).length = x.length := by rw [len_tl, len_tl, tl_rev, List.length_reverse]
theorem asc_rev (h : Sg ascB x) : Sg ascB (revS x) := fun c hc => by
  rw [tl_rev] at hc
  exact h c (List.mem_reverse.mp hc)
theorem asc_cut {lo hi : Option Int} (h : Sg ascB x) : Sg ascB (cutS x lo hi) := fun c hc => h c (List.mem_of_mem_drop (List.mem_of_mem_take (show c ∈ ((tl x).drop _).take _ from hc)))
theorem dbl_in : ∀ (l : List Nat), (∀ c ∈ StrLaws.dbl 32 l, c ∈ l) ∧ (StrLaws.dbl 32 l).length ≤ 2 * l.length
  | [] => ⟨fun c h => h, Nat.le_refl _⟩
  | k :: r => by
    have ih := dbl_in r
    unfold StrLaws.dbl
    split
    · refine ⟨fun c hc => ?_, ?_⟩
      · rcases List.mem_cons.mp hc with rfl | hc
        · exact List.mem_cons_self ..
        · rcases List.mem_cons.mp hc with rfl | hc
          · exact List.mem_cons_self ..
          · exact List.mem_cons_of_mem _ (ih.1 c hc)
      · have := ih.2
        simp
        omega
    · refine ⟨fun c hc => ?_, ?_⟩
      · rcases List.mem_cons.mp hc with rfl | hc
        · exact List.mem_cons_self ..
        · exact List.mem_cons_of_mem _ (ih.1 c hc)
      · have := ih.2
        simp
        omega
theorem tl_repl : tl (Txt.replace x " " "  ") = StrLaws.dbl 32 (tl x) := StrLaws.replace_double x 32
theorem asc_repl (h : Sg ascB x) : Sg ascB (Txt.replace x " " "  ") := fun c hc => by
  rw [tl_repl] at hc
  exact h c ((dbl_in _).1 c hc)
theorem repl_len : (Txt.replace x " " "  ").length ≤ 2 * x.length := by
  rw [len_tl, len_tl, tl_repl]
  exact (dbl_in _).2
theorem q_xSlS {a : XE} {lo hi : XO} {v : VE} : xSlS a lo hi v = (a v).bind fun d => (lo v).bind fun l => (hi v).bind fun h => slS d l h := rfl
theorem sl_s {lo hi : Option Int} (h : x.length ≤ 16000000) : slS (.str x) lo hi = some (.str (cutS x lo hi)) := if_pos h
theorem signs15 : ∀ r, r < 15 → ∃ c, c < 128 ∧ ixT (.str " -,0123456789\nx") (natD r) = some (.str ⟨#[c]⟩) := fun r hr => by
  have hl : (tl (" -,0123456789\nx" : Str)).length = 15 := by decide
  have hz : (" -,0123456789\nx" : Str).length ≤ 16000000 := by rw [len_tl, hl]; decide
  refine ⟨(tl (" -,0123456789\nx" : Str))[r]'(by omega), ?_, ?_⟩
  · have : ∀ c ∈ tl (" -,0123456789\nx" : Str), c < 128 := by decide +kernel
    exact this _ (List.getElem_mem _)
  · show (if (" -,0123456789\nx" : Str).length ≤ 16000000 then (L2.atI (tl (" -,0123456789\nx" : Str)) (r : Int)).map (fun c => PyData.str ⟨#[c]⟩) else none) = _
    rw [if_pos hz, atI_at (show r < (tl (" -,0123456789\nx" : Str)).length by omega)]
    rfl
theorem a_bent79 {b : Nat} {cs : List Cel} {Q : PD × List Cel → Prop} (h : DkA b cs) (hb : b + 10 ≤ 2 ^ 40) (ha : Sg ascB x) (hl : x.length ≤ 1000) (hq : ∀ y cs', Sg ascB y → y.length ≤ 5000 → DkA (b + 10) cs' → Q (.str y, cs')) : wp (F__law_bent_text cs [.str x]) (tag Q) := by
  have g : lenT (.str x) = some (natD x.length) := if_pos (by omega)
  have p1 : ∀ k : Nat, addX (natD k) (.int 1) = some (natD (k + 1)) := fun k => rfl
  unfold F__law_bent_text
  refine wp_runW rfl ?_
  unfold X__law_bent_text
  simp -implicitDefEqProofs [g, p1]
  refine a_next (m := ((x.length + 1 : Nat) : Int)) h (by omega) (by omega) (by omega) fun at_ cs1 hr d1 => ?_
  simp -implicitDefEqProofs
  refine a_next (m := 15) d1 (by omega) (by omega) (by omega) fun r cs2 hr2 d2 => ?_
  obtain ⟨c, hc, e15⟩ := signs15 r (by omega)
  obtain ⟨s, hs⟩ : ∃ s : Str, s = ⟨#[c]⟩ := ⟨_, rfl⟩
  rw [← hs] at e15
  have sl : s.length = 1 := by rw [hs]; rfl
  have sa : Sg ascB s := fun k hk => by
    rw [hs] at hk
    have : k = c := List.mem_singleton.mp hk
    rw [this]
    exact decide_eq_true hc
  obtain ⟨A, hA⟩ : ∃ A, A = cutS x none (some (at_ : Int)) := ⟨_, rfl⟩
  obtain ⟨B, hB⟩ : ∃ B, B = cutS x (some (at_ : Int)) none := ⟨_, rfl⟩
  obtain ⟨C, hC⟩ : ∃ C, C = cutS x (some ((at_ : Int) + 1)) none := ⟨_, rfl⟩
  have sA : slS (.str x) none (some (at_ : Int)) = some (.str A) := by rw [hA]; exact sl_s (by omega)
  have sB : slS (.str x) (some (at_ : Int)) none = some (.str B) := by rw [hB]; exact sl_s (by omega)
  have sC : slS (.str x) (some ((at_ : Int) + 1)) none = some (.str C) := by rw [hC]; exact sl_s (by omega)
  have lA : A.length ≤ x.length := by rw [hA]; exact cutS_length ..
  have lB : B.length ≤ x.length := by rw [hB]; exact cutS_length ..
  have lC : C.length ≤ x.length := by rw [hC]; exact cutS_length ..
  have aA : Sg ascB A := by rw [hA]; exact asc_cut ha
  have aB : Sg ascB B := by rw [hB]; exact asc_cut ha
  have aC : Sg ascB C := by rw [hC]; exact asc_cut ha
  have l2 : (" 0" : Str).length = 2 := by decide
  have l1 : ("\n" : Str).length = 1 := by decide
  have l1b : (" " : Str).length = 1 := by decide
  have l1c : ("0" : Str).length = 1 := by decide
  have l2d : ("  " : Str).length = 2 := by decide
  have rl := repl_len (x := x)
  have vl := rev_len (x := x)
  have x1 := add_s (a := A) (b := s) (by omega)
  have x2 := add_s (a := A ++ s) (b := B) (by rw [len_app]; omega)
  have x3 := add_s (a := A ++ s) (b := C) (by rw [len_app]; omega)
  have x4 := add_s (a := A) (b := C) (by omega)
  have x5 := add_s (a := x) (b := " 0") (by omega)
  have y1 := add_s (a := x) (b := "\n") (by omega)
  have y2 := add_s (a := " ") (b := x) (by omega)
  have y3 : replT " " "  " (.str x) = some (.str (Txt.replace x " " "  ")) := if_pos (by rw [l2d]; omega)
  have y4 : revT (.str x) = some (.str (revS x)) := if_pos ⟨by omega, by omega⟩
  have y5 := add_s (a := "0") (b := x) (by omega)
  have y7 := add_s (a := x) (b := " ") (by omega)
  have ad : ∀ xs ys : List PD, xs.length ≤ 100 → ys.length ≤ 100 → addX (.list xs) (.list ys) = some (.list (xs ++ ys)) := fun xs ys h1 h2 => if_pos (by omega)
  have ad1 := ad [.str (A ++ s ++ B), .str (A ++ s ++ C), .str (A ++ C), .str (x ++ " 0")] [.str (x ++ "\n"), .str (" " ++ x), .str (Txt.replace x " " "  "), .str (revS x), .str ("0" ++ x), .str A, .str (x ++ " ")] (by simp) (by simp)
  have eL : [PyData.str (A ++ s ++ B), .str (A ++ s ++ C), .str (A ++ C), .str (x ++ " 0")] ++ [.str (x ++ "\n"), .str (" " ++ x), .str (Txt.replace x " " "  "), .str (revS x), .str ("0" ++ x), .str A, .str (x ++ " ")] = ([A ++ s ++ B, A ++ s ++ C, A ++ C, x ++ " 0", x ++ "\n", " " ++ x, Txt.replace x " " "  ", revS x, "0" ++ x, A, x ++ " "] : List Str).map PyData.str := rfl
  rw [eL] at ad1
  have all : ∀ y ∈ ([A ++ s ++ B, A ++ s ++ C, A ++ C, x ++ " 0", x ++ "\n", " " ++ x, Txt.replace x " " "  ", revS x, "0" ++ x, A, x ++ " "] : List Str), Sg ascB y ∧ y.length ≤ 5000 := fun y hy => by
    simp only [List.mem_cons, List.not_mem_nil, or_false] at hy
    rcases hy with rfl | rfl | rfl | rfl | rfl | rfl | rfl | rfl | rfl | rfl | rfl
    · exact ⟨(aA.app sa).app aB, by rw [len_app, len_app]; omega⟩
    · exact ⟨(aA.app sa).app aC, by rw [len_app, len_app]; omega⟩
    · exact ⟨aA.app aC, by rw [len_app]; omega⟩
    · exact ⟨ha.app (sg_lit (by decide)), by rw [len_app]; omega⟩
    · exact ⟨ha.app (sg_lit (by decide)), by rw [len_app]; omega⟩
    · exact ⟨(sg_lit (by decide)).app ha, by rw [len_app]; omega⟩
    · exact ⟨asc_repl ha, by omega⟩
    · exact ⟨asc_rev ha, by omega⟩
    · exact ⟨(sg_lit (by decide)).app ha, by rw [len_app]; omega⟩
    · exact ⟨aA, by omega⟩
    · exact ⟨ha.app (sg_lit (by decide)), by rw [len_app]; omega⟩
  obtain ⟨Y, hY⟩ : ∃ Y : List Str, Y = [A ++ s ++ B, A ++ s ++ C, A ++ C, x ++ " 0", x ++ "\n", " " ++ x, Txt.replace x " " "  ", revS x, "0" ++ x, A, x ++ " "] := ⟨_, rfl⟩
  rw [← hY] at ad1 all
  have Yl : Y.length = 11 := by rw [hY]; rfl
  simp -implicitDefEqProofs [e15, q_xSlS, p1, sA, sB, sC, x1, x2, x3, x4, x5, y1, y2, y3, y4, y5, y7, ad1]
  refine a_one d2 (by omega) (by intro z; rw [z] at Yl; simp at Yl) (by omega) fun y hy cs3 d3 => ?_
  simp -implicitDefEqProofs
  exact hq y cs3 (all y hy).1 (all y hy).2 (d3.mono (by omega))
end
end Fn

namespace Fn
open PySem PySem.Spec PyProof.Rows L2 Uv TL
section
variable {x : Str} {W : Web} {f : List Int} {d : PD}
theorem sho_end79 {o : Option Nat} (h : ∀ n, o = some n → n < 10 ^ 13) : Sho 1 60 (endD o) := (lf_end h).sho
theorem sho_w79 {w : Str} (h : lfB (.str w) = true) : Sho 1 60 (.str w) := (Lf.of h).sho
theorem sho_noN : Sho 60 10000000 (noD .none) := (Sho.lst (k := 1) (n := 60) (L := 2) (fun d hd => by
  simp only [List.mem_cons, List.not_mem_nil, or_false] at hd
  rcases hd with rfl | rfl
  · exact sho_w79 (by decide +kernel)
  · exact sho_end79 (o := none) fun n e => nomatch e) (by simp)).mono (by decide) (by decide)
theorem sho_no0 : Sho 60 10000000 (noD (.int 0)) := (Sho.lst (k := 1) (n := 60) (L := 2) (fun d hd => by
  simp only [List.mem_cons, List.not_mem_nil, or_false] at hd
  rcases hd with rfl | rfl
  · exact sho_w79 (by decide +kernel)
  · exact sho_end79 (o := some 0) fun n e => by cases e; decide) (by simp)).mono (by decide) (by decide)
theorem sho_res (hw : IsWeb W) : Sho 60 10000000 (resS W x) := by
  have hc := hw.count
  unfold resS
  by_cases g : goodS W x = true
  · rw [if_pos g]
    have hl : (numsS x).length = W.roads.length := by
      unfold goodS at g
      rw [Bool.and_eq_true, decide_eq_true_iff] at g
      exact g.1
    refine (Sho.lst (k := 2) (n := 2000) (L := 2) (fun d hd => ?_) (by simp)).mono (by decide) (by decide)
    simp only [List.mem_cons, List.not_mem_nil, or_false] at hd
    rcases hd with rfl | rfl
    · exact (sho_w79 (by decide +kernel)).mono (by decide) (by decide)
    · refine (Sho.tup (k := 1) (n := 60) (L := 20) (fun d hd => ?_) (by rw [List.length_map]; omega)).mono (by decide) (by decide)
      obtain ⟨o, ho, rfl⟩ := List.mem_map.mp hd
      obtain ⟨w, hw', rfl⟩ := List.mem_map.mp ho
      exact sho_end79 fun n e => wordN_lt e
  · rw [if_neg g]
    exact sho_no0
def Ask (d : PD) : Prop := (∃ y, d = .str y ∧ Sg ascB y ∧ y.length ≤ 5000) ∨ (isTy .str d = false ∧ Uv.full d = false)
theorem ask_ok (hw : IsWeb W) (h : Ask d) : ∃ r, F__law_told_r [webD W, d] = some r ∧ F__law_due_f [webD W, d] = some r ∧ Sho 60 10000000 r := by
  rcases h with ⟨y, rfl, ha, hl⟩ | ⟨t, fu⟩
  · exact ⟨_, told_S hw ha (by omega), due_S hw ha (by omega), sho_res hw⟩
  · exact ⟨_, told_N t fu, due_N t fu, sho_noN⟩
end
theorem k79 (ns : List Int) (h : ns.length ≤ 63) : F_law_z175 [scrD (ns.map PyData.int)] = some (.bool true) := by
  refine eq_of_wp ?_
  unfold F_law_z175
  refine wp_runP rfl ?_
  unfold X_law_z175
  simp -implicitDefEqProofs
  refine a_deck h fun cs dk => ?_
  simp -implicitDefEqProofs
  refine wp_forR (fun i ρ => ∃ (cs : List Cel) (z2 z3 z4 z5 z6 z7 z8 : Sl), ρ = [.dat (scrD (ns.map PyData.int)), .own cs, z2, z3, z4, z5, z6, z7, z8, .un] ∧ DkA (4000 * i) cs) ⟨cs, _, _, _, _, _, _, _, rfl, dk⟩ ?_ ?_
  · rintro i hi ρ ⟨cs, z2, z3, z4, z5, z6, z7, z8, rfl, d⟩
    unfold X_law_z175_b3
    simp -implicitDefEqProofs
    refine a_next d (by omega) (by omega) (by omega) fun r cs1 hr d1 => ?_
    simp -implicitDefEqProofs
    refine a_web (most := 8) (many := 20) d1 (by omega) (by omega) (by omega) (by omega) (by omega) fun W cs2 hw d2 => ?_
    simp -implicitDefEqProofs
    refine a_next (m := 6) d2 (by omega) (by omega) (by omega) fun s cs3 hs d3 => ?_
    simp -implicitDefEqProofs
    refine a_streamN d3 (by omega) hw (by omega) fun f cs4 hf d4 => ?_
    obtain ⟨fl, f1, fx⟩ := stm_lim hw hf
    have j := join_strm fx fl
    have e : (f.map fun x : Int => PyData.str (numS x.toNat)) = (f.map fun x => numS x.toNat).map PyData.str := by rw [List.map_map]; rfl
    rw [← e] at j
    simp -implicitDefEqProofs
    refine ⟨by omega, wp_lcT (fun x : Int => .str (numS x.toNat)) (fun x hx => ?_) ?_⟩
    · obtain ⟨h0, h1, h2⟩ := fx x hx
      rw [h2]
      simp -implicitDefEqProofs [s_num h1]
    simp -implicitDefEqProofs [j]
    have tl1 := len_strm fx fl
    have ta : Sg ascB (strmS f) := asc_strm
    have nt : ∀ d : PD, isTy .str d = false → Uv.full d = false → Ask d := fun d h1 h2 => .inr ⟨h1, h2⟩
    refine wp_forR (fun k ρ => ∃ (cs : List Cel) (ds : List PD) (z7 z8 : Sl), ρ = [.dat (scrD (ns.map PyData.int)), .own cs, .dat (natD i), .dat (webD W), .dat (intsD f), .dat (.str (strmS f)), .own (dats ds), z7, z8, .un] ∧ DkA (4000 * i + 1 + 1000 + 1 + 1000 + 10 * k) cs ∧ (∀ d ∈ ds, Ask d) ∧ ds.length = 9 + k) ⟨cs4, [.str (strmS f), .str "", .str "-", .none, .int 0, .bool true, intsD f, .list [.str (strmS f)], .dict []], _, _, rfl, d4, fun d hd => ?_, rfl⟩ ?_ ?_
    · simp only [List.mem_cons, List.not_mem_nil, or_false] at hd
      rcases hd with rfl | rfl | rfl | rfl | rfl | rfl | rfl | rfl | rfl
      · exact .inl ⟨_, rfl, ta, by omega⟩
      · exact .inl ⟨_, rfl, sg_lit (by decide), by decide⟩
      · exact .inl ⟨_, rfl, sg_lit (by decide), by decide⟩
      · exact nt _ rfl rfl
      · exact nt _ rfl rfl
      · exact nt _ rfl rfl
      · exact nt _ rfl rfl
      · exact nt _ rfl rfl
      · exact nt _ rfl rfl
    · rintro k hk ρ ⟨cs5, ds, z7, z8, rfl, d5, ok, dl⟩
      unfold X_law_z175_b1
      simp -implicitDefEqProofs
      refine a_bent79 d5 (by omega) ta tl1.2 fun y cs6 ya yl d6 => ?_
      simp -implicitDefEqProofs
      refine ⟨by omega, cs6, ds ++ [.str y], _, _, rfl, d6.mono (by omega), fun d hd => ?_, by simp; omega⟩
      rcases List.mem_append.mp hd with z | z
      · exact ok d z
      · rw [List.mem_singleton.mp z]
        exact .inl ⟨_, rfl, ya, yl⟩
    · rintro ρ ⟨cs5, ds, z7, z8, rfl, d5, ok, dl⟩
      simp -implicitDefEqProofs
      refine wp_for (fun k ρ => ∃ z8 : Sl, ρ = [.dat (scrD (ns.map PyData.int)), .own cs5, .dat (natD i), .dat (webD W), .dat (intsD f), .dat (.str (strmS f)), .dat (.list ds), z7, z8, .un]) ⟨_, rfl⟩ ?_ ?_
      · rintro k hk ρ ⟨z8, rfl⟩
        obtain ⟨r, e1, e2, sh⟩ := ask_ok hw (ok _ (List.getElem_mem hk))
        have rp := rp_of sh
        have ne := ne_shown sh
        unfold X_law_z175_b2
        simp -implicitDefEqProofs [e1, e2, rp, ne]
        exact ⟨_, rfl⟩
      · rintro ρ ⟨z8, rfl⟩
        simp -implicitDefEqProofs
        exact ⟨cs5, _, _, _, _, _, _, _, rfl, d5.mono (by omega)⟩
  · rintro ρ ⟨cs, z2, z3, z4, z5, z6, z7, z8, rfl, d⟩
    simp -implicitDefEqProofs
end Fn


namespace Row
open PySem PySem.Spec PyProof.Rows L2 Uv Fn
def topS (i : Nat) : Stmt := PySem.Challenge.pw_unturned_k79_texts_of_no_streams.main.body.getD i (.Pass ⟨0, 0, 0, 0⟩)
abbrev s__law_next : Stmt := topS 21
abbrev N__law_next : List Str := ["_law_deck_here", "_law_many", "_law_rest", "_law_cell", "_law_mixed"]
theorem sc__law_next : FnScope N__law_next ["_law_deck_here", "_law_many"] (defScope s__law_next) := ⟨rfl, rfl, rfl, by decide +kernel, rfl, by decide +kernel, by decide +kernel⟩
abbrev s__law_one : Stmt := topS 22
abbrev N__law_one : List Str := ["_law_deck_here", "_law_some"]
theorem sc__law_one : FnScope N__law_one ["_law_deck_here", "_law_some"] (defScope s__law_one) := ⟨rfl, rfl, rfl, by decide +kernel, rfl, by decide +kernel, by decide +kernel⟩
abbrev s__law_bent_text : Stmt := topS 33
abbrev N__law_bent_text : List Str := ["_law_deck_here", "_law_text", "_law_at", "_law_sign", "_law_some"]
theorem sc__law_bent_text : FnScope N__law_bent_text ["_law_deck_here", "_law_text"] (defScope s__law_bent_text) := ⟨rfl, rfl, rfl, by decide +kernel, rfl, by decide +kernel, by decide +kernel⟩
abbrev s__law_deck : Stmt := topS 20
abbrev N__law_deck : List Str := ["_law_script", "_law_cells", "_law_cell"]
theorem sc__law_deck : FnScope N__law_deck ["_law_script"] (defScope s__law_deck) := ⟨rfl, rfl, rfl, by decide +kernel, rfl, by decide +kernel, by decide +kernel⟩
abbrev s__law_number_in : Stmt := topS 32
abbrev N__law_number_in : List Str := ["_law_word", "_law_most", "_law_sign"]
theorem sc__law_number_in : FnScope N__law_number_in ["_law_word", "_law_most"] (defScope s__law_number_in) := ⟨rfl, rfl, rfl, by decide +kernel, rfl, by decide +kernel, by decide +kernel⟩
abbrev s__law_sum : Stmt := topS 30
abbrev N__law_sum : List Str := ["_law_web_here", "_law_bears", "_law_side", "_law_house", "_law_k"]
theorem sc__law_sum : FnScope N__law_sum ["_law_web_here", "_law_bears", "_law_side", "_law_house"] (defScope s__law_sum) := ⟨rfl, rfl, rfl, by decide +kernel, rfl, by decide +kernel, by decide +kernel⟩
abbrev s__law_whole : Stmt := topS 29
abbrev N__law_whole : List Str := ["_law_thing"]
theorem sc__law_whole : FnScope N__law_whole ["_law_thing"] (defScope s__law_whole) := ⟨rfl, rfl, rfl, by decide +kernel, rfl, by decide +kernel, by decide +kernel⟩
abbrev s__law_stream_fault : Stmt := topS 31
abbrev N__law_stream_fault : List Str := ["_law_web_here", "_law_thing", "_law_k", "_law_house", "_law_one_here"]
theorem sc__law_stream_fault : FnScope N__law_stream_fault ["_law_web_here", "_law_thing"] (defScope s__law_stream_fault) := ⟨rfl, rfl, rfl, by decide +kernel, rfl, by decide +kernel, by decide +kernel⟩
abbrev s__law_due : Stmt := topS 34
abbrev N__law_due : List Str := ["_law_web_here", "_law_thing", "_law_numbers", "_law_word"]
theorem sc__law_due : FnScope N__law_due ["_law_web_here", "_law_thing"] (defScope s__law_due) := ⟨rfl, rfl, rfl, by decide +kernel, rfl, by decide +kernel, by decide +kernel⟩
abbrev s__law_round : Stmt := topS 27
abbrev N__law_round : List Str := ["_law_deck_here", "_law_web_here", "_law_bears", "_law_lit", "_law_begins", "_law_row", "_law_seen", "_law_house", "_law_further", "_law_end", "_law_k"]
theorem sc__law_round : FnScope N__law_round ["_law_deck_here", "_law_web_here", "_law_bears"] (defScope s__law_round) := ⟨rfl, rfl, rfl, by decide +kernel, rfl, by decide +kernel, by decide +kernel⟩
abbrev s__law_stream : Stmt := topS 28
abbrev N__law_stream : List Str := ["_law_deck_here", "_law_web_here", "_law_several", "_law_bears", "_law_turn", "_law_row", "_law_most", "_law_many", "_law_k"]
theorem sc__law_stream : FnScope N__law_stream ["_law_deck_here", "_law_web_here", "_law_several"] (defScope s__law_stream) := ⟨rfl, rfl, rfl, by decide +kernel, rfl, by decide +kernel, by decide +kernel⟩
abbrev s_check_text : Stmt := topS 16
abbrev N_check_text : List Str := ["thing"]
theorem sc_check_text : FnScope N_check_text ["thing"] (defScope s_check_text) := ⟨rfl, rfl, rfl, by decide +kernel, rfl, by decide +kernel, by decide +kernel⟩
abbrev s_number_in : Stmt := topS 17
abbrev N_number_in : List Str := ["word"]
theorem sc_number_in : FnScope N_number_in ["word"] (defScope s_number_in) := ⟨rfl, rfl, rfl, by decide +kernel, rfl, by decide +kernel, by decide +kernel⟩
abbrev s_borne : Stmt := topS 10
abbrev N_borne : List Str := ["bears", "numbers", "number"]
theorem sc_borne : FnScope N_borne ["bears", "numbers"] (defScope s_borne) := ⟨rfl, rfl, rfl, by decide +kernel, rfl, by decide +kernel, by decide +kernel⟩
abbrev s_is_number : Stmt := topS 8
abbrev N_is_number : List Str := ["thing"]
theorem sc_is_number : FnScope N_is_number ["thing"] (defScope s_is_number) := ⟨rfl, rfl, rfl, by decide +kernel, rfl, by decide +kernel, by decide +kernel⟩
abbrev s_is_tuple_of : Stmt := topS 9
abbrev N_is_tuple_of : List Str := ["thing", "least", "most"]
theorem sc_is_tuple_of : FnScope N_is_tuple_of ["thing", "least", "most"] (defScope s_is_tuple_of) := ⟨rfl, rfl, rfl, by decide +kernel, rfl, by decide +kernel, by decide +kernel⟩
abbrev s_is_form : Stmt := topS 13
abbrev N_is_form : List Str := ["thing", "many", "bears"]
theorem sc_is_form : FnScope N_is_form ["thing", "many"] (defScope s_is_form) := ⟨rfl, rfl, rfl, by decide +kernel, rfl, by decide +kernel, by decide +kernel⟩
abbrev s_streamfault : Stmt := topS 12
abbrev N_streamfault : List Str := ["web", "thing", "roads", "gives", "takes", "road", "bears", "house", "order"]
theorem sc_streamfault : FnScope N_streamfault ["web", "thing"] (defScope s_streamfault) := ⟨rfl, rfl, rfl, by decide +kernel, rfl, by decide +kernel, by decide +kernel⟩
abbrev s_read_stream : Stmt := topS 18
abbrev N_read_stream : List Str := ["web", "thing", "stream", "word"]
theorem sc_read_stream : FnScope N_read_stream ["web", "thing"] (defScope s_read_stream) := ⟨rfl, rfl, rfl, by decide +kernel, rfl, by decide +kernel, by decide +kernel⟩
abbrev s__law_told : Stmt := topS 35
abbrev N__law_told : List Str := ["_law_web_here", "_law_thing", "_law_found", "e"]
theorem sc__law_told : FnScope N__law_told ["_law_web_here", "_law_thing"] (defScope s__law_told) := ⟨rfl, rfl, rfl, by decide +kernel, rfl, by decide +kernel, by decide +kernel⟩
abbrev s__law_order : Stmt := topS 24
abbrev N__law_order : List Str := ["_law_deck_here", "_law_numbers", "_law_found", "_law_number"]
theorem sc__law_order : FnScope N__law_order ["_law_deck_here", "_law_numbers"] (defScope s__law_order) := ⟨rfl, rfl, rfl, by decide +kernel, rfl, by decide +kernel, by decide +kernel⟩
abbrev s__law_room : Stmt := topS 23
abbrev N__law_room : List Str := ["_law_deck_here", "_law_far", "_law_small", "_law_great"]
theorem sc__law_room : FnScope N__law_room ["_law_deck_here", "_law_far"] (defScope s__law_room) := ⟨rfl, rfl, rfl, by decide +kernel, rfl, by decide +kernel, by decide +kernel⟩
abbrev s__law_road : Stmt := topS 25
abbrev N__law_road : List Str := ["_law_deck_here", "_law_houses", "_law_far", "_law_one_here", "_law_other", "_law_begin", "_law_end", "_law_number"]
theorem sc__law_road : FnScope N__law_road ["_law_deck_here", "_law_houses", "_law_far"] (defScope s__law_road) := ⟨rfl, rfl, rfl, by decide +kernel, rfl, by decide +kernel, by decide +kernel⟩
abbrev s__law_web : Stmt := topS 26
abbrev N__law_web : List Str := ["_law_deck_here", "_law_houses", "_law_roads", "_law_far", "_law_count", "_law_found", "_law_orders", "_law_side", "_law_rows", "_law_house", "_law_k"]
theorem sc__law_web : FnScope N__law_web ["_law_deck_here", "_law_houses", "_law_roads", "_law_far"] (defScope s__law_web) := ⟨rfl, rfl, rfl, by decide +kernel, rfl, by decide +kernel, by decide +kernel⟩
abbrev s_law : Stmt := topS 36
abbrev N_law : List Str := ["_law_script", "_law_deck_here", "_law_turn", "_law_web_here", "_law_stream_here", "_law_text", "_law_things", "_law_k", "_law_thing", "_law_number"]
theorem sc_law : FnScope N_law ["_law_script"] (defScope s_law) := ⟨rfl, rfl, rfl, by decide +kernel, rfl, by decide +kernel, by decide +kernel⟩
def clsBody0 : Stmt → List Stmt
  | .ClassDef (body := b) .. => b
  | _ => []
abbrev s_init : Stmt := (clsBody0 (topS 6)).getD 0 (.Pass ⟨0, 0, 0, 0⟩)
theorem fnScope_init : FnScope ["self", "line"] ["self", "line"] (defScope s_init) := ⟨rfl, rfl, rfl, by decide +kernel, rfl, by decide +kernel, by decide +kernel⟩
structure Bm (mg : Str → Option Value) : Prop where
  n_abs : mg "abs" = none
  n_all : mg "all" = none
  n_bool : mg "bool" = none
  n_enumerate : mg "enumerate" = none
  n_int : mg "int" = none
  n_isinstance : mg "isinstance" = none
  n_len : mg "len" = none
  n_min : mg "min" = none
  n_range : mg "range" = none
  n_repr : mg "repr" = none
  n_str : mg "str" = none
  n_sum : mg "sum" = none
  n_tuple : mg "tuple" = none
structure Clz (K : PySem.W.Frag) (mg : Str → Option Value) (C_BadOrder C_BadWeb C_Broken C_NoStream C_NoText C_WebError : Addr) : Prop where
  g_BadOrder : mg "BadOrder" = some (.ref C_BadOrder)
  g_BadWeb : mg "BadWeb" = some (.ref C_BadWeb)
  g_Broken : mg "Broken" = some (.ref C_Broken)
  g_NoStream : mg "NoStream" = some (.ref C_NoStream)
  g_NoText : mg "NoText" = some (.ref C_NoText)
  g_WebError : mg "WebError" = some (.ref C_WebError)
  xf_NoText : XfC K C_NoText
  no_NoText : PySem.W.findIn K (.ref C_NoText) "line" = some none
  k1__law_told : PySem.W.kitOne K (.ref C_NoText) (.ref C_NoText) = some true
  k3__law_told : PySem.W.kitAny K (.ref C_NoText) [.ref C_BadOrder, .ref C_BadWeb, .ref C_Broken, .ref C_NoStream] = some false
  e_NoText : ExcC K C_NoText
  m__law_told : ∀ n ∈ ([0] : List Nat), PySem.W.exmOne K ((clsL [C_NoText]) n) (.ref C_WebError) = some true
section
variable [kk : KK] {P : Program} {w : World} {mg : Str → Option Value} {base : Heap}
theorem eq_F__law_next : F__law_next = runW 1 3 X__law_next := by unfold F__law_next; rfl
theorem c__law_next (F : Dfn K mg "_law_next" s__law_next ["_law_deck_here", "_law_many"]) (B : Bm mg) : CalG P w K mg base 1 "_law_next" (spW F__law_next) := by
  rw [eq_F__law_next]
  refine cal_g F sc__law_next (fun vs H Q E h => len_W h) (fun f cdv A outer s H E hG hr => ⟨T__law_next, ?_, fun vs Q h => go_W (n := 1) (k := 3) ss__law_next rfl h⟩)
  unfold T__law_next
  exact pss_cons (ps_while PassesOwn.never (pt_cmpR (op_neD hr.units) (pe_ix ix_seq (pv 0) pe_int (fun _ _ => rfl)) (pe_lst pa_nil) (nomark _)) (pss_cons (ps_set (i := 2) sc__law_next.nd rfl (.inl rfl) (pe_ix ix_seq (pe_ix ix_seq (pv 0) pe_int (fun _ _ => rfl)) pe_int (fun _ _ => rfl)))
      (pss_cons (ps_if (pt_cmpR (op_gtU hr.units) (pv 2) pe_int (nomark _)) (pss_cons (ps_asg (pe_op op_fdivW (pv 2) (pv 1)) (pg_sub (pe_ix ix_seq (pv 0) pe_int (fun _ _ => rfl)) pe_int set_list))
      (pss_one (ps_ret (pe_op op_mod (pv 2) (pv 1))))) pss_nil)
      (pss_one (ps_expr (pe_bm PySem.F.plainAttrs_list PySem.F.slot_list_pop PySem.F.type_list_pop mt_popAt (pe_ix ix_seq (pv 0) pe_int (fun _ _ => rfl)) (pa_cons pe_int pa_nil)))))))
      (pss_cons (ps_asg (pe_op op_addU (pe_ix ix_seq (pv 0) pe_int (fun _ _ => rfl)) pe_int) (pg_sub (pv 0) pe_int set_list))
      (pss_cons (ps_set (i := 3) sc__law_next.nd rfl (.inl rfl) (pe_op op_mod (pe_ix ix_seq (pe_ix ix_seq (pv 0) pe_int (fun _ _ => rfl)) (pe_op op_mod (pe_ix ix_seq (pv 0) pe_int (fun _ _ => rfl)) (pe_callB call_len_seq (by rfl) B.n_len (by decide +kernel) (pa_cons (pe_ix ix_seq (pv 0) pe_int (fun _ _ => rfl)) pa_nil))) (fun _ _ => rfl)) pe_int))
      (pss_cons (ps_set (i := 4) sc__law_next.nd rfl (.inl rfl) (pe_op op_addU (pe_op op_addU (pe_op op_mulV (pv 3) (pe_op op_addU pe_int (pe_op op_mulV pe_int (pe_ix ix_seq (pv 0) pe_int (fun _ _ => rfl))))) (pe_op op_mulV (pe_op op_mulV pe_int (pe_ix ix_seq (pv 0) pe_int (fun _ _ => rfl))) (pe_ix ix_seq (pv 0) pe_int (fun _ _ => rfl)))) pe_int))
      (pss_cons (ps_set (i := 4) sc__law_next.nd rfl (.inl rfl) (pe_op op_mod (pv 4) pe_int))
      (pss_one (ps_ret (pe_op op_mod (pe_op op_fdivW (pe_op op_mod (pe_op op_mulV (pv 4) (pv 4)) pe_int) pe_int) (pv 1))))))))
theorem eq_F__law_one : F__law_one = runW 1 0 X__law_one := by unfold F__law_one; rfl
theorem c__law_one (F : Dfn K mg "_law_one" s__law_one ["_law_deck_here", "_law_some"]) (B : Bm mg) (c__law_next : CalG P w K mg base 1 "_law_next" (spW F__law_next)) : CalG P w K mg base 2 "_law_one" (spW F__law_one) := by
  rw [eq_F__law_one]
  refine cal_g F sc__law_one (fun vs H Q E h => len_W h) (fun f cdv A outer s H E hG hr => ⟨T__law_one, ?_, fun vs Q h => go_W (n := 1) (k := 0) ss__law_one rfl h⟩)
  unfold T__law_one
  exact pss_one (ps_ret (pe_ix ix_seq (pv 1) (pe_g c__law_next hr (by decide) hG (by rfl) (pa_cons (pv 0) (pa_cons (pe_callB call_len_seq (by rfl) B.n_len (by decide +kernel) (pa_cons (pv 1) pa_nil)) pa_nil))) (fun _ _ => rfl)))
theorem eq_F__law_bent_text : F__law_bent_text = runW 1 3 X__law_bent_text := by unfold F__law_bent_text; rfl
theorem c__law_bent_text (F : Dfn K mg "_law_bent_text" s__law_bent_text ["_law_deck_here", "_law_text"]) (B : Bm mg) (c__law_next : CalG P w K mg base 1 "_law_next" (spW F__law_next)) (c__law_one : CalG P w K mg base 2 "_law_one" (spW F__law_one)) : CalG P w K mg base 3 "_law_bent_text" (spW F__law_bent_text) := by
  rw [eq_F__law_bent_text]
  refine cal_g F sc__law_bent_text (fun vs H Q E h => len_W h) (fun f cdv A outer s H E hG hr => ⟨T__law_bent_text, ?_, fun vs Q h => go_W (n := 1) (k := 3) ss__law_bent_text rfl h⟩)
  unfold T__law_bent_text
  exact pss_cons (ps_set (i := 2) sc__law_bent_text.nd rfl (.inl rfl) (pe_g c__law_next hr (by decide) hG (by rfl) (pa_cons (pv 0) (pa_cons (pe_op op_addX (pe_callB call_len_str (by rfl) B.n_len (by decide +kernel) (pa_cons (pv 1) pa_nil)) pe_int) pa_nil))))
      (pss_cons (ps_set (i := 3) sc__law_bent_text.nd rfl (.inl rfl) (pe_ix ix_seq pe_str (pe_g c__law_next hr (by decide) hG (by rfl) (pa_cons (pv 0) (pa_cons pe_int pa_nil))) (fun _ _ => rfl)))
      (pss_cons (ps_set (i := 4) sc__law_bent_text.nd rfl (.inl rfl) (pe_lst (pa_cons (pe_op op_addX (pe_op op_addX (pe_slice sl_str (pv 1) po_none (po_some (pv 2))) (pv 3)) (pe_slice sl_str (pv 1) (po_some (pv 2)) po_none)) (pa_cons (pe_op op_addX (pe_op op_addX (pe_slice sl_str (pv 1) po_none (po_some (pv 2))) (pv 3)) (pe_slice sl_str (pv 1) (po_some (pe_op op_addX (pv 2) pe_int)) po_none)) (pa_cons (pe_op op_addX (pe_slice sl_str (pv 1) po_none (po_some (pv 2))) (pe_slice sl_str (pv 1) (po_some (pe_op op_addX (pv 2) pe_int)) po_none)) (pa_cons (pe_op op_addX (pv 1) pe_str) pa_nil))))))
      (pss_cons (ps_set (i := 4) sc__law_bent_text.nd rfl (.inl rfl) (pe_op op_addX (pv 4) (pe_lst (pa_cons (pe_op op_addX (pv 1) pe_str) (pa_bump op_addX (pv 1) (pat_cons (CwR.pet_replC (pv 1)) (pat_pa (pa_cons (pe_revS (pv 1)) (pa_cons (pe_op op_addX pe_str (pv 1)) (pa_cons (pe_slice sl_str (pv 1) po_none (po_some (pv 2))) (pa_cons (pe_op op_addX (pv 1) pe_str) pa_nil)))))))))))
      (pss_one (ps_ret (pe_g c__law_one hr (by decide) hG (by rfl) (pa_cons (pv 0) (pa_cons (pv 4) pa_nil))))))))
theorem eq_F__law_deck_h : F__law_deck_h = runD 1 2 X__law_deck_h := by unfold F__law_deck_h; rfl
theorem c__law_deck (F : Dfn K mg "_law_deck" s__law_deck ["_law_script"]) (B : Bm mg) : CalG P w K mg base 1 "_law_deck" (spD F__law_deck_h) := by
  rw [eq_F__law_deck_h]
  refine cal_g F sc__law_deck (fun vs H Q E h => len_D h) (fun f cdv A outer s H E hG hr => ⟨T__law_deck_h, ?_, fun vs Q h => go_D (n := 1) (k := 2) ss__law_deck_h rfl h⟩)
  unfold T__law_deck_h
  exact pss_cons (ps_setLc (i := 1) (own := [("_law_cell", 2)]) rfl sc__law_deck.nd rfl rfl (sw_true rfl rfl rfl (by decide +kernel)) (PI.or (pi_list (pv 0)) (pi_tup (pv 0))) (blkOk_by (N := N__law_deck) (sc := defScope s__law_deck) (by decide +kernel)) (fun _ _ _ _ _ => (pg_name (i := 2) sc__law_deck.nd rfl (.inl rfl))) (fun _ _ _ _ _ => pts_nil) (fun _ _ _ _ _ => pe_callB call_abs (by rfl) B.n_abs (by decide +kernel) (pa_cons (pv 2) pa_nil)))
      (pss_one (ps_ret (pe_lst (pa_cons (pe_lc (own := [("_law_cell", 2)]) rfl sc__law_deck.nd (PI.or (pi_list (pv 1)) (pi_tup (pv 1))) (blkOk_by (N := N__law_deck) (sc := defScope s__law_deck) (by decide +kernel)) (fun _ _ _ _ _ => (pg_name (i := 2) sc__law_deck.nd rfl (.inl rfl))) (fun _ _ _ _ _ => pts_one (pt_cmpR op_ge (pv 2) (pe_op op_pow pe_int pe_int) (nomark _))) (fun _ _ _ _ _ => (pv 2))) (pa_cons (pe_op op_addU (pv 1) (pe_lst (pa_cons (pe_op op_addU (pe_callB call_len_seq (by rfl) B.n_len (by decide +kernel) (pa_cons (pv 1) pa_nil)) pe_int) pa_nil))) (pa_cons pe_int pa_nil))))))
theorem eq_F__law_number_in_b : F__law_number_in_b = runP 2 1 X__law_number_in_b := by unfold F__law_number_in_b; rfl
theorem c__law_number_in (F : Dfn K mg "_law_number_in" s__law_number_in ["_law_word", "_law_most"]) (B : Bm mg) : CalG P w K mg base 1 "_law_number_in" (spF F__law_number_in_b) := by
  rw [eq_F__law_number_in_b]
  refine cal_g F sc__law_number_in (fun vs H Q E h => len_F h) (fun f cdv A outer s H E hG hr => ⟨T__law_number_in_b, ?_, fun vs Q h => go_P (n := 2) (k := 1) ss__law_number_in_b rfl h⟩)
  unfold T__law_number_in_b
  exact pss_cons (ps_if (PW.pt (pw_or (pt_cmpR (op_eqX hr.units) (pv 0) pe_str (nomark _)) (pw_or (pt_cmpR (op_gtU hr.units) (pe_callB call_len_str (by rfl) B.n_len (by decide +kernel) (pa_cons (pv 0) pa_nil)) pe_int (nomark _)) (pw_or1 (pt_cmpR (op_neD hr.units) (pe_lc (own := [("_law_sign", 2)]) rfl sc__law_number_in.nd (pi_str (pv 0)) (blkOk_by (N := N__law_number_in) (sc := defScope s__law_number_in) (by decide +kernel)) (fun _ _ _ _ _ => (pg_name (i := 2) sc__law_number_in.nd rfl (.inl rfl))) (fun _ _ _ _ _ => pts_one (pt_cmpR op_notInS (pv 2) pe_str (by rfl))) (fun _ _ _ _ _ => (pv 2))) (pe_lst pa_nil) (nomark _)))))) (pss_one (ps_ret pe_non)) pss_nil)
      (pss_cons (ps_if (PW.pt (pw_or (PW.pt (pw_and (pt_cmpR (op_eqX hr.units) (pe_ix ix_seq (pv 0) pe_int (fun _ _ => rfl)) pe_str (nomark _)) (pw_and1 (pt_cmpR (op_neD hr.units) (pv 0) pe_str (nomark _))))) (pw_or1 (pt_cmpR (op_gtU hr.units) (pe_callTy call_int_str (by rfl) B.n_int (by decide +kernel) (pa_cons (pv 0) pa_nil)) (pv 1) (nomark _))))) (pss_one (ps_ret pe_non)) pss_nil)
      (pss_one (ps_ret (pe_callTy call_int_str (by rfl) B.n_int (by decide +kernel) (pa_cons (pv 0) pa_nil)))))
theorem eq_F__law_sum : F__law_sum = runP 4 1 X__law_sum := by unfold F__law_sum; rfl
theorem c__law_sum (F : Dfn K mg "_law_sum" s__law_sum ["_law_web_here", "_law_bears", "_law_side", "_law_house"]) (B : Bm mg) : CalG P w K mg base 1 "_law_sum" (spF F__law_sum) := by
  rw [eq_F__law_sum]
  refine cal_g F sc__law_sum (fun vs H Q E h => len_F h) (fun f cdv A outer s H E hG hr => ⟨T__law_sum, ?_, fun vs Q h => go_P (n := 4) (k := 1) ss__law_sum rfl h⟩)
  unfold T__law_sum
  exact pss_one (ps_ret (pe_callB (cr_sum rfl) (by rfl) B.n_sum (by decide +kernel) (pa_cons (pe_lc (own := [("_law_k", 4)]) rfl sc__law_sum.nd (pi_range1 (by rfl) B.n_range (pa_cons (pe_callB call_len_seq (by rfl) B.n_len (by decide +kernel) (pa_cons (pe_ix ix_seq (pv 0) pe_int (fun _ _ => rfl)) pa_nil)) pa_nil)) (blkOk_by (N := N__law_sum) (sc := defScope s__law_sum) (by decide +kernel)) (fun _ _ _ _ _ => (pg_name (i := 4) sc__law_sum.nd rfl (.inl rfl))) (fun _ _ _ _ _ => pts_one (pt_cmpR (op_eqX hr.units) (pe_ix ix_seq (pe_ix ix_seq (pe_ix ix_seq (pv 0) pe_int (fun _ _ => rfl)) (pv 4) (fun _ _ => rfl)) (pv 2) (fun _ _ => rfl)) (pv 3) (nomark _))) (fun _ _ _ _ _ => pe_ix ix_seq (pv 1) (pv 4) (fun _ _ => rfl))) pa_nil)))
theorem eq_F__law_whole : F__law_whole = runP 1 0 X__law_whole := by unfold F__law_whole; rfl
theorem c__law_whole (F : Dfn K mg "_law_whole" s__law_whole ["_law_thing"]) (B : Bm mg) : CalG P w K mg base 1 "_law_whole" (spF F__law_whole) := by
  rw [eq_F__law_whole]
  refine cal_g F sc__law_whole (fun vs H Q E h => len_F h) (fun f cdv A outer s H E hG hr => ⟨T__law_whole, ?_, fun vs Q h => go_P (n := 1) (k := 0) ss__law_whole rfl h⟩)
  unfold T__law_whole
  exact pss_one (ps_ret (pe_and (pe_callB call_isi (by rfl) B.n_isinstance (by decide +kernel) (pa_cons (pv 0) (pa_cons (pe_bltn (v := .ty "int") (by rfl) B.n_int (by decide +kernel) rfl) pa_nil))) (pe_one (pe_not (pe_callB call_isi (by rfl) B.n_isinstance (by decide +kernel) (pa_cons (pv 0) (pa_cons (pe_bltn (v := .ty "bool") (by rfl) B.n_bool (by decide +kernel) rfl) pa_nil)))))))
theorem eq_F__law_stream_fault : F__law_stream_fault = runP 2 3 X__law_stream_fault := by unfold F__law_stream_fault; rfl
theorem c__law_stream_fault (F : Dfn K mg "_law_stream_fault" s__law_stream_fault ["_law_web_here", "_law_thing"]) (B : Bm mg) (c__law_sum : CalG P w K mg base 1 "_law_sum" (spF F__law_sum)) (c__law_whole : CalG P w K mg base 1 "_law_whole" (spF F__law_whole)) : CalG P w K mg base 2 "_law_stream_fault" (spF F__law_stream_fault) := by
  rw [eq_F__law_stream_fault]
  refine cal_g F sc__law_stream_fault (fun vs H Q E h => len_F h) (fun f cdv A outer s H E hG hr => ⟨T__law_stream_fault, ?_, fun vs Q h => go_P (n := 2) (k := 3) ss__law_stream_fault rfl h⟩)
  unfold T__law_stream_fault
  exact pss_cons (ps_if (PW.pt (pw_or (pt_not (pt_val (pe_callB call_isi (by rfl) B.n_isinstance (by decide +kernel) (pa_cons (pv 1) (pa_cons (pe_bltn (v := .ty "tuple") (by rfl) B.n_tuple (by decide +kernel) rfl) pa_nil))))) (pw_or1 (pt_cmpR (op_neD hr.units) (pe_callB call_len_seq (by rfl) B.n_len (by decide +kernel) (pa_cons (pv 1) pa_nil)) (pe_callB call_len_seq (by rfl) B.n_len (by decide +kernel) (pa_cons (pe_ix ix_seq (pv 0) pe_int (fun _ _ => rfl)) pa_nil)) (nomark _))))) (pss_one (ps_ret (pe_tupF (pa_cons pe_str pa_nil)))) pss_nil)
      (pss_cons (ps_if (pt_cmpR (op_neD hr.units) (pe_lc (own := [("_law_one_here", 4)]) rfl sc__law_stream_fault.nd (PI.or (pi_list (pv 1)) (pi_tup (pv 1))) (blkOk_by (N := N__law_stream_fault) (sc := defScope s__law_stream_fault) (by decide +kernel)) (fun _ _ _ _ _ => (pg_name (i := 4) sc__law_stream_fault.nd rfl (.inl rfl))) (fun _ _ _ _ _ => pts_one (PW.pt (pw_or (pt_not (pt_val (pe_g c__law_whole hr (by decide) hG (by rfl) (pa_cons (pv 4) pa_nil)))) (pw_or1 (pt_cmpR op_lt (pv 4) pe_int (nomark _)))))) (fun _ _ _ _ _ => pe_int)) (pe_lst pa_nil) (nomark _)) (pss_one (ps_ret (pe_tupF (pa_cons pe_str pa_nil)))) pss_nil)
      (pss_cons (ps_for PassesOwn.never rfl (pi_range1 (by rfl) B.n_range (pa_cons (pe_callB call_len_seq (by rfl) B.n_len (by decide +kernel) (pa_cons (pv 1) pa_nil)) pa_nil)) (pg_name (i := 2) sc__law_stream_fault.nd rfl (.inl rfl)) (pss_one (ps_if (pt_cmpR (op_gtU hr.units) (pe_ix ix_seq (pv 1) (pv 2) (fun _ _ => rfl)) (pe_ix ix_seq (pe_ix ix_seq (pe_ix ix_seq (pv 0) pe_int (fun _ _ => rfl)) (pv 2) (fun _ _ => rfl)) pe_int (fun _ _ => rfl)) (nomark _)) (pss_one (ps_ret (pe_tupF (pa_cons pe_str (pa_cons (pv 2) pa_nil))))) pss_nil)))
      (pss_cons (ps_for PassesOwn.never rfl (pi_range1 (by rfl) B.n_range (pa_cons (pe_callB call_len_seq (by rfl) B.n_len (by decide +kernel) (pa_cons (pe_ix ix_seq (pv 0) pe_int (fun _ _ => rfl)) pa_nil)) pa_nil)) (pg_name (i := 3) sc__law_stream_fault.nd rfl (.inl rfl)) (pss_one (ps_if (pt_cmpR (op_neD hr.units) (pe_g c__law_sum hr (by decide) hG (by rfl) (pa_cons (pv 0) (pa_cons (pv 1) (pa_cons pe_int (pa_cons (pv 3) pa_nil))))) (pe_g c__law_sum hr (by decide) hG (by rfl) (pa_cons (pv 0) (pa_cons (pv 1) (pa_cons pe_int (pa_cons (pv 3) pa_nil))))) (nomark _)) (pss_one (ps_ret (pe_tupF (pa_cons pe_str (pa_cons (pv 3) pa_nil))))) pss_nil)))
      (pss_one (ps_ret pe_non)))))
theorem eq_F__law_due_f : F__law_due_f = runP 2 2 X__law_due_f := by unfold F__law_due_f; rfl
theorem c__law_due (F : Dfn K mg "_law_due" s__law_due ["_law_web_here", "_law_thing"]) (B : Bm mg) (c__law_number_in : CalG P w K mg base 1 "_law_number_in" (spF F__law_number_in_b)) (c__law_stream_fault : CalG P w K mg base 2 "_law_stream_fault" (spF F__law_stream_fault)) : CalG P w K mg base 3 "_law_due" (spF F__law_due_f) := by
  rw [eq_F__law_due_f]
  refine cal_g F sc__law_due (fun vs H Q E h => len_F h) (fun f cdv A outer s H E hG hr => ⟨T__law_due_f, ?_, fun vs Q h => go_P (n := 2) (k := 2) ss__law_due_f rfl h⟩)
  unfold T__law_due_f
  exact pss_cons (ps_if (pt_not (pt_val (pe_callB call_isi (by rfl) B.n_isinstance (by decide +kernel) (pa_cons (pv 1) (pa_cons (pe_bltn (v := .ty "str") (by rfl) B.n_str (by decide +kernel) rfl) pa_nil))))) (pss_one (ps_ret (pe_lst (pa_cons pe_str (pa_cons pe_non pa_nil))))) pss_nil)
      (pss_cons (ps_setLc (i := 2) (own := [("_law_word", 3)]) rfl sc__law_due.nd rfl rfl (sw_true rfl rfl rfl (by decide +kernel)) (PI.or (pi_list (pe_splitS (pv 1) pe_str)) (pi_tup (pe_splitS (pv 1) pe_str))) (blkOk_by (N := N__law_due) (sc := defScope s__law_due) (by decide +kernel)) (fun _ _ _ _ _ => (pg_name (i := 3) sc__law_due.nd rfl (.inl rfl))) (fun _ _ _ _ _ => pts_nil) (fun _ _ _ _ _ => pe_g c__law_number_in hr (by decide) hG (by rfl) (pa_cons (pv 3) (pa_cons (pe_op op_sub (pe_op op_pow pe_int pe_int) pe_int) pa_nil))))
      (pss_cons (ps_if (PW.pt (pw_or (pt_cmpR (op_inU (u65 hr)) pe_non (pv 2) (by rfl)) (pw_or1 (pt_cmpR op_notU (pe_g c__law_stream_fault hr (by decide) hG (by rfl) (pa_cons (pv 0) (pa_cons (pe_callTy cr_tupF (by rfl) B.n_tuple (by decide +kernel) (pa_cons (pv 2) pa_nil)) pa_nil))) pe_non (nomark _))))) (pss_one (ps_ret (pe_lst (pa_cons pe_str (pa_cons pe_int pa_nil))))) pss_nil)
      (pss_one (ps_ret (pe_lst (pa_cons pe_str (pa_cons (pe_callTy cr_tupF (by rfl) B.n_tuple (by decide +kernel) (pa_cons (pv 2) pa_nil)) pa_nil)))))))
theorem eq_F__law_round_b : F__law_round_b = runV 2 8 X__law_round_b := by unfold F__law_round_b; rfl
theorem c__law_round (F : Dfn K mg "_law_round" s__law_round ["_law_deck_here", "_law_web_here", "_law_bears"]) (B : Bm mg) (c__law_next : CalG P w K mg base 1 "_law_next" (spW F__law_next)) (c__law_one : CalG P w K mg base 2 "_law_one" (spW F__law_one)) : CalG P w K mg base 3 "_law_round" (spV F__law_round_b) := by
  rw [eq_F__law_round_b]
  refine cal_g F sc__law_round (fun vs H Q E h => len_V h) (fun f cdv A outer s H E hG hr => ⟨T__law_round_b, ?_, fun vs Q h => go_V (n := 2) (k := 8) ss__law_round_b rfl h⟩)
  unfold T__law_round_b
  exact pss_cons (ps_setLc (i := 3) (own := [("_law_k", 10)]) rfl sc__law_round.nd rfl rfl (sw_true rfl rfl rfl (by decide +kernel)) (pi_range1 (by rfl) B.n_range (pa_cons (pe_callB call_len_seq (by rfl) B.n_len (by decide +kernel) (pa_cons (pe_ix ix_seq (pv 1) pe_int (fun _ _ => rfl)) pa_nil)) pa_nil)) (blkOk_by (N := N__law_round) (sc := defScope s__law_round) (by decide +kernel)) (fun _ _ _ _ _ => (pg_name (i := 10) sc__law_round.nd rfl (.inl rfl))) (fun _ _ _ _ _ => pts_one (pt_cmpR op_lt (pe_ix ix_seq (pv 2) (pv 10) (fun _ _ => rfl)) (pe_ix ix_seq (pe_ix ix_seq (pe_ix ix_seq (pv 1) pe_int (fun _ _ => rfl)) (pv 10) (fun _ _ => rfl)) pe_int (fun _ _ => rfl)) (nomark _))) (fun _ _ _ _ _ => (pv 10)))
      (pss_cons (ps_setLc (i := 4) (own := [("_law_k", 10)]) rfl sc__law_round.nd rfl rfl (sw_true rfl rfl rfl (by decide +kernel)) (PI.or (pi_list (pv 3)) (pi_tup (pv 3))) (blkOk_by (N := N__law_round) (sc := defScope s__law_round) (by decide +kernel)) (fun _ _ _ _ _ => (pg_name (i := 10) sc__law_round.nd rfl (.inl rfl))) (fun _ _ _ _ _ => pts_one (pt_cmpR op_isU (pe_ix ix_seq (pe_ix ix_seq (pe_ix ix_seq (pv 1) pe_int (fun _ _ => rfl)) (pv 10) (fun _ _ => rfl)) pe_int (fun _ _ => rfl)) pe_non (nomark _))) (fun _ _ _ _ _ => (pv 10)))
      (pss_cons (ps_if (PW.pt (pw_or (pt_cmpR (op_eqX hr.units) (pv 4) (pe_lst pa_nil) (nomark _)) (pw_or1 (pt_cmpR (op_eqX hr.units) (pe_g c__law_next hr (by decide) hG (by rfl) (pa_cons (pv 0) (pa_cons pe_int pa_nil))) pe_int (nomark _))))) (pss_one (ps_set (i := 4) sc__law_round.nd rfl (.inl rfl) (pv 3))) pss_nil)
      (pss_cons (ps_if (pt_cmpR (op_eqX hr.units) (pv 4) (pe_lst pa_nil) (nomark _)) (pss_one (ps_ret (pe_lst pa_nil))) pss_nil)
      (pss_cons (ps_set (i := 5) sc__law_round.nd rfl (.inl rfl) (pe_lst (pa_cons (pe_g c__law_one hr (by decide) hG (by rfl) (pa_cons (pv 0) (pa_cons (pv 4) pa_nil))) pa_nil)))
      (pss_cons (ps_set (i := 6) sc__law_round.nd rfl (.inl rfl) (pe_lst (pa_cons (pe_ix ix_seq (pe_ix ix_seq (pe_ix ix_seq (pv 1) pe_int (fun _ _ => rfl)) (pe_ix ix_seq (pv 5) pe_int (fun _ _ => rfl)) (fun _ _ => rfl)) pe_int (fun _ _ => rfl)) pa_nil)))
      (pss_cons (ps_while PassesOwn.never (pt_cmpR (op_notInU (u65 hr)) (pe_ix ix_seq (pe_ix ix_seq (pe_ix ix_seq (pv 1) pe_int (fun _ _ => rfl)) (pe_ix ix_seq (pv 5) (pe_un un_neg pe_int) (fun _ _ => rfl)) (fun _ _ => rfl)) pe_int (fun _ _ => rfl)) (pe_op op_addU (pv 6) (pe_lst (pa_cons pe_non pa_nil))) (by rfl)) (pss_cons (ps_set (i := 7) sc__law_round.nd rfl (.inr rfl) (pe_ix ix_seq (pe_ix ix_seq (pe_ix ix_seq (pv 1) pe_int (fun _ _ => rfl)) (pe_ix ix_seq (pv 5) (pe_un un_neg pe_int) (fun _ _ => rfl)) (fun _ _ => rfl)) pe_int (fun _ _ => rfl)))
      (pss_cons (ps_expr (pe_bm PySem.F.plainAttrs_list PySem.F.slot_list_append PySem.F.type_list_append mt_append (pv 6) (pa_cons (pv 7) pa_nil)))
      (pss_cons (ps_setLc (i := 8) (own := [("_law_k", 10)]) rfl sc__law_round.nd rfl rfl (sw_true rfl rfl rfl (by decide +kernel)) (PI.or (pi_list (pv 3)) (pi_tup (pv 3))) (blkOk_by (N := N__law_round) (sc := defScope s__law_round) (by decide +kernel)) (fun _ _ _ _ _ => (pg_name (i := 10) sc__law_round.nd rfl (.inl rfl))) (fun _ _ _ _ _ => pts_one (pt_cmpR (op_eqX hr.units) (pe_ix ix_seq (pe_ix ix_seq (pe_ix ix_seq (pv 1) pe_int (fun _ _ => rfl)) (pv 10) (fun _ _ => rfl)) pe_int (fun _ _ => rfl)) (pv 7) (nomark _))) (fun _ _ _ _ _ => (pv 10)))
      (pss_cons (ps_if (pt_cmpR (op_eqX hr.units) (pv 8) (pe_lst pa_nil) (nomark _)) (pss_one (ps_ret (pe_lst pa_nil))) pss_nil)
      (pss_one (ps_expr (pe_bm PySem.F.plainAttrs_list PySem.F.slot_list_append PySem.F.type_list_append mt_append (pv 5) (pa_cons (pe_g c__law_one hr (by decide) hG (by rfl) (pa_cons (pv 0) (pa_cons (pv 8) pa_nil))) pa_nil)))))))))
      (pss_cons (ps_set (i := 9) sc__law_round.nd rfl (.inl rfl) (pe_ix ix_seq (pe_ix ix_seq (pe_ix ix_seq (pv 1) pe_int (fun _ _ => rfl)) (pe_ix ix_seq (pv 5) (pe_un un_neg pe_int) (fun _ _ => rfl)) (fun _ _ => rfl)) pe_int (fun _ _ => rfl)))
      (pss_cons (ps_if (PW.pt (pw_and (pt_cmpR op_isU (pv 9) pe_non (nomark _)) (pw_and1 (pt_cmpR op_notU (pe_ix ix_seq (pe_ix ix_seq (pe_ix ix_seq (pv 1) pe_int (fun _ _ => rfl)) (pe_ix ix_seq (pv 5) pe_int (fun _ _ => rfl)) (fun _ _ => rfl)) pe_int (fun _ _ => rfl)) pe_non (nomark _))))) (pss_one (ps_ret (pe_lst pa_nil))) pss_nil)
      (pss_one (ps_ret (pe_slice sl_U (pv 5) (po_some (pe_ix ix_seq (pe_lst (pa_cons (PE.or (pe_bmF PySem.F.slot_tuple_index PySem.F.type_tuple_index (mt_indexF (u65 hr)) (pv 6) (pa_cons (pv 9) pa_nil)) (pe_bm PySem.F.plainAttrs_list PySem.F.slot_list_index PySem.F.type_list_index (mt_indexD (u65 hr)) (pv 6) (pa_cons (pv 9) pa_nil))) (pa_cons pe_int pa_nil))) (pe_callTy call_int1 (by rfl) B.n_int (by decide +kernel) (pa_cons (pe_cmpR op_isU (pv 9) pe_non (nomark _)) pa_nil)) (fun _ _ => rfl))) po_none)))))))))))
theorem eq_F__law_stream_f : F__law_stream_f = runW 2 6 X__law_stream_f := by unfold F__law_stream_f; rfl
theorem c__law_stream (F : Dfn K mg "_law_stream" s__law_stream ["_law_deck_here", "_law_web_here", "_law_several"]) (B : Bm mg) (c__law_next : CalG P w K mg base 1 "_law_next" (spW F__law_next)) (c__law_one : CalG P w K mg base 2 "_law_one" (spW F__law_one)) (c__law_round : CalG P w K mg base 3 "_law_round" (spV F__law_round_b)) : CalG P w K mg base 4 "_law_stream" (spW F__law_stream_f) := by
  rw [eq_F__law_stream_f]
  refine cal_g F sc__law_stream (fun vs H Q E h => len_W h) (fun f cdv A outer s H E hG hr => ⟨T__law_stream_f, ?_, fun vs Q h => go_W (n := 2) (k := 6) ss__law_stream_f rfl h⟩)
  unfold T__law_stream_f
  exact pss_cons (ps_set (i := 3) sc__law_stream.nd rfl (.inr rfl) (pe_op op_mulV (pe_lst (pa_cons pe_int pa_nil)) (pe_callB call_len_seq (by rfl) B.n_len (by decide +kernel) (pa_cons (pe_ix ix_seq (pv 1) pe_int (fun _ _ => rfl)) pa_nil))))
      (pss_cons (ps_for PassesOwn.never rfl (pi_range1 (by rfl) B.n_range (pa_cons (pv 2) pa_nil)) (pg_name (i := 4) sc__law_stream.nd rfl (.inl rfl)) (pss_cons (ps_set (i := 5) sc__law_stream.nd rfl (.inl rfl) (pe_g c__law_round hr (by decide) hG (by rfl) (pa_cons (pv 0) (pa_cons (pv 1) (pa_cons (pv 3) pa_nil)))))
      (pss_one (ps_if (pt_cmpR (op_neD hr.units) (pv 5) (pe_lst pa_nil) (nomark _)) (pss_cons (ps_set (i := 6) sc__law_stream.nd rfl (.inl rfl) (pe_callB (cr_minV rfl) (by rfl) B.n_min (by decide +kernel) (pa_cons (pe_lc (own := [("_law_k", 8)]) rfl sc__law_stream.nd (PI.or (pi_list (pv 5)) (pi_tup (pv 5))) (blkOk_by (N := N__law_stream) (sc := defScope s__law_stream) (by decide +kernel)) (fun _ _ _ _ _ => (pg_name (i := 8) sc__law_stream.nd rfl (.inl rfl))) (fun _ _ _ _ _ => pts_nil) (fun _ _ _ _ _ => pe_op op_sub (pe_ix ix_seq (pe_ix ix_seq (pe_ix ix_seq (pv 1) pe_int (fun _ _ => rfl)) (pv 8) (fun _ _ => rfl)) pe_int (fun _ _ => rfl)) (pe_ix ix_seq (pv 3) (pv 8) (fun _ _ => rfl)))) pa_nil)))
      (pss_cons (ps_set (i := 7) sc__law_stream.nd rfl (.inl rfl) (pe_g c__law_one hr (by decide) hG (by rfl) (pa_cons (pv 0) (pa_cons (pe_lst (pa_cons pe_int (pa_cons (pv 6) (pa_cons (pe_op op_addU pe_int (pe_g c__law_next hr (by decide) hG (by rfl) (pa_cons (pv 0) (pa_cons (pv 6) pa_nil)))) pa_nil)))) pa_nil))))
      (pss_one (ps_for PassesOwn.never rfl (PI.or (pi_list (pv 5)) (pi_tup (pv 5))) (pg_name (i := 8) sc__law_stream.nd rfl (.inl rfl)) (pss_one (ps_asg (pe_op op_addU (pe_ix ix_seq (pv 3) (pv 8) (fun _ _ => rfl)) (pv 7)) (pg_sub (pv 3) (pv 8) set_list))))))) pss_nil))))
      (pss_one (ps_ret (pe_callTy cr_tupF (by rfl) B.n_tuple (by decide +kernel) (pa_cons (pv 3) pa_nil)))))
theorem eq_F_check_text_b : F_check_text_b = runP 1 0 X_check_text_b := by unfold F_check_text_b; rfl
theorem c_check_text (F : Dfn K mg "check_text" s_check_text ["thing"]) (B : Bm mg) {C_BadOrder C_BadWeb C_Broken C_NoStream C_NoText C_WebError : Addr} (Z : Clz K mg C_BadOrder C_BadWeb C_Broken C_NoStream C_NoText C_WebError)  (v_NoText : InitOk P w K mg base "NoText" C_NoText "line") : CalX P w K mg base 3 "check_text" (spY (clsL [C_NoText]) "line" F_check_text_b) := by
  rw [eq_F_check_text_b]
  refine cal_x F sc_check_text (fun vs H Q E h => len_Y h) (fun f cdv A outer s H E hG hr => ⟨T_check_text_b (fun cls d _ H => E cls d H) (clsL [C_NoText]) C_NoText, ?_, fun vs Q h => go_Y (n := 1) (k := 0) (ss_check_text_b rfl) rfl h⟩)
  unfold T_check_text_b
  exact pss_one (ps_if (pt_not (pt_val (pe_callB call_isi (by rfl) B.n_isinstance (by decide +kernel) (pa_cons (pv 0) (pa_cons (pe_bltn (v := .ty "str") (by rfl) B.n_str (by decide +kernel) rfl) pa_nil))))) (pss_one (ps_rvI v_NoText rfl (takes_of rfl rfl rfl rfl) hr (by decide) (by rfl) pe_non)) pss_nil)
theorem eq_F_number_in : F_number_in = runP 1 0 X_number_in := by unfold F_number_in; rfl
theorem c_number_in (F : Dfn K mg "number_in" s_number_in ["word"]) (B : Bm mg) {t_FIGURES : Tok} (m_FIGURES : mg "FIGURES" = some (.int 13 t_FIGURES)) : CalG P w K mg base 1 "number_in" (spF F_number_in) := by
  rw [eq_F_number_in]
  refine cal_g F sc_number_in (fun vs H Q E h => len_F h) (fun f cdv A outer s H E hG hr => ⟨T_number_in, ?_, fun vs Q h => go_P (n := 1) (k := 0) ss_number_in rfl h⟩)
  unfold T_number_in
  exact pss_cons (ps_if (PW.pt (pw_or (pt_not (pt_val (pe_ascS (pv 0)))) (pw_or (pt_not (pt_val (pe_digS (pv 0)))) (pw_or1 (pt_cmpR (op_gtU hr.units) (pe_callB call_len_str (by rfl) B.n_len (by decide +kernel) (pa_cons (pv 0) pa_nil)) (pe_glob (by rfl) m_FIGURES ⟨_, rfl⟩) (nomark _)))))) (pss_one (ps_ret pe_non)) pss_nil)
      (pss_cons (ps_if (PW.pt (pw_and (pt_val (pe_startS (pv 0) pe_str)) (pw_and1 (pt_cmpR (op_neD hr.units) (pv 0) pe_str (nomark _))))) (pss_one (ps_ret pe_non)) pss_nil)
      (pss_one (ps_ret (pe_callTy call_int_str (by rfl) B.n_int (by decide +kernel) (pa_cons (pv 0) pa_nil)))))
theorem eq_F_borne : F_borne = runP 2 1 X_borne := by unfold F_borne; rfl
theorem c_borne (F : Dfn K mg "borne" s_borne ["bears", "numbers"]) (B : Bm mg) : CalG P w K mg base 1 "borne" (spF F_borne) := by
  rw [eq_F_borne]
  refine cal_g F sc_borne (fun vs H Q E h => len_F h) (fun f cdv A outer s H E hG hr => ⟨T_borne, ?_, fun vs Q h => go_P (n := 2) (k := 1) ss_borne rfl h⟩)
  unfold T_borne
  exact pss_one (ps_ret (pe_callB (cr_sum rfl) (by rfl) B.n_sum (by decide +kernel) (pa_cons (pe_lc (own := [("number", 2)]) rfl sc_borne.nd (PI.or (pi_list (pv 1)) (pi_tup (pv 1))) (blkOk_by (N := N_borne) (sc := defScope s_borne) (by decide +kernel)) (fun _ _ _ _ _ => (pg_name (i := 2) sc_borne.nd rfl (.inl rfl))) (fun _ _ _ _ _ => pts_nil) (fun _ _ _ _ _ => pe_ix ix_seq (pv 0) (pv 2) (fun _ _ => rfl))) pa_nil)))
theorem eq_F_is_number : F_is_number = runP 1 0 X_is_number := by unfold F_is_number; rfl
theorem c_is_number (F : Dfn K mg "is_number" s_is_number ["thing"]) (B : Bm mg) : CalG P w K mg base 1 "is_number" (spF F_is_number) := by
  rw [eq_F_is_number]
  refine cal_g F sc_is_number (fun vs H Q E h => len_F h) (fun f cdv A outer s H E hG hr => ⟨T_is_number, ?_, fun vs Q h => go_P (n := 1) (k := 0) ss_is_number rfl h⟩)
  unfold T_is_number
  exact pss_one (ps_ret (pe_and (pe_callB call_isi (by rfl) B.n_isinstance (by decide +kernel) (pa_cons (pv 0) (pa_cons (pe_bltn (v := .ty "int") (by rfl) B.n_int (by decide +kernel) rfl) pa_nil))) (pe_one (pe_not (pe_callB call_isi (by rfl) B.n_isinstance (by decide +kernel) (pa_cons (pv 0) (pa_cons (pe_bltn (v := .ty "bool") (by rfl) B.n_bool (by decide +kernel) rfl) pa_nil)))))))
theorem eq_F_is_tuple_of : F_is_tuple_of = runP 3 0 X_is_tuple_of := by unfold F_is_tuple_of; rfl
theorem c_is_tuple_of (F : Dfn K mg "is_tuple_of" s_is_tuple_of ["thing", "least", "most"]) (B : Bm mg) : CalG P w K mg base 1 "is_tuple_of" (spF F_is_tuple_of) := by
  rw [eq_F_is_tuple_of]
  refine cal_g F sc_is_tuple_of (fun vs H Q E h => len_F h) (fun f cdv A outer s H E hG hr => ⟨T_is_tuple_of, ?_, fun vs Q h => go_P (n := 3) (k := 0) ss_is_tuple_of rfl h⟩)
  unfold T_is_tuple_of
  exact pss_one (ps_ret (pe_and (pe_callB call_isi (by rfl) B.n_isinstance (by decide +kernel) (pa_cons (pv 0) (pa_cons (pe_bltn (v := .ty "tuple") (by rfl) B.n_tuple (by decide +kernel) rfl) pa_nil))) (pe_one (pe_chain op_le op_le (pv 1) (pe_callB call_len_seq (by rfl) B.n_len (by decide +kernel) (pa_cons (pv 0) pa_nil)) (pv 2)))))
theorem eq_F_is_form : F_is_form = runP 2 1 X_is_form := by unfold F_is_form; rfl
theorem c_is_form (F : Dfn K mg "is_form" s_is_form ["thing", "many"]) (B : Bm mg) (c_is_number : CalG P w K mg base 1 "is_number" (spF F_is_number)) (c_is_tuple_of : CalG P w K mg base 1 "is_tuple_of" (spF F_is_tuple_of)) : CalG P w K mg base 2 "is_form" (spF F_is_form) := by
  rw [eq_F_is_form]
  refine cal_g F sc_is_form (fun vs H Q E h => len_F h) (fun f cdv A outer s H E hG hr => ⟨T_is_form, ?_, fun vs Q h => go_P (n := 2) (k := 1) ss_is_form rfl h⟩)
  unfold T_is_form
  exact pss_one (ps_ret (pe_and (pe_g c_is_tuple_of hr (by decide) hG (by rfl) (pa_cons (pv 0) (pa_cons (pv 1) (pa_cons (pv 1) pa_nil)))) (pe_one (pe_callB (cr_all rfl) (by rfl) B.n_all (by decide +kernel) (pa_cons (pe_lc (own := [("bears", 2)]) rfl sc_is_form.nd (PI.or (pi_list (pv 0)) (pi_tup (pv 0))) (blkOk_by (N := N_is_form) (sc := defScope s_is_form) (by decide +kernel)) (fun _ _ _ _ _ => (pg_name (i := 2) sc_is_form.nd rfl (.inl rfl))) (fun _ _ _ _ _ => pts_nil) (fun _ _ _ _ _ => pe_and (pe_g c_is_number hr (by decide) hG (by rfl) (pa_cons (pv 2) pa_nil)) (pe_one (pe_cmpR op_ge (pv 2) pe_int (nomark _))))) pa_nil)))))
theorem eq_F_streamfault : F_streamfault = runP 2 7 X_streamfault := by unfold F_streamfault; rfl
theorem c_streamfault (F : Dfn K mg "streamfault" s_streamfault ["web", "thing"]) (B : Bm mg) (c_borne : CalG P w K mg base 1 "borne" (spF F_borne)) (c_is_form : CalG P w K mg base 2 "is_form" (spF F_is_form)) : CalG P w K mg base 3 "streamfault" (spF F_streamfault) := by
  rw [eq_F_streamfault]
  refine cal_g F sc_streamfault (fun vs H Q E h => len_F h) (fun f cdv A outer s H E hG hr => ⟨T_streamfault, ?_, fun vs Q h => go_P (n := 2) (k := 7) ss_streamfault rfl h⟩)
  unfold T_streamfault
  exact pss_cons (ps_asg (pv 0) (PG.or (pg_tup rfl (pgs_cons (pg_name (i := 2) sc_streamfault.nd rfl (.inl rfl)) (pgs_cons (pg_name (i := 3) sc_streamfault.nd rfl (.inl rfl)) (pgs_cons (pg_name (i := 4) sc_streamfault.nd rfl (.inl rfl)) pgs_nil)))) (pg_unl rfl (pgs_cons (pg_name (i := 2) sc_streamfault.nd rfl (.inl rfl)) (pgs_cons (pg_name (i := 3) sc_streamfault.nd rfl (.inl rfl)) (pgs_cons (pg_name (i := 4) sc_streamfault.nd rfl (.inl rfl)) pgs_nil))))))
      (pss_cons (ps_if (pt_not (pt_val (pe_g c_is_form hr (by decide) hG (by rfl) (pa_cons (pv 1) (pa_cons (pe_callB call_len_seq (by rfl) B.n_len (by decide +kernel) (pa_cons (pv 2) pa_nil)) pa_nil))))) (pss_one (ps_ret (pe_tupF (pa_cons pe_str pa_nil)))) pss_nil)
      (pss_cons (ps_for PassesOwn.never rfl (PI.or (pi_enum (by rfl) B.n_enumerate (pa_cons (pv 1) pa_nil)) (Un.pi_enumT (by rfl) B.n_enumerate (pa_cons (pv 1) pa_nil))) (PG.or (pg_tup rfl (pgs_cons (pg_name (i := 5) sc_streamfault.nd rfl (.inl rfl)) (pgs_cons (pg_name (i := 6) sc_streamfault.nd rfl (.inl rfl)) pgs_nil))) (pg_unl rfl (pgs_cons (pg_name (i := 5) sc_streamfault.nd rfl (.inl rfl)) (pgs_cons (pg_name (i := 6) sc_streamfault.nd rfl (.inl rfl)) pgs_nil)))) (pss_one (ps_if (pt_cmpR (op_gtU hr.units) (pv 6) (pe_ix ix_seq (pe_ix ix_seq (pv 2) (pv 5) (fun _ _ => rfl)) pe_int (fun _ _ => rfl)) (nomark _)) (pss_one (ps_ret (pe_tupF (pa_cons pe_str (pa_cons (pv 5) pa_nil))))) pss_nil)))
      (pss_cons (ps_for PassesOwn.never rfl (PI.or (pi_enum (by rfl) B.n_enumerate (pa_cons (pv 3) pa_nil)) (Un.pi_enumT (by rfl) B.n_enumerate (pa_cons (pv 3) pa_nil))) (PG.or (pg_tup rfl (pgs_cons (pg_name (i := 7) sc_streamfault.nd rfl (.inl rfl)) (pgs_cons (pg_name (i := 8) sc_streamfault.nd rfl (.inl rfl)) pgs_nil))) (pg_unl rfl (pgs_cons (pg_name (i := 7) sc_streamfault.nd rfl (.inl rfl)) (pgs_cons (pg_name (i := 8) sc_streamfault.nd rfl (.inl rfl)) pgs_nil)))) (pss_one (ps_if (pt_cmpR (op_neD hr.units) (pe_g c_borne hr (by decide) hG (by rfl) (pa_cons (pv 1) (pa_cons (pe_ix ix_seq (pv 4) (pv 7) (fun _ _ => rfl)) pa_nil))) (pe_g c_borne hr (by decide) hG (by rfl) (pa_cons (pv 1) (pa_cons (pv 8) pa_nil))) (nomark _)) (pss_one (ps_ret (pe_tupF (pa_cons pe_str (pa_cons (pv 7) pa_nil))))) pss_nil)))
      (pss_one (ps_ret pe_non)))))
theorem eq_F_read_stream_b : F_read_stream_b = runP 2 2 X_read_stream_b := by unfold F_read_stream_b; rfl
theorem c_read_stream (F : Dfn K mg "read_stream" s_read_stream ["web", "thing"]) (B : Bm mg) {C_BadOrder C_BadWeb C_Broken C_NoStream C_NoText C_WebError : Addr} (Z : Clz K mg C_BadOrder C_BadWeb C_Broken C_NoStream C_NoText C_WebError)  (v_NoText : InitOk P w K mg base "NoText" C_NoText "line") (c_check_text : CalX P w K mg base 3 "check_text" (spY (clsL [C_NoText]) "line" F_check_text_b)) (c_number_in : CalG P w K mg base 1 "number_in" (spF F_number_in)) (c_streamfault : CalG P w K mg base 3 "streamfault" (spF F_streamfault)) : CalX P w K mg base 4 "read_stream" (spY (clsL [C_NoText]) "line" F_read_stream_b) := by
  rw [eq_F_read_stream_b]
  refine cal_x F sc_read_stream (fun vs H Q E h => len_Y h) (fun f cdv A outer s H E hG hr => ⟨T_read_stream_b (fun cls d _ H => E cls d H) (clsL [C_NoText]) C_NoText, ?_, fun vs Q h => go_Y (n := 2) (k := 2) (ss_read_stream_b rfl) rfl h⟩)
  unfold T_read_stream_b
  exact pss_cons (ps_expr (pe_gx c_check_text hr (by decide) hG (by rfl) (takes_of rfl rfl rfl rfl) (pa_cons (pv 1) pa_nil)))
      (pss_cons (ps_set (i := 2) sc_read_stream.nd rfl (.inl rfl) (pe_callTy cr_tupF (by rfl) B.n_tuple (by decide +kernel) (pa_cons (pe_lc (own := [("word", 3)]) rfl sc_read_stream.nd (PI.or (pi_list (pe_splitS (pv 1) pe_str)) (pi_tup (pe_splitS (pv 1) pe_str))) (blkOk_by (N := N_read_stream) (sc := defScope s_read_stream) (by decide +kernel)) (fun _ _ _ _ _ => (pg_name (i := 3) sc_read_stream.nd rfl (.inl rfl))) (fun _ _ _ _ _ => pts_nil) (fun _ _ _ _ _ => pe_g c_number_in hr (by decide) hG (by rfl) (pa_cons (pv 3) pa_nil))) pa_nil)))
      (pss_cons (ps_if (pt_cmpR op_notU (pe_g c_streamfault hr (by decide) hG (by rfl) (pa_cons (pv 0) (pa_cons (pv 2) pa_nil))) pe_non (nomark _)) (pss_one (ps_rvI v_NoText rfl (takes_of rfl rfl rfl rfl) hr (by decide) (by rfl) pe_int)) pss_nil)
      (pss_one (ps_ret (pv 2)))))
theorem eq_F__law_told_r : F__law_told_r = runP 2 2 X__law_told_r := by unfold F__law_told_r; rfl
theorem c__law_told (F : Dfn K mg "_law_told" s__law_told ["_law_web_here", "_law_thing"]) (B : Bm mg) {C_BadOrder C_BadWeb C_Broken C_NoStream C_NoText C_WebError : Addr} (Z : Clz K mg C_BadOrder C_BadWeb C_Broken C_NoStream C_NoText C_WebError)  (c_read_stream : CalX P w K mg base 4 "read_stream" (spY (clsL [C_NoText]) "line" F_read_stream_b)) : CalG P w K mg base 5 "_law_told" (spF F__law_told_r) := by
  rw [eq_F__law_told_r]
  refine cal_g F sc__law_told (fun vs H Q E h => len_F h) (fun f cdv A outer s H E hG hr => ⟨T__law_told_r (clsL [C_NoText]) C_WebError C_NoText C_BadOrder C_BadWeb C_Broken C_NoStream, ?_, fun vs Q h => go_P (n := 2) (k := 2) (ss__law_told_r Z.m__law_told rfl Z.k1__law_told Z.k3__law_told) rfl h⟩)
  unfold T__law_told_r
  exact pss_cons (ps_set (i := 2) sc__law_told.nd rfl (.inl rfl) pe_non)
      (pss_cons (ps_tryC rfl rfl sc__law_told.nd rfl rfl ⟨rfl, by decide, .inl Z.g_WebError⟩ takes_no (fun W pn xe tk => ps_set (i := 2) sc__law_told.nd rfl (.inl rfl) (pe_lst (pa_cons pe_str (pa_cons (pe_gx c_read_stream hr (by decide) hG (by rfl) tk (pa_cons (pv 0) (pa_cons (pv 1) pa_nil))) pa_nil)))) (fun a oe cls d pn hz hf => pss_oneT fun e1 => by subst e1; exact pss_cons (ps_set (i := 2) sc__law_told.nd rfl (.inl rfl) (pe_lst (pa_cons pe_str (pa_cons pe_non pa_nil)))) (pss_one (ps_if (PW.pt (pw_and (pt_val (pe_callB (call_isV Z.e_NoText hz hf) (by rfl) B.n_isinstance (by decide +kernel) (pa_cons (pv 3) (pa_cons (pe_glob (v := .ref C_NoText) (by rfl) Z.g_NoText rfl) pa_nil)))) (pw_and1 (pt_not (pt_val (pe_callB (call_isVT Z.e_NoText hz hf) (by rfl) B.n_isinstance (by decide +kernel) (pa_cons (pv 3) (pa_cons (pe_tup (pa_cons (pe_glob (v := .ref C_BadOrder) (by rfl) Z.g_BadOrder rfl) (pa_cons (pe_glob (v := .ref C_BadWeb) (by rfl) Z.g_BadWeb rfl) (pa_cons (pe_glob (v := .ref C_Broken) (by rfl) Z.g_Broken rfl) (pa_cons (pe_glob (v := .ref C_NoStream) (by rfl) Z.g_NoStream rfl) pa_nil))))) pa_nil)))))))) (pss_one (ps_set (i := 2) sc__law_told.nd rfl (.inl rfl) (pe_lst (pa_cons pe_str (pa_cons (pe_xf Z.xf_NoText Z.no_NoText hz hf (pv 3)) pa_nil))))) pss_nil))))
      (pss_one (ps_ret (pv 2))))
theorem eq_F__law_order : F__law_order = runW 1 2 X__law_order := by unfold F__law_order; rfl
theorem c__law_order (F : Dfn K mg "_law_order" s__law_order ["_law_deck_here", "_law_numbers"]) (B : Bm mg) (c__law_next : CalG P w K mg base 1 "_law_next" (spW F__law_next)) : CalG P w K mg base 2 "_law_order" (spW F__law_order) := by
  rw [eq_F__law_order]
  refine cal_g F sc__law_order (fun vs H Q E h => len_W h) (fun f cdv A outer s H E hG hr => ⟨T__law_order, ?_, fun vs Q h => go_W (n := 1) (k := 2) ss__law_order rfl h⟩)
  unfold T__law_order
  exact pss_cons (ps_set (i := 2) sc__law_order.nd rfl (.inl rfl) (pe_lst pa_nil))
      (pss_cons (ps_for PassesOwn.never rfl (PI.or (pi_list (pv 1)) (pi_tup (pv 1))) (pg_name (i := 3) sc__law_order.nd rfl (.inl rfl)) (pss_one (ps_expr (pe_bm PySem.F.plainAttrs_list PySem.F.slot_list_insert PySem.F.type_list_insert mt_insert (pv 2) (pa_cons (pe_g c__law_next hr (by decide) hG (by rfl) (pa_cons (pv 0) (pa_cons (pe_op op_addU (pe_callB call_len_seq (by rfl) B.n_len (by decide +kernel) (pa_cons (pv 2) pa_nil)) pe_int) pa_nil))) (pa_cons (pv 3) pa_nil))))))
      (pss_one (ps_ret (pe_callTy cr_tupF (by rfl) B.n_tuple (by decide +kernel) (pa_cons (pv 2) pa_nil)))))
theorem eq_F__law_room : F__law_room = runW 1 2 X__law_room := by unfold F__law_room; rfl
theorem c__law_room (F : Dfn K mg "_law_room" s__law_room ["_law_deck_here", "_law_far"]) (B : Bm mg) (c__law_next : CalG P w K mg base 1 "_law_next" (spW F__law_next)) (c__law_one : CalG P w K mg base 2 "_law_one" (spW F__law_one)) : CalG P w K mg base 3 "_law_room" (spW F__law_room) := by
  rw [eq_F__law_room]
  refine cal_g F sc__law_room (fun vs H Q E h => len_W h) (fun f cdv A outer s H E hG hr => ⟨T__law_room, ?_, fun vs Q h => go_W (n := 1) (k := 2) ss__law_room rfl h⟩)
  unfold T__law_room
  exact pss_cons (ps_set (i := 2) sc__law_room.nd rfl (.inl rfl) (pe_g c__law_one hr (by decide) hG (by rfl) (pa_cons (pv 0) (pa_cons (pe_lst (pa_cons pe_int (pa_cons pe_int (pa_cons pe_int (pa_cons pe_int (pa_cons pe_int (pa_cons pe_int pa_nil))))))) pa_nil))))
      (pss_cons (ps_set (i := 3) sc__law_room.nd rfl (.inl rfl) (pe_g c__law_one hr (by decide) hG (by rfl) (pa_cons (pv 0) (pa_cons (pe_lst (pa_cons pe_int (pa_cons pe_int (pa_cons (pe_op op_pow pe_int pe_int) (pa_cons (pe_op op_sub (pe_op op_pow pe_int pe_int) (pe_g c__law_next hr (by decide) hG (by rfl) (pa_cons (pv 0) (pa_cons pe_int pa_nil)))) (pa_cons (pe_g c__law_next hr (by decide) hG (by rfl) (pa_cons (pv 0) (pa_cons (pe_op op_pow pe_int pe_int) pa_nil))) pa_nil)))))) pa_nil))))
      (pss_one (ps_ret (pe_ix ix_seq (pe_lst (pa_cons (pv 2) (pa_cons (pv 3) pa_nil))) (pe_callTy call_int1 (by rfl) B.n_int (by decide +kernel) (pa_cons (pv 1) pa_nil)) (fun _ _ => rfl)))))
theorem eq_F__law_road : F__law_road = runW 2 5 X__law_road := by unfold F__law_road; rfl
theorem c__law_road (F : Dfn K mg "_law_road" s__law_road ["_law_deck_here", "_law_houses", "_law_far"]) (B : Bm mg) (c__law_next : CalG P w K mg base 1 "_law_next" (spW F__law_next)) (c__law_room : CalG P w K mg base 3 "_law_room" (spW F__law_room)) : CalG P w K mg base 4 "_law_road" (spW F__law_road) := by
  rw [eq_F__law_road]
  refine cal_g F sc__law_road (fun vs H Q E h => len_W h) (fun f cdv A outer s H E hG hr => ⟨T__law_road, ?_, fun vs Q h => go_W (n := 2) (k := 5) ss__law_road rfl h⟩)
  unfold T__law_road
  exact pss_cons (ps_set (i := 3) sc__law_road.nd rfl (.inl rfl) (pe_g c__law_next hr (by decide) hG (by rfl) (pa_cons (pv 0) (pa_cons (pe_op op_addU (pv 1) pe_int) pa_nil))))
      (pss_cons (ps_set (i := 4) sc__law_road.nd rfl (.inl rfl) (pe_op op_mod (pe_op op_addU (pe_op op_addU (pv 3) pe_int) (pe_g c__law_next hr (by decide) hG (by rfl) (pa_cons (pv 0) (pa_cons (pv 1) pa_nil)))) (pe_op op_addU (pv 1) pe_int)))
      (pss_cons (ps_asg (pe_lc (own := [("_law_number", 7)]) rfl sc__law_road.nd (PI.or (pi_list (pe_tupF (pa_cons (pv 3) (pa_cons (pv 4) pa_nil)))) (pi_tup (pe_tupF (pa_cons (pv 3) (pa_cons (pv 4) pa_nil))))) (blkOk_by (N := N__law_road) (sc := defScope s__law_road) (by decide +kernel)) (fun _ _ _ _ _ => (pg_name (i := 7) sc__law_road.nd rfl (.inl rfl))) (fun _ _ _ _ _ => pts_nil) (fun _ _ _ _ _ => pe_ix ix_seq (pe_lst (pa_cons pe_non (pa_cons (pe_op op_sub (pv 7) pe_int) pa_nil))) (pe_callTy call_int1 (by rfl) B.n_int (by decide +kernel) (pa_cons (pe_cmpR (op_gtU hr.units) (pv 7) pe_int (nomark _)) pa_nil)) (fun _ _ => rfl))) (PG.or (pg_tup rfl (pgs_cons (pg_name (i := 5) sc__law_road.nd rfl (.inl rfl)) (pgs_cons (pg_name (i := 6) sc__law_road.nd rfl (.inl rfl)) pgs_nil))) (pg_unl rfl (pgs_cons (pg_name (i := 5) sc__law_road.nd rfl (.inl rfl)) (pgs_cons (pg_name (i := 6) sc__law_road.nd rfl (.inl rfl)) pgs_nil)))))
      (pss_one (ps_ret (pe_tupF (pa_cons (pv 5) (pa_cons (pv 6) (pa_cons (pe_g c__law_room hr (by decide) hG (by rfl) (pa_cons (pv 0) (pa_cons (pv 2) pa_nil))) pa_nil))))))))
theorem eq_F__law_web : F__law_web = runW 3 7 X__law_web := by unfold F__law_web; rfl
theorem c__law_web (F : Dfn K mg "_law_web" s__law_web ["_law_deck_here", "_law_houses", "_law_roads", "_law_far"]) (B : Bm mg) (c__law_next : CalG P w K mg base 1 "_law_next" (spW F__law_next)) (c__law_order : CalG P w K mg base 2 "_law_order" (spW F__law_order)) (c__law_road : CalG P w K mg base 4 "_law_road" (spW F__law_road)) : CalG P w K mg base 5 "_law_web" (spW F__law_web) := by
  rw [eq_F__law_web]
  refine cal_g F sc__law_web (fun vs H Q E h => len_W h) (fun f cdv A outer s H E hG hr => ⟨T__law_web, ?_, fun vs Q h => go_W (n := 3) (k := 7) ss__law_web rfl h⟩)
  unfold T__law_web
  exact pss_cons (ps_set (i := 4) sc__law_web.nd rfl (.inr rfl) (pe_op op_addU pe_int (pe_g c__law_next hr (by decide) hG (by rfl) (pa_cons (pv 0) (pa_cons (pv 1) pa_nil)))))
      (pss_cons (ps_set (i := 5) sc__law_web.nd rfl (.inr rfl) (pe_lc (own := [("_law_k", 10)]) rfl sc__law_web.nd (pi_range1 (by rfl) B.n_range (pa_cons (pe_op op_addU pe_int (pe_g c__law_next hr (by decide) hG (by rfl) (pa_cons (pv 0) (pa_cons (pv 2) pa_nil)))) pa_nil)) (blkOk_by (N := N__law_web) (sc := defScope s__law_web) (by decide +kernel)) (fun _ _ _ _ _ => (pg_name (i := 10) sc__law_web.nd rfl (.inl rfl))) (fun _ _ _ _ _ => pts_nil) (fun _ _ _ _ _ => pe_g c__law_road hr (by decide) hG (by rfl) (pa_cons (pv 0) (pa_cons (pv 4) (pa_cons (pv 3) pa_nil))))))
      (pss_cons (ps_set (i := 6) sc__law_web.nd rfl (.inl rfl) (pe_lst pa_nil))
      (pss_cons (ps_for PassesOwn.never rfl (PI.or (pi_list (pe_tupF (pa_cons pe_int (pa_cons pe_int pa_nil)))) (pi_tup (pe_tupF (pa_cons pe_int (pa_cons pe_int pa_nil))))) (pg_name (i := 7) sc__law_web.nd rfl (.inr rfl)) (pss_cons (ps_set (i := 8) sc__law_web.nd rfl (.inl rfl) (pe_lst pa_nil))
      (pss_cons (ps_for PassesOwn.never rfl (pi_range1 (by rfl) B.n_range (pa_cons (pv 4) pa_nil)) (pg_name (i := 9) sc__law_web.nd rfl (.inr rfl)) (pss_one (ps_expr (pe_bm PySem.F.plainAttrs_list PySem.F.slot_list_append PySem.F.type_list_append mt_append (pv 8) (pa_cons (pe_g c__law_order hr (by decide) hG (by rfl) (pa_cons (pv 0) (pa_cons (pe_lc (own := [("_law_k", 10)]) rfl sc__law_web.nd (pi_range1 (by rfl) B.n_range (pa_cons (pe_callB call_len_seq (by rfl) B.n_len (by decide +kernel) (pa_cons (pv 5) pa_nil)) pa_nil)) (blkOk_by (N := N__law_web) (sc := defScope s__law_web) (by decide +kernel)) (fun _ _ _ _ _ => (pg_name (i := 10) sc__law_web.nd rfl (.inl rfl))) (fun _ _ _ _ _ => pts_one (pt_cmpR (op_eqX hr.units) (pe_ix ix_seq (pe_ix ix_seq (pv 5) (pv 10) (fun _ _ => rfl)) (pv 7) (fun _ _ => rfl)) (pv 9) (nomark _))) (fun _ _ _ _ _ => (pv 10))) pa_nil))) pa_nil)))))
      (pss_one (ps_expr (pe_bm PySem.F.plainAttrs_list PySem.F.slot_list_append PySem.F.type_list_append mt_append (pv 6) (pa_cons (pe_callTy cr_tupF (by rfl) B.n_tuple (by decide +kernel) (pa_cons (pv 8) pa_nil)) pa_nil)))))))
      (pss_one (ps_ret (pe_tupF (pa_cons (pe_callTy cr_tupF (by rfl) B.n_tuple (by decide +kernel) (pa_cons (pv 5) pa_nil)) (pa_cons (pe_ix ix_seq (pv 6) pe_int (fun _ _ => rfl)) (pa_cons (pe_ix ix_seq (pv 6) pe_int (fun _ _ => rfl)) pa_nil)))))))))
theorem eq_F_law_z175 : F_law_z175 = runP 1 9 X_law_z175 := by unfold F_law_z175; rfl
theorem ok_law {f : Addr} {fd : FuncData} (F : Fun K "law" "law" s_law f fd) (B : Bm mg) (c__law_bent_text : CalG P w K mg base 3 "_law_bent_text" (spW F__law_bent_text)) (c__law_deck : CalG P w K mg base 1 "_law_deck" (spD F__law_deck_h)) (c__law_due : CalG P w K mg base 3 "_law_due" (spF F__law_due_f)) (c__law_next : CalG P w K mg base 1 "_law_next" (spW F__law_next)) (c__law_stream : CalG P w K mg base 4 "_law_stream" (spW F__law_stream_f)) (c__law_told : CalG P w K mg base 5 "_law_told" (spF F__law_told_r)) (c__law_web : CalG P w K mg base 5 "_law_web" (spW F__law_web)) : FnG P w K mg base 6 f fd ["_law_script"] (spF F_law_z175) := by
  rw [eq_F_law_z175]
  refine fn_g F sc_law (fun vs H Q E h => len_F h) (fun cdv A outer s H E hG hr => ⟨T_law_z175, ?_, fun vs Q h => go_P (n := 1) (k := 9) ss_law_z175 rfl h⟩)
  unfold T_law_z175
  exact pss_cons (ps_set (i := 1) sc_law.nd rfl (.inl rfl) (pe_g c__law_deck hr (by decide) hG (by rfl) (pa_cons (pv 0) pa_nil)))
      (pss_cons (ps_for PassesOwn.never rfl (pi_range1 (by rfl) B.n_range (pa_cons pe_int pa_nil)) (pg_name (i := 2) sc_law.nd rfl (.inl rfl)) (pss_cons (ps_set (i := 3) sc_law.nd rfl (.inl rfl) (pe_g c__law_web hr (by decide) hG (by rfl) (pa_cons (pv 1) (pa_cons pe_int (pa_cons pe_int (pa_cons (pe_cmpR (op_eqX hr.units) (pe_g c__law_next hr (by decide) hG (by rfl) (pa_cons (pv 1) (pa_cons pe_int pa_nil))) pe_int (nomark _)) pa_nil))))))
      (pss_cons (ps_set (i := 4) sc_law.nd rfl (.inl rfl) (pe_g c__law_stream hr (by decide) hG (by rfl) (pa_cons (pv 1) (pa_cons (pv 3) (pa_cons (pe_g c__law_next hr (by decide) hG (by rfl) (pa_cons (pv 1) (pa_cons pe_int pa_nil))) pa_nil)))))
      (pss_cons (ps_set (i := 5) sc_law.nd rfl (.inl rfl) (pe_joinS pe_str (pe_lc (own := [("_law_number", 9)]) rfl sc_law.nd (PI.or (pi_list (pv 4)) (pi_tup (pv 4))) (blkOk_by (N := N_law) (sc := defScope s_law) (by decide +kernel)) (fun _ _ _ _ _ => (pg_name (i := 9) sc_law.nd rfl (.inl rfl))) (fun _ _ _ _ _ => pts_nil) (fun _ _ _ _ _ => pe_callTy cr_str1 (by rfl) B.n_str (by decide +kernel) (pa_cons (pv 9) pa_nil)))))
      (pss_cons (ps_set (i := 6) sc_law.nd rfl (.inl rfl) (pe_lst (pa_cons (pv 5) (pa_cons pe_str (pa_cons pe_str (pa_cons pe_non (pa_cons pe_int (pa_cons pe_bl (pa_cons (pv 4) (pa_cons (pe_lst (pa_cons (pv 5) pa_nil)) (pa_cons pe_dnewK pa_nil)))))))))))
      (pss_cons (ps_for PassesOwn.never rfl (pi_range1 (by rfl) B.n_range (pa_cons pe_int pa_nil)) (pg_name (i := 7) sc_law.nd rfl (.inl rfl)) (pss_one (ps_expr (pe_bm PySem.F.plainAttrs_list PySem.F.slot_list_append PySem.F.type_list_append mt_append (pv 6) (pa_cons (pe_g c__law_bent_text hr (by decide) hG (by rfl) (pa_cons (pv 1) (pa_cons (pv 5) pa_nil))) pa_nil)))))
      (pss_one (ps_for PassesOwn.never rfl (PI.or (pi_list (pv 6)) (pi_tup (pv 6))) (pg_name (i := 8) sc_law.nd rfl (.inl rfl)) (pss_one (ps_if (pt_cmpR (op_neD hr.units) (pe_callB (cr_repr hG (u65 hr)) (by rfl) B.n_repr (by decide +kernel) (pa_cons (pe_g c__law_told hr (by decide) hG (by rfl) (pa_cons (pv 3) (pa_cons (pv 8) pa_nil))) pa_nil)) (pe_callB (cr_repr hG (u65 hr)) (by rfl) B.n_repr (by decide +kernel) (pa_cons (pe_g c__law_due hr (by decide) hG (by rfl) (pa_cons (pv 3) (pa_cons (pv 8) pa_nil))) pa_nil)) (nomark _)) (pss_one (ps_ret pe_bl)) pss_nil))))))))))
      (pss_one (ps_ret pe_bl)))
end
theorem all_mk {l : PySem.W.OpenLaw} {w : World} {K : PySem.W.Frag} {h : Heap} {mg : Str → Option Value} {fa : Addr} (X : K.In h) (G : h.Ns mainGlobals mg) (hfa : mg "law" = some (.ref fa))
    {f0 : Addr} {od0 an0 : Option Addr} {sl0 : Array (Option Value)} {oc0 kV0 dc0 pm0 cd0 ct0 : Value}
    {f1 : Addr} {od1 an1 : Option Addr} {sl1 : Array (Option Value)} {oc1 kV1 dc1 pm1 cd1 ct1 : Value}
    {f2 : Addr} {od2 an2 : Option Addr} {sl2 : Array (Option Value)} {oc2 kV2 dc2 pm2 cd2 ct2 : Value}
    {f3 : Addr} {od3 an3 : Option Addr} {sl3 : Array (Option Value)} {oc3 kV3 dc3 pm3 cd3 ct3 : Value}
    {f4 : Addr} {od4 an4 : Option Addr} {sl4 : Array (Option Value)} {oc4 kV4 dc4 pm4 cd4 ct4 : Value}
    {f5 : Addr} {od5 an5 : Option Addr} {sl5 : Array (Option Value)} {oc5 kV5 dc5 pm5 cd5 ct5 : Value}
    {f6 : Addr} {od6 an6 : Option Addr} {sl6 : Array (Option Value)} {oc6 kV6 dc6 pm6 cd6 ct6 : Value}
    {f7 : Addr} {od7 an7 : Option Addr} {sl7 : Array (Option Value)} {oc7 kV7 dc7 pm7 cd7 ct7 : Value}
    {f8 : Addr} {od8 an8 : Option Addr} {sl8 : Array (Option Value)} {oc8 kV8 dc8 pm8 cd8 ct8 : Value}
    {f9 : Addr} {od9 an9 : Option Addr} {sl9 : Array (Option Value)} {oc9 kV9 dc9 pm9 cd9 ct9 : Value}
    {f10 : Addr} {od10 an10 : Option Addr} {sl10 : Array (Option Value)} {oc10 kV10 dc10 pm10 cd10 ct10 : Value}
    {f11 : Addr} {od11 an11 : Option Addr} {sl11 : Array (Option Value)} {oc11 kV11 dc11 pm11 cd11 ct11 : Value}
    {f12 : Addr} {od12 an12 : Option Addr} {sl12 : Array (Option Value)} {oc12 kV12 dc12 pm12 cd12 ct12 : Value}
    {f13 : Addr} {od13 an13 : Option Addr} {sl13 : Array (Option Value)} {oc13 kV13 dc13 pm13 cd13 ct13 : Value}
    {f14 : Addr} {od14 an14 : Option Addr} {sl14 : Array (Option Value)} {oc14 kV14 dc14 pm14 cd14 ct14 : Value}
    {f15 : Addr} {od15 an15 : Option Addr} {sl15 : Array (Option Value)} {oc15 kV15 dc15 pm15 cd15 ct15 : Value}
    {f16 : Addr} {od16 an16 : Option Addr} {sl16 : Array (Option Value)} {oc16 kV16 dc16 pm16 cd16 ct16 : Value}
    {f17 : Addr} {od17 an17 : Option Addr} {sl17 : Array (Option Value)} {oc17 kV17 dc17 pm17 cd17 ct17 : Value}
    {f18 : Addr} {od18 an18 : Option Addr} {sl18 : Array (Option Value)} {oc18 kV18 dc18 pm18 cd18 ct18 : Value}
    {f19 : Addr} {od19 an19 : Option Addr} {sl19 : Array (Option Value)} {oc19 kV19 dc19 pm19 cd19 ct19 : Value}
    {f20 : Addr} {od20 an20 : Option Addr} {sl20 : Array (Option Value)} {oc20 kV20 dc20 pm20 cd20 ct20 : Value}
    {f21 : Addr} {od21 an21 : Option Addr} {sl21 : Array (Option Value)} {oc21 kV21 dc21 pm21 cd21 ct21 : Value}
    {f22 : Addr} {od22 an22 : Option Addr} {sl22 : Array (Option Value)} {oc22 kV22 dc22 pm22 cd22 ct22 : Value}
    {f23 : Addr} {od23 an23 : Option Addr} {sl23 : Array (Option Value)} {oc23 kV23 dc23 pm23 cd23 ct23 : Value}
    {f24 : Addr} {od24 an24 : Option Addr} {sl24 : Array (Option Value)} {oc24 kV24 dc24 pm24 cd24 ct24 : Value}
    {t_FIGURES : Tok}
    {C_BadOrder : Addr}
    {C_BadWeb : Addr}
    {C_Broken : Addr}
    {C_NoStream : Addr}
    {C_NoText : Addr}
    {o_NoText : Obj} {I_NoText : Addr} {odI anI : Option Addr} {slI : Array (Option Value)} {ocI kVI dcI pmI cdI ctI : Value}
    {C_WebError : Addr}
    (a0 : PySem.W.nsIn K mainGlobals "_law_next" = some (some (.ref f0))) (l0 : K.lookup f0 = some ⟨oc0, od0, .func (PySem.W.fnOf "_law_next" "_law_next" (defArgs s__law_next) (defBody s__law_next) (defScope s__law_next) .none kV0 dc0 pm0 an0 cd0 ct0), sl0⟩) (c0 : PySem.W.codeIn K cd0 "_law_next" = true) (k0 : PySem.W.keepIn K (.ref f0) = true)
    (a1 : PySem.W.nsIn K mainGlobals "_law_one" = some (some (.ref f1))) (l1 : K.lookup f1 = some ⟨oc1, od1, .func (PySem.W.fnOf "_law_one" "_law_one" (defArgs s__law_one) (defBody s__law_one) (defScope s__law_one) .none kV1 dc1 pm1 an1 cd1 ct1), sl1⟩) (c1 : PySem.W.codeIn K cd1 "_law_one" = true) (k1 : PySem.W.keepIn K (.ref f1) = true)
    (a2 : PySem.W.nsIn K mainGlobals "_law_bent_text" = some (some (.ref f2))) (l2 : K.lookup f2 = some ⟨oc2, od2, .func (PySem.W.fnOf "_law_bent_text" "_law_bent_text" (defArgs s__law_bent_text) (defBody s__law_bent_text) (defScope s__law_bent_text) .none kV2 dc2 pm2 an2 cd2 ct2), sl2⟩) (c2 : PySem.W.codeIn K cd2 "_law_bent_text" = true) (k2 : PySem.W.keepIn K (.ref f2) = true)
    (a3 : PySem.W.nsIn K mainGlobals "_law_deck" = some (some (.ref f3))) (l3 : K.lookup f3 = some ⟨oc3, od3, .func (PySem.W.fnOf "_law_deck" "_law_deck" (defArgs s__law_deck) (defBody s__law_deck) (defScope s__law_deck) .none kV3 dc3 pm3 an3 cd3 ct3), sl3⟩) (c3 : PySem.W.codeIn K cd3 "_law_deck" = true) (k3 : PySem.W.keepIn K (.ref f3) = true)
    (a4 : PySem.W.nsIn K mainGlobals "_law_number_in" = some (some (.ref f4))) (l4 : K.lookup f4 = some ⟨oc4, od4, .func (PySem.W.fnOf "_law_number_in" "_law_number_in" (defArgs s__law_number_in) (defBody s__law_number_in) (defScope s__law_number_in) .none kV4 dc4 pm4 an4 cd4 ct4), sl4⟩) (c4 : PySem.W.codeIn K cd4 "_law_number_in" = true) (k4 : PySem.W.keepIn K (.ref f4) = true)
    (a5 : PySem.W.nsIn K mainGlobals "_law_sum" = some (some (.ref f5))) (l5 : K.lookup f5 = some ⟨oc5, od5, .func (PySem.W.fnOf "_law_sum" "_law_sum" (defArgs s__law_sum) (defBody s__law_sum) (defScope s__law_sum) .none kV5 dc5 pm5 an5 cd5 ct5), sl5⟩) (c5 : PySem.W.codeIn K cd5 "_law_sum" = true) (k5 : PySem.W.keepIn K (.ref f5) = true)
    (a6 : PySem.W.nsIn K mainGlobals "_law_whole" = some (some (.ref f6))) (l6 : K.lookup f6 = some ⟨oc6, od6, .func (PySem.W.fnOf "_law_whole" "_law_whole" (defArgs s__law_whole) (defBody s__law_whole) (defScope s__law_whole) .none kV6 dc6 pm6 an6 cd6 ct6), sl6⟩) (c6 : PySem.W.codeIn K cd6 "_law_whole" = true) (k6 : PySem.W.keepIn K (.ref f6) = true)
    (a7 : PySem.W.nsIn K mainGlobals "_law_stream_fault" = some (some (.ref f7))) (l7 : K.lookup f7 = some ⟨oc7, od7, .func (PySem.W.fnOf "_law_stream_fault" "_law_stream_fault" (defArgs s__law_stream_fault) (defBody s__law_stream_fault) (defScope s__law_stream_fault) .none kV7 dc7 pm7 an7 cd7 ct7), sl7⟩) (c7 : PySem.W.codeIn K cd7 "_law_stream_fault" = true) (k7 : PySem.W.keepIn K (.ref f7) = true)
    (a8 : PySem.W.nsIn K mainGlobals "_law_due" = some (some (.ref f8))) (l8 : K.lookup f8 = some ⟨oc8, od8, .func (PySem.W.fnOf "_law_due" "_law_due" (defArgs s__law_due) (defBody s__law_due) (defScope s__law_due) .none kV8 dc8 pm8 an8 cd8 ct8), sl8⟩) (c8 : PySem.W.codeIn K cd8 "_law_due" = true) (k8 : PySem.W.keepIn K (.ref f8) = true)
    (a9 : PySem.W.nsIn K mainGlobals "_law_round" = some (some (.ref f9))) (l9 : K.lookup f9 = some ⟨oc9, od9, .func (PySem.W.fnOf "_law_round" "_law_round" (defArgs s__law_round) (defBody s__law_round) (defScope s__law_round) .none kV9 dc9 pm9 an9 cd9 ct9), sl9⟩) (c9 : PySem.W.codeIn K cd9 "_law_round" = true) (k9 : PySem.W.keepIn K (.ref f9) = true)
    (a10 : PySem.W.nsIn K mainGlobals "_law_stream" = some (some (.ref f10))) (l10 : K.lookup f10 = some ⟨oc10, od10, .func (PySem.W.fnOf "_law_stream" "_law_stream" (defArgs s__law_stream) (defBody s__law_stream) (defScope s__law_stream) .none kV10 dc10 pm10 an10 cd10 ct10), sl10⟩) (c10 : PySem.W.codeIn K cd10 "_law_stream" = true) (k10 : PySem.W.keepIn K (.ref f10) = true)
    (a11 : PySem.W.nsIn K mainGlobals "check_text" = some (some (.ref f11))) (l11 : K.lookup f11 = some ⟨oc11, od11, .func (PySem.W.fnOf "check_text" "check_text" (defArgs s_check_text) (defBody s_check_text) (defScope s_check_text) .none kV11 dc11 pm11 an11 cd11 ct11), sl11⟩) (c11 : PySem.W.codeIn K cd11 "check_text" = true) (k11 : PySem.W.keepIn K (.ref f11) = true)
    (a12 : PySem.W.nsIn K mainGlobals "number_in" = some (some (.ref f12))) (l12 : K.lookup f12 = some ⟨oc12, od12, .func (PySem.W.fnOf "number_in" "number_in" (defArgs s_number_in) (defBody s_number_in) (defScope s_number_in) .none kV12 dc12 pm12 an12 cd12 ct12), sl12⟩) (c12 : PySem.W.codeIn K cd12 "number_in" = true) (k12 : PySem.W.keepIn K (.ref f12) = true)
    (a13 : PySem.W.nsIn K mainGlobals "borne" = some (some (.ref f13))) (l13 : K.lookup f13 = some ⟨oc13, od13, .func (PySem.W.fnOf "borne" "borne" (defArgs s_borne) (defBody s_borne) (defScope s_borne) .none kV13 dc13 pm13 an13 cd13 ct13), sl13⟩) (c13 : PySem.W.codeIn K cd13 "borne" = true) (k13 : PySem.W.keepIn K (.ref f13) = true)
    (a14 : PySem.W.nsIn K mainGlobals "is_number" = some (some (.ref f14))) (l14 : K.lookup f14 = some ⟨oc14, od14, .func (PySem.W.fnOf "is_number" "is_number" (defArgs s_is_number) (defBody s_is_number) (defScope s_is_number) .none kV14 dc14 pm14 an14 cd14 ct14), sl14⟩) (c14 : PySem.W.codeIn K cd14 "is_number" = true) (k14 : PySem.W.keepIn K (.ref f14) = true)
    (a15 : PySem.W.nsIn K mainGlobals "is_tuple_of" = some (some (.ref f15))) (l15 : K.lookup f15 = some ⟨oc15, od15, .func (PySem.W.fnOf "is_tuple_of" "is_tuple_of" (defArgs s_is_tuple_of) (defBody s_is_tuple_of) (defScope s_is_tuple_of) .none kV15 dc15 pm15 an15 cd15 ct15), sl15⟩) (c15 : PySem.W.codeIn K cd15 "is_tuple_of" = true) (k15 : PySem.W.keepIn K (.ref f15) = true)
    (a16 : PySem.W.nsIn K mainGlobals "is_form" = some (some (.ref f16))) (l16 : K.lookup f16 = some ⟨oc16, od16, .func (PySem.W.fnOf "is_form" "is_form" (defArgs s_is_form) (defBody s_is_form) (defScope s_is_form) .none kV16 dc16 pm16 an16 cd16 ct16), sl16⟩) (c16 : PySem.W.codeIn K cd16 "is_form" = true) (k16 : PySem.W.keepIn K (.ref f16) = true)
    (a17 : PySem.W.nsIn K mainGlobals "streamfault" = some (some (.ref f17))) (l17 : K.lookup f17 = some ⟨oc17, od17, .func (PySem.W.fnOf "streamfault" "streamfault" (defArgs s_streamfault) (defBody s_streamfault) (defScope s_streamfault) .none kV17 dc17 pm17 an17 cd17 ct17), sl17⟩) (c17 : PySem.W.codeIn K cd17 "streamfault" = true) (k17 : PySem.W.keepIn K (.ref f17) = true)
    (a18 : PySem.W.nsIn K mainGlobals "read_stream" = some (some (.ref f18))) (l18 : K.lookup f18 = some ⟨oc18, od18, .func (PySem.W.fnOf "read_stream" "read_stream" (defArgs s_read_stream) (defBody s_read_stream) (defScope s_read_stream) .none kV18 dc18 pm18 an18 cd18 ct18), sl18⟩) (c18 : PySem.W.codeIn K cd18 "read_stream" = true) (k18 : PySem.W.keepIn K (.ref f18) = true)
    (a19 : PySem.W.nsIn K mainGlobals "_law_told" = some (some (.ref f19))) (l19 : K.lookup f19 = some ⟨oc19, od19, .func (PySem.W.fnOf "_law_told" "_law_told" (defArgs s__law_told) (defBody s__law_told) (defScope s__law_told) .none kV19 dc19 pm19 an19 cd19 ct19), sl19⟩) (c19 : PySem.W.codeIn K cd19 "_law_told" = true) (k19 : PySem.W.keepIn K (.ref f19) = true)
    (a20 : PySem.W.nsIn K mainGlobals "_law_order" = some (some (.ref f20))) (l20 : K.lookup f20 = some ⟨oc20, od20, .func (PySem.W.fnOf "_law_order" "_law_order" (defArgs s__law_order) (defBody s__law_order) (defScope s__law_order) .none kV20 dc20 pm20 an20 cd20 ct20), sl20⟩) (c20 : PySem.W.codeIn K cd20 "_law_order" = true) (k20 : PySem.W.keepIn K (.ref f20) = true)
    (a21 : PySem.W.nsIn K mainGlobals "_law_room" = some (some (.ref f21))) (l21 : K.lookup f21 = some ⟨oc21, od21, .func (PySem.W.fnOf "_law_room" "_law_room" (defArgs s__law_room) (defBody s__law_room) (defScope s__law_room) .none kV21 dc21 pm21 an21 cd21 ct21), sl21⟩) (c21 : PySem.W.codeIn K cd21 "_law_room" = true) (k21 : PySem.W.keepIn K (.ref f21) = true)
    (a22 : PySem.W.nsIn K mainGlobals "_law_road" = some (some (.ref f22))) (l22 : K.lookup f22 = some ⟨oc22, od22, .func (PySem.W.fnOf "_law_road" "_law_road" (defArgs s__law_road) (defBody s__law_road) (defScope s__law_road) .none kV22 dc22 pm22 an22 cd22 ct22), sl22⟩) (c22 : PySem.W.codeIn K cd22 "_law_road" = true) (k22 : PySem.W.keepIn K (.ref f22) = true)
    (a23 : PySem.W.nsIn K mainGlobals "_law_web" = some (some (.ref f23))) (l23 : K.lookup f23 = some ⟨oc23, od23, .func (PySem.W.fnOf "_law_web" "_law_web" (defArgs s__law_web) (defBody s__law_web) (defScope s__law_web) .none kV23 dc23 pm23 an23 cd23 ct23), sl23⟩) (c23 : PySem.W.codeIn K cd23 "_law_web" = true) (k23 : PySem.W.keepIn K (.ref f23) = true)
    (a24 : PySem.W.nsIn K mainGlobals "law" = some (some (.ref f24))) (l24 : K.lookup f24 = some ⟨oc24, od24, .func (PySem.W.fnOf "law" "law" (defArgs s_law) (defBody s_law) (defScope s_law) .none kV24 dc24 pm24 an24 cd24 ct24), sl24⟩) (c24 : PySem.W.codeIn K cd24 "law" = true) (k24 : PySem.W.keepIn K (.ref f24) = true)
    (v_FIGURES : PySem.W.nsIn K mainGlobals "FIGURES" = some (some (.int 13 t_FIGURES)))
    (z_abs : PySem.W.nsIn K mainGlobals "abs" = some none)
    (z_all : PySem.W.nsIn K mainGlobals "all" = some none)
    (z_bool : PySem.W.nsIn K mainGlobals "bool" = some none)
    (z_enumerate : PySem.W.nsIn K mainGlobals "enumerate" = some none)
    (z_int : PySem.W.nsIn K mainGlobals "int" = some none)
    (z_isinstance : PySem.W.nsIn K mainGlobals "isinstance" = some none)
    (z_len : PySem.W.nsIn K mainGlobals "len" = some none)
    (z_min : PySem.W.nsIn K mainGlobals "min" = some none)
    (z_range : PySem.W.nsIn K mainGlobals "range" = some none)
    (z_repr : PySem.W.nsIn K mainGlobals "repr" = some none)
    (z_str : PySem.W.nsIn K mainGlobals "str" = some none)
    (z_sum : PySem.W.nsIn K mainGlobals "sum" = some none)
    (z_tuple : PySem.W.nsIn K mainGlobals "tuple" = some none)
    (y_BadOrder : PySem.W.nsIn K mainGlobals "BadOrder" = some (some (.ref C_BadOrder)))
    (yb_BadOrder : PySem.W.subIn K (.ref C_BadOrder) (.type "BaseException") = some true) (yt_BadOrder : PySem.W.typeIn K (.ref C_BadOrder) = some (.type "type")) (yh_BadOrder : PySem.W.hasDictIn K C_BadOrder = true)
    (y_BadWeb : PySem.W.nsIn K mainGlobals "BadWeb" = some (some (.ref C_BadWeb)))
    (yb_BadWeb : PySem.W.subIn K (.ref C_BadWeb) (.type "BaseException") = some true) (yt_BadWeb : PySem.W.typeIn K (.ref C_BadWeb) = some (.type "type")) (yh_BadWeb : PySem.W.hasDictIn K C_BadWeb = true)
    (y_Broken : PySem.W.nsIn K mainGlobals "Broken" = some (some (.ref C_Broken)))
    (yb_Broken : PySem.W.subIn K (.ref C_Broken) (.type "BaseException") = some true) (yt_Broken : PySem.W.typeIn K (.ref C_Broken) = some (.type "type")) (yh_Broken : PySem.W.hasDictIn K C_Broken = true)
    (y_NoStream : PySem.W.nsIn K mainGlobals "NoStream" = some (some (.ref C_NoStream)))
    (yb_NoStream : PySem.W.subIn K (.ref C_NoStream) (.type "BaseException") = some true) (yt_NoStream : PySem.W.typeIn K (.ref C_NoStream) = some (.type "type")) (yh_NoStream : PySem.W.hasDictIn K C_NoStream = true)
    (y_NoText : PySem.W.nsIn K mainGlobals "NoText" = some (some (.ref C_NoText)))
    (yb_NoText : PySem.W.subIn K (.ref C_NoText) (.type "BaseException") = some true) (yt_NoText : PySem.W.typeIn K (.ref C_NoText) = some (.type "type")) (yh_NoText : PySem.W.hasDictIn K C_NoText = true)
    (yk_NoText : PySem.W.keepIn K (.ref C_NoText) = true)
    (vl_NoText : K.lookup C_NoText = some o_NoText)
    (vo_NoText : oexO C_NoText o_NoText = true)
    (vs_NoText : PySem.W.findIn K (.ref C_NoText) "__setattr__" = some (some (.builtin "object.__setattr__")))
    (vi_NoText : PySem.W.findIn K (.ref C_NoText) "__init__" = some (some (.ref I_NoText)))
    (vt_NoText : PySem.W.typeIn K (.ref I_NoText) = some (.type "function"))
    (vn_NoText : PySem.W.findIn K (.ref C_NoText) "line" = some none)
    (vf_NoText : K.lookup I_NoText = some ⟨ocI, odI, .func (PySem.W.fnOf "__init__" "NoText.__init__" (defArgs s_init) (defBody s_init) (defScope s_init) .none kVI dcI pmI anI cdI ctI), slI⟩)
    (vc_NoText : PySem.W.codeIn K cdI "NoText.__init__" = true)
    (y_WebError : PySem.W.nsIn K mainGlobals "WebError" = some (some (.ref C_WebError)))
    (yb_WebError : PySem.W.subIn K (.ref C_WebError) (.type "BaseException") = some true) (yt_WebError : PySem.W.typeIn K (.ref C_WebError) = some (.type "type")) (yh_WebError : PySem.W.hasDictIn K C_WebError = true)
    (ye0_NoText : PySem.W.findIn K (.ref C_NoText) "__getattribute__" = some (some (.builtin "BaseException.__getattribute__")))
    (ye1_NoText : PySem.W.findIn K (.ref C_NoText) "__getattr__" = some none)
    (ye2_NoText : PySem.W.findIn K (.ref C_NoText) "__class__" = some (some (.builtin "object.__class__")))
    (ye3_NoText : PySem.W.specialIn K (.builtin "object.__class__") "__get__" = some (some (.builtin "getset_descriptor.__get__")))
    (ye4_NoText : PySem.W.takesIn K (.builtin "object.__class__") = some true)
    (ye5_NoText : PySem.W.mroIn K C_NoText (.type "object") = some true)
    (ye6_NoText : PySem.W.subIn K (.ref C_NoText) (.type "ValueError") = some true)
    (yk_NoText_NoText : PySem.W.subIn K (.ref C_NoText) (.ref C_NoText) = some true)
    (yk_NoText_BadOrder : PySem.W.subIn K (.ref C_NoText) (.ref C_BadOrder) = some false)
    (yk_NoText_BadWeb : PySem.W.subIn K (.ref C_NoText) (.ref C_BadWeb) = some false)
    (yk_NoText_Broken : PySem.W.subIn K (.ref C_NoText) (.ref C_Broken) = some false)
    (yk_NoText_NoStream : PySem.W.subIn K (.ref C_NoText) (.ref C_NoStream) = some false)
    (ys_NoText_WebError : PySem.W.subIn K (.ref C_NoText) (.ref C_WebError) = some true) :
    ∃ fd : FuncData, (∀ (s : Shared) (v : Value), BindsTo s fd ⟨[v], []⟩ [("_law_script", v)]) ∧ ∀ base : Heap, K.In base → base.Ns mainGlobals mg → FnG l.prog w K mg base 6 fa fd ["_law_script"] (@spF ⟨K⟩ F_law_z175) := by
  letI : KK := ⟨K⟩
  have e := hfa.symm.trans (PySem.W.mg_of X G a24)
  cases e
  have B : Bm mg := ⟨PySem.W.mg_none_of X G z_abs, PySem.W.mg_none_of X G z_all, PySem.W.mg_none_of X G z_bool, PySem.W.mg_none_of X G z_enumerate, PySem.W.mg_none_of X G z_int, PySem.W.mg_none_of X G z_isinstance, PySem.W.mg_none_of X G z_len, PySem.W.mg_none_of X G z_min, PySem.W.mg_none_of X G z_range, PySem.W.mg_none_of X G z_repr, PySem.W.mg_none_of X G z_str, PySem.W.mg_none_of X G z_sum, PySem.W.mg_none_of X G z_tuple⟩
  have Z : Clz K mg C_BadOrder C_BadWeb C_Broken C_NoStream C_NoText C_WebError := ⟨PySem.W.mg_of X G y_BadOrder, PySem.W.mg_of X G y_BadWeb, PySem.W.mg_of X G y_Broken, PySem.W.mg_of X G y_NoStream, PySem.W.mg_of X G y_NoText, PySem.W.mg_of X G y_WebError, ⟨ye0_NoText, ye1_NoText, yb_NoText, yh_NoText⟩, vn_NoText, kit_ref yh_NoText yt_NoText yk_NoText_NoText (fun _ => rfl), kitAny_cons (kit_ref yh_BadOrder yt_BadOrder yk_NoText_BadOrder (fun z => by cases z; rw [yk_NoText_NoText] at yk_NoText_BadOrder; cases yk_NoText_BadOrder)) (fun _ => kitAny_cons (kit_ref yh_BadWeb yt_BadWeb yk_NoText_BadWeb (fun z => by cases z; rw [yk_NoText_NoText] at yk_NoText_BadWeb; cases yk_NoText_BadWeb)) (fun _ => kitAny_cons (kit_ref yh_Broken yt_Broken yk_NoText_Broken (fun z => by cases z; rw [yk_NoText_NoText] at yk_NoText_Broken; cases yk_NoText_Broken)) (fun _ => kitAny_cons (kit_ref yh_NoStream yt_NoStream yk_NoText_NoStream (fun z => by cases z; rw [yk_NoText_NoText] at yk_NoText_NoStream; cases yk_NoText_NoStream)) (fun _ => rfl) (fun z => nomatch z)) (fun z => nomatch z)) (fun z => nomatch z)) (fun z => nomatch z), ⟨ye0_NoText, ye1_NoText, yb_NoText, yh_NoText, ye2_NoText, ye3_NoText, ye4_NoText, ye5_NoText⟩, (fun n hn => by simp only [List.mem_cons, List.not_mem_nil, or_false] at hn; rcases hn with rfl <;> first | exact PySem.W.exm_ref yb_WebError yh_WebError yt_WebError ys_NoText_WebError)⟩
  have D0 : Dfn K mg "_law_next" s__law_next ["_law_deck_here", "_law_many"] := dfn_mk X G a0 l0 c0 k0 fun _ _ _ _ _ _ us hl => match us, hl with | [_, _], _ => rfl
  have D1 : Dfn K mg "_law_one" s__law_one ["_law_deck_here", "_law_some"] := dfn_mk X G a1 l1 c1 k1 fun _ _ _ _ _ _ us hl => match us, hl with | [_, _], _ => rfl
  have D2 : Dfn K mg "_law_bent_text" s__law_bent_text ["_law_deck_here", "_law_text"] := dfn_mk X G a2 l2 c2 k2 fun _ _ _ _ _ _ us hl => match us, hl with | [_, _], _ => rfl
  have D3 : Dfn K mg "_law_deck" s__law_deck ["_law_script"] := dfn_mk X G a3 l3 c3 k3 fun _ _ _ _ _ _ us hl => match us, hl with | [_], _ => rfl
  have D4 : Dfn K mg "_law_number_in" s__law_number_in ["_law_word", "_law_most"] := dfn_mk X G a4 l4 c4 k4 fun _ _ _ _ _ _ us hl => match us, hl with | [_, _], _ => rfl
  have D5 : Dfn K mg "_law_sum" s__law_sum ["_law_web_here", "_law_bears", "_law_side", "_law_house"] := dfn_mk X G a5 l5 c5 k5 fun _ _ _ _ _ _ us hl => match us, hl with | [_, _, _, _], _ => rfl
  have D6 : Dfn K mg "_law_whole" s__law_whole ["_law_thing"] := dfn_mk X G a6 l6 c6 k6 fun _ _ _ _ _ _ us hl => match us, hl with | [_], _ => rfl
  have D7 : Dfn K mg "_law_stream_fault" s__law_stream_fault ["_law_web_here", "_law_thing"] := dfn_mk X G a7 l7 c7 k7 fun _ _ _ _ _ _ us hl => match us, hl with | [_, _], _ => rfl
  have D8 : Dfn K mg "_law_due" s__law_due ["_law_web_here", "_law_thing"] := dfn_mk X G a8 l8 c8 k8 fun _ _ _ _ _ _ us hl => match us, hl with | [_, _], _ => rfl
  have D9 : Dfn K mg "_law_round" s__law_round ["_law_deck_here", "_law_web_here", "_law_bears"] := dfn_mk X G a9 l9 c9 k9 fun _ _ _ _ _ _ us hl => match us, hl with | [_, _, _], _ => rfl
  have D10 : Dfn K mg "_law_stream" s__law_stream ["_law_deck_here", "_law_web_here", "_law_several"] := dfn_mk X G a10 l10 c10 k10 fun _ _ _ _ _ _ us hl => match us, hl with | [_, _, _], _ => rfl
  have D11 : Dfn K mg "check_text" s_check_text ["thing"] := dfn_mk X G a11 l11 c11 k11 fun _ _ _ _ _ _ us hl => match us, hl with | [_], _ => rfl
  have D12 : Dfn K mg "number_in" s_number_in ["word"] := dfn_mk X G a12 l12 c12 k12 fun _ _ _ _ _ _ us hl => match us, hl with | [_], _ => rfl
  have D13 : Dfn K mg "borne" s_borne ["bears", "numbers"] := dfn_mk X G a13 l13 c13 k13 fun _ _ _ _ _ _ us hl => match us, hl with | [_, _], _ => rfl
  have D14 : Dfn K mg "is_number" s_is_number ["thing"] := dfn_mk X G a14 l14 c14 k14 fun _ _ _ _ _ _ us hl => match us, hl with | [_], _ => rfl
  have D15 : Dfn K mg "is_tuple_of" s_is_tuple_of ["thing", "least", "most"] := dfn_mk X G a15 l15 c15 k15 fun _ _ _ _ _ _ us hl => match us, hl with | [_, _, _], _ => rfl
  have D16 : Dfn K mg "is_form" s_is_form ["thing", "many"] := dfn_mk X G a16 l16 c16 k16 fun _ _ _ _ _ _ us hl => match us, hl with | [_, _], _ => rfl
  have D17 : Dfn K mg "streamfault" s_streamfault ["web", "thing"] := dfn_mk X G a17 l17 c17 k17 fun _ _ _ _ _ _ us hl => match us, hl with | [_, _], _ => rfl
  have D18 : Dfn K mg "read_stream" s_read_stream ["web", "thing"] := dfn_mk X G a18 l18 c18 k18 fun _ _ _ _ _ _ us hl => match us, hl with | [_, _], _ => rfl
  have D19 : Dfn K mg "_law_told" s__law_told ["_law_web_here", "_law_thing"] := dfn_mk X G a19 l19 c19 k19 fun _ _ _ _ _ _ us hl => match us, hl with | [_, _], _ => rfl
  have D20 : Dfn K mg "_law_order" s__law_order ["_law_deck_here", "_law_numbers"] := dfn_mk X G a20 l20 c20 k20 fun _ _ _ _ _ _ us hl => match us, hl with | [_, _], _ => rfl
  have D21 : Dfn K mg "_law_room" s__law_room ["_law_deck_here", "_law_far"] := dfn_mk X G a21 l21 c21 k21 fun _ _ _ _ _ _ us hl => match us, hl with | [_, _], _ => rfl
  have D22 : Dfn K mg "_law_road" s__law_road ["_law_deck_here", "_law_houses", "_law_far"] := dfn_mk X G a22 l22 c22 k22 fun _ _ _ _ _ _ us hl => match us, hl with | [_, _, _], _ => rfl
  have D23 : Dfn K mg "_law_web" s__law_web ["_law_deck_here", "_law_houses", "_law_roads", "_law_far"] := dfn_mk X G a23 l23 c23 k23 fun _ _ _ _ _ _ us hl => match us, hl with | [_, _, _, _], _ => rfl
  refine ⟨PySem.W.fnOf "law" "law" (defArgs s_law) (defBody s_law) (defScope s_law) .none kV24 dc24 pm24 an24 cd24 ct24, fun s v => .of_eq rfl, fun base _ _ => ?_⟩
  have V_NoText : InitOk l.prog w K mg base "NoText" C_NoText "line" := init_ok (st := s_init) (PySem.W.mg_of X G y_NoText) vl_NoText vo_NoText vs_NoText yb_NoText yt_NoText yk_NoText vi_NoText vt_NoText vn_NoText vf_NoText vc_NoText (fnScope_init) (fun _ _ _ _ _ _ us hl => match us, hl with | [_, _], _ => rfl) (fun A outer s H E => pss_one (ps_ost (pv 0) (pv 1)))
  have C__law_next := c__law_next (P := l.prog) (w := w) (base := base) D0 B 
  have C__law_one := c__law_one (P := l.prog) (w := w) (base := base) D1 B C__law_next
  have C__law_bent_text := c__law_bent_text (P := l.prog) (w := w) (base := base) D2 B C__law_next C__law_one
  have C__law_deck := c__law_deck (P := l.prog) (w := w) (base := base) D3 B 
  have C__law_number_in := c__law_number_in (P := l.prog) (w := w) (base := base) D4 B 
  have C__law_sum := c__law_sum (P := l.prog) (w := w) (base := base) D5 B 
  have C__law_whole := c__law_whole (P := l.prog) (w := w) (base := base) D6 B 
  have C__law_stream_fault := c__law_stream_fault (P := l.prog) (w := w) (base := base) D7 B C__law_sum C__law_whole
  have C__law_due := c__law_due (P := l.prog) (w := w) (base := base) D8 B C__law_number_in C__law_stream_fault
  have C__law_round := c__law_round (P := l.prog) (w := w) (base := base) D9 B C__law_next C__law_one
  have C__law_stream := c__law_stream (P := l.prog) (w := w) (base := base) D10 B C__law_next C__law_one C__law_round
  have C_check_text := c_check_text (P := l.prog) (w := w) (base := base) D11 B Z V_NoText
  have C_number_in := c_number_in (P := l.prog) (w := w) (base := base) D12 B (PySem.W.mg_of X G v_FIGURES)
  have C_borne := c_borne (P := l.prog) (w := w) (base := base) D13 B 
  have C_is_number := c_is_number (P := l.prog) (w := w) (base := base) D14 B 
  have C_is_tuple_of := c_is_tuple_of (P := l.prog) (w := w) (base := base) D15 B 
  have C_is_form := c_is_form (P := l.prog) (w := w) (base := base) D16 B C_is_number C_is_tuple_of
  have C_streamfault := c_streamfault (P := l.prog) (w := w) (base := base) D17 B C_borne C_is_form
  have C_read_stream := c_read_stream (P := l.prog) (w := w) (base := base) D18 B Z V_NoText C_check_text C_number_in C_streamfault
  have C__law_told := c__law_told (P := l.prog) (w := w) (base := base) D19 B Z C_read_stream
  have C__law_order := c__law_order (P := l.prog) (w := w) (base := base) D20 B C__law_next
  have C__law_room := c__law_room (P := l.prog) (w := w) (base := base) D21 B C__law_next C__law_one
  have C__law_road := c__law_road (P := l.prog) (w := w) (base := base) D22 B C__law_next C__law_room
  have C__law_web := c__law_web (P := l.prog) (w := w) (base := base) D23 B C__law_next C__law_order C__law_road
  exact ok_law (fun_mk (st := s_law) l24 c24 k24) B C__law_bent_text C__law_deck C__law_due C__law_next C__law_stream C__law_told C__law_web
end Row
open PySem PySem.W PyProof.Rows
set_option maxHeartbeats 0 in
theorem PySem.Challenge.cw_unturned_k79_texts_of_no_streams_holds : PySem.Challenge.rw_unturned_k79_texts_of_no_streams.Holds := by
  w_on; o_law; k_head; (case hw => w_witness2)
  k_fill
  refine Uv.walk_v (l := PySem.Challenge.rw_unturned_k79_texts_of_no_streams) (n := 63) (k := 6) (x := "_law_script") (f := Fn.F_law_z175) rfl (by decide) rfl ⟨rfl, by decide, by decide⟩ (fun w h Y => PySem.W.kIn_of Y) ?F Fn.k79
  case F =>
    intro w mg fa h KX G hmg
    refine' Row.all_mk KX G hmg ?a0 ?l0 ?c0 ?k0 ?a1 ?l1 ?c1 ?k1 ?a2 ?l2 ?c2 ?k2 ?a3 ?l3 ?c3 ?k3 ?a4 ?l4 ?c4 ?k4 ?a5 ?l5 ?c5 ?k5 ?a6 ?l6 ?c6 ?k6 ?a7 ?l7 ?c7 ?k7 ?a8 ?l8 ?c8 ?k8 ?a9 ?l9 ?c9 ?k9 ?a10 ?l10 ?c10 ?k10 ?a11 ?l11 ?c11 ?k11 ?a12 ?l12 ?c12 ?k12 ?a13 ?l13 ?c13 ?k13 ?a14 ?l14 ?c14 ?k14 ?a15 ?l15 ?c15 ?k15 ?a16 ?l16 ?c16 ?k16 ?a17 ?l17 ?c17 ?k17 ?a18 ?l18 ?c18 ?k18 ?a19 ?l19 ?c19 ?k19 ?a20 ?l20 ?c20 ?k20 ?a21 ?l21 ?c21 ?k21 ?a22 ?l22 ?c22 ?k22 ?a23 ?l23 ?c23 ?k23 ?a24 ?l24 ?c24 ?k24 ?v_FIGURES ?z_abs ?z_all ?z_bool ?z_enumerate ?z_int ?z_isinstance ?z_len ?z_min ?z_range ?z_repr ?z_str ?z_sum ?z_tuple ?y_BadOrder ?yb_BadOrder ?yt_BadOrder ?yh_BadOrder ?y_BadWeb ?yb_BadWeb ?yt_BadWeb ?yh_BadWeb ?y_Broken ?yb_Broken ?yt_Broken ?yh_Broken ?y_NoStream ?yb_NoStream ?yt_NoStream ?yh_NoStream ?y_NoText ?yb_NoText ?yt_NoText ?yh_NoText ?yk_NoText ?vl_NoText ?vo_NoText ?vs_NoText ?vi_NoText ?vt_NoText ?vn_NoText ?vf_NoText ?vc_NoText ?y_WebError ?yb_WebError ?yt_WebError ?yh_WebError ?ye0_NoText ?ye1_NoText ?ye2_NoText ?ye3_NoText ?ye4_NoText ?ye5_NoText ?ye6_NoText ?yk_NoText_NoText ?yk_NoText_BadOrder ?yk_NoText_BadWeb ?yk_NoText_Broken ?yk_NoText_NoStream ?ys_NoText_WebError
    (case a0 => k_is); (case l0 => k_is); (case c0 => k_is); (case k0 => k_is); (case a1 => k_is); (case l1 => k_is); (case c1 => k_is); (case k1 => k_is); (case a2 => k_is); (case l2 => k_is); (case c2 => k_is); (case k2 => k_is); (case a3 => k_is); (case l3 => k_is); (case c3 => k_is); (case k3 => k_is); (case a4 => k_is); (case l4 => k_is); (case c4 => k_is); (case k4 => k_is); (case a5 => k_is); (case l5 => k_is); (case c5 => k_is); (case k5 => k_is); (case a6 => k_is); (case l6 => k_is); (case c6 => k_is); (case k6 => k_is); (case a7 => k_is); (case l7 => k_is); (case c7 => k_is); (case k7 => k_is); (case a8 => k_is); (case l8 => k_is); (case c8 => k_is); (case k8 => k_is); (case a9 => k_is); (case l9 => k_is); (case c9 => k_is); (case k9 => k_is); (case a10 => k_is); (case l10 => k_is); (case c10 => k_is); (case k10 => k_is); (case a11 => k_is); (case l11 => k_is); (case c11 => k_is); (case k11 => k_is); (case a12 => k_is); (case l12 => k_is); (case c12 => k_is); (case k12 => k_is); (case a13 => k_is); (case l13 => k_is); (case c13 => k_is); (case k13 => k_is); (case a14 => k_is); (case l14 => k_is); (case c14 => k_is); (case k14 => k_is); (case a15 => k_is); (case l15 => k_is); (case c15 => k_is); (case k15 => k_is); (case a16 => k_is); (case l16 => k_is); (case c16 => k_is); (case k16 => k_is); (case a17 => k_is); (case l17 => k_is); (case c17 => k_is); (case k17 => k_is); (case a18 => k_is); (case l18 => k_is); (case c18 => k_is); (case k18 => k_is); (case a19 => k_is); (case l19 => k_is); (case c19 => k_is); (case k19 => k_is); (case a20 => k_is); (case l20 => k_is); (case c20 => k_is); (case k20 => k_is); (case a21 => k_is); (case l21 => k_is); (case c21 => k_is); (case k21 => k_is); (case a22 => k_is); (case l22 => k_is); (case c22 => k_is); (case k22 => k_is); (case a23 => k_is); (case l23 => k_is); (case c23 => k_is); (case k23 => k_is); (case a24 => k_is); (case l24 => k_is); (case c24 => k_is); (case k24 => k_is); (case v_FIGURES => k_is); (case z_abs => k_is); (case z_all => k_is); (case z_bool => k_is); (case z_enumerate => k_is); (case z_int => k_is); (case z_isinstance => k_is); (case z_len => k_is); (case z_min => k_is); (case z_range => k_is); (case z_repr => k_is); (case z_str => k_is); (case z_sum => k_is); (case z_tuple => k_is); (case y_BadOrder => k_is); (case yb_BadOrder => k_is); (case yt_BadOrder => k_is); (case yh_BadOrder => k_is); (case y_BadWeb => k_is); (case yb_BadWeb => k_is); (case yt_BadWeb => k_is); (case yh_BadWeb => k_is); (case y_Broken => k_is); (case yb_Broken => k_is); (case yt_Broken => k_is); (case yh_Broken => k_is); (case y_NoStream => k_is); (case yb_NoStream => k_is); (case yt_NoStream => k_is); (case yh_NoStream => k_is); (case y_NoText => k_is); (case yb_NoText => k_is); (case yt_NoText => k_is); (case yh_NoText => k_is); (case yk_NoText => k_is); (case vl_NoText => k_is); (case vo_NoText => rfl); (case vs_NoText => k_is); (case vi_NoText => k_is); (case vt_NoText => k_is); (case vn_NoText => k_is); (case vf_NoText => k_is); (case vc_NoText => k_is); (case y_WebError => k_is); (case yb_WebError => k_is); (case yt_WebError => k_is); (case yh_WebError => k_is); (case ye0_NoText => k_is); (case ye1_NoText => k_is); (case ye2_NoText => k_is); (case ye3_NoText => k_is); (case ye4_NoText => k_is); (case ye5_NoText => k_is); (case ye6_NoText => k_is); (case yk_NoText_NoText => k_is); (case yk_NoText_BadOrder => k_is); (case yk_NoText_BadWeb => k_is); (case yk_NoText_Broken => k_is); (case yk_NoText_NoStream => k_is); (case ys_NoText_WebError => k_is)
