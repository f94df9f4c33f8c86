import PyProof.Rows.All
import Wide.All
import OpenK.AllK
import Wide.FinOn
import HandS.Iter
import KE.GoesEnum
import PyProof.ReprRoads
import HandS.Dict
import PyProof.EqKinds
import PyProof.FactsAll.dict_1
import HandS.ForMost
import HandS.Evl
import HandS.Walk
import HandS.IsInst
import HandS.Wide
import HandS.NoneIn
import HandS.EndBits
import HandS.Codes
import HandS.TupAny
import HandS.TupMul
import HandS.Deep
import PyProof.TupleOfSeq
import PyProof.SeqIndex
import KE.DatumIndex
import PyProof.CallFns
import HandS.SortInts
import HandS.Zip
import HandS.Star
import HandS.Conv
import KE.KRevSl
import HandS.Flt
import KE.DataCmp
import HandS.Zip0
import HandS.Strs
import HandS.SetFor
import HandS.DictComp
import HandS.Call
import HandS.RaiseMore
import KE.KDictPairs
import PyProof.Rows.IntBool
import KE.DatumOrd
import HandS.TryOnly
import HandS.ExcOwn
import HandS.Small
import HandS.ExcIs
import HandS.HotCalls
import PyProof.StrLawsRepr
import PySem.Challenge.RW_unturned_k60_roads_parted
set_option Elab.async false
set_option linter.all false
set_option maxRecDepth 100000
set_option maxHeartbeats 8000000
namespace Un
open PySem PySem.Spec PyProof.Rows L2
section
variable {prog : Program} {w : World} {A : Around} {E : Value → Shared → Prop} {s : Shared}
end
end Un

namespace Uv
open PySem PySem.Spec PyProof.Rows L2
mutual
inductive Rm (h : Heap) : Value → PyData → Prop
  | non : Rm h .none .none
  | bl (b : Bool) : Rm h (.bool b) (.bool b)
  | int (i t) : Rm h (.int i t) (.int i)
  | str (x t) : Rm h (.str x t) (.str x)
  | lst {a o vs n xs} : h.get? a = some o → o.cls = .type "list" → o.data = .seq vs n → Rms h vs.toList xs → Rm h (.ref a) (.list xs)
  | tup {a o vs n xs} : h.get? a = some o → o.cls = .type "tuple" → o.data = .seq vs n → Rms h vs.toList xs → Rm h (.ref a) (.tuple xs)
  | dct {a o es n kvs} : h.get? a = some o → o.cls = .type "dict" → o.data = .dict es n → (a == sysModules) = false → Rms h (es.toList.map (·.key)) (kvs.map (·.1)) → Rms h (es.toList.map (·.val)) (kvs.map (·.2)) → Rm h (.ref a) (.dict kvs)
inductive Rms (h : Heap) : List Value → List PyData → Prop
  | nil : Rms h [] []
  | cons {v vs d ds} : Rm h v d → Rms h vs ds → Rms h (v :: vs) (d :: ds)
end
section
variable {P : Program} {w : World} {g : Heap}
mutual
theorem Rm.rd : ∀ {v : Value} {d : PyData}, Rm g v d → ∃ as, Reads g v d as
  | _, _, .non => ⟨_, .none⟩
  | _, _, .bl b => ⟨_, .bool b⟩
  | _, _, .int i t => ⟨_, .int i t⟩
  | _, _, .str x t => ⟨_, .str x t⟩
  | _, _, .lst a b c r => let ⟨_, q⟩ := Rms.rd r; ⟨_, .list a b c q⟩
  | _, _, .tup a b c r => let ⟨_, q⟩ := Rms.rd r; ⟨_, .tuple a b c q⟩
  | _, _, .dct a b c _ r s => let ⟨_, q⟩ := Rms.rd r; let ⟨_, t⟩ := Rms.rd s; ⟨_, .dict a b c q t⟩
theorem Rms.rd : ∀ {vs : List Value} {ds : List PyData}, Rms g vs ds → ∃ as, ReadsAll g vs ds as
  | _, _, .nil => ⟨_, .nil⟩
  | _, _, .cons r s => let ⟨_, q⟩ := Rm.rd r; let ⟨_, t⟩ := Rms.rd s; ⟨_, .cons q t⟩
end
mutual
theorem Rm.rk : ∀ {v : Value} {d : PyData}, Rm g v d → d.showable = true → d.shown.length ≤ sizeLine → ∃ l, ReadAtMost g d.depth l ∧ ReprK P w l g d.depth v d.shown
  | _, _, .non, _, _ => ⟨[], nofun, by rw [PyData.shown]; exact .of_is ReprIs.none _ _ _⟩
  | _, _, .bl b, _, _ => ⟨[], nofun, by rw [PyData.shown]; exact .of_is (ReprIs.bool b) _ _ _⟩
  | _, _, .int i t, e, _ => ⟨[], nofun, by rw [PyData.shown]; exact .of_is (ReprIs.int t (by simpa [PyData.showable] using e)) _ _ _⟩
  | _, _, .str x t, _, z => ⟨[], nofun, by rw [PyData.shown] at z ⊢; exact .of_is (ReprIs.str x t z) _ _ _⟩
  | _, _, .lst (a := p) (vs := vs) (xs := ds) o1 o2 o3 q, e, z => by
    rw [PyData.shown] at z
    obtain ⟨_, full⟩ := Rm.rd (.lst o1 o2 o3 q)
    obtain ⟨l, l1, l2⟩ := Rms.rk q (by simpa [PyData.showable] using e) fun t m => Nat.le_trans (listText_mem_le m) z
    have off : p ∉ l := not_mem_of_deeper full (by rw [PyData.depth]; omega) l1
    refine ⟨p :: l, l1.cons full (by rw [PyData.depth]; omega), ?_⟩
    rw [PyData.depth, PyData.shown]
    obtain ⟨v⟩ := vs
    cases v with
    | cons x v => exact ReprK.list o1 o2 o3 off (by simpa using l2.length_eq) fun i y m => l2.item i y (by simpa using m)
    | nil =>
      have q' : Rms g [] ds := q
      cases q'
      rw [PyData.shownAll, listText_nil]
      exact ReprK.listEmpty o1 o2 o3
  | _, _, .tup (a := p) (xs := ds) o1 o2 o3 q, e, z => by
    rw [PyData.shown] at z
    obtain ⟨_, full⟩ := Rm.rd (.tup o1 o2 o3 q)
    obtain ⟨l, l1, l2⟩ := Rms.rk q (by simpa [PyData.showable] using e) fun t m => Nat.le_trans (tupleText_mem_le m) z
    have off : p ∉ l := not_mem_of_deeper full (by rw [PyData.depth]; omega) l1
    refine ⟨p :: l, l1.cons full (by rw [PyData.depth]; omega), ?_⟩
    rw [PyData.depth, PyData.shown]
    exact ReprK.tuple o1 o2 o3 off l2
  | _, _, .dct (a := p) (es := es) (kvs := ps) o1 o2 o3 o4 q1 q2, e, z => by
    rw [PyData.shown] at z
    obtain ⟨_, full⟩ := Rm.rd (.dct o1 o2 o3 o4 q1 q2)
    obtain ⟨e1, e2⟩ := PyData.showableKv_split ps (by simpa [PyData.showable] using e)
    obtain ⟨l, l1, l2⟩ := Rms.rk q1 e1 fun t m => let ⟨_, u1, u2⟩ := PyData.shownKv_key_le ps t m; Nat.le_trans u2 (Nat.le_trans (dictText_mem_le u1) z)
    obtain ⟨k, k1, k2⟩ := Rms.rk q2 e2 fun t m => let ⟨_, u1, u2⟩ := PyData.shownKv_val_le ps t m; Nat.le_trans u2 (Nat.le_trans (dictText_mem_le u1) z)
    have lk : ReadAtMost g (PyData.depthKv ps) (l ++ k) := (l1.mono (PyData.depthAll_keys_le ps)).append (k1.mono (PyData.depthAll_vals_le ps))
    have off : p ∉ l ++ k := not_mem_of_deeper full (by rw [PyData.depth]; omega) lk
    refine ⟨p :: (l ++ k), lk.cons full (by rw [PyData.depth]; omega), ?_⟩
    rw [PyData.depth, PyData.shown, PyData.shownKv_eq]
    exact ReprK.dict o1 o2 o3 o4 off (ReprEntriesK.of_two es.toList _ _ (l2.more_le (fun _ => List.mem_append_left _) (PyData.depthAll_keys_le ps)) (k2.more_le (fun _ => List.mem_append_right _) (PyData.depthAll_vals_le ps)))
theorem Rms.rk : ∀ {vs : List Value} {ds : List PyData}, Rms g vs ds → PyData.showableAll ds = true → (∀ t ∈ PyData.shownAll ds, t.length ≤ sizeLine) → ∃ l, ReadAtMost g (PyData.depthAll ds) l ∧ ReprAllK P w l g (PyData.depthAll ds) vs (PyData.shownAll ds)
  | _, _, .nil, _, _ => ⟨[], nofun, by rw [PyData.shownAll]; exact .nil⟩
  | _, _, .cons (d := d) (ds := ds) q r, e, z => by
    obtain ⟨e1, e2⟩ : d.showable = true ∧ PyData.showableAll ds = true := by simpa [PyData.showableAll] using e
    rw [PyData.shownAll] at z
    obtain ⟨l, l1, l2⟩ := Rm.rk q e1 (z _ (List.mem_cons_self ..))
    obtain ⟨k, k1, k2⟩ := Rms.rk r e2 fun t m => z t (List.mem_cons_of_mem _ m)
    rw [PyData.depthAll, PyData.shownAll]
    exact ⟨l ++ k, (l1.mono (Nat.le_max_left _ _)).append (k1.mono (Nat.le_max_right _ _)), .cons ((l2.more fun _ => List.mem_append_left _).level_le (Nat.le_max_left _ _)) (k2.more_le (fun _ => List.mem_append_right _) (Nat.le_max_right _ _))⟩
end
theorem Rm.shows {a : Addr} {d : PyData} (r : Rm g (.ref a) d) (e : d.showable = true) (z : d.shown.length ≤ sizeLine) : ∃ T i, ShowsBy P w g a d T i := by
  obtain ⟨_, full⟩ := r.rd
  cases r with
  | lst o1 o2 o3 q =>
    rename_i o vs n ds
    rw [PyData.shown] at z
    obtain ⟨l, l1, l2⟩ := Rms.rk (P := P) (w := w) q (by simpa [PyData.showable] using e) fun t m => Nat.le_trans (listText_mem_le m) z
    have off : a ∉ l := not_mem_of_deeper full (by rw [PyData.depth]; omega) l1
    refine ⟨"list", "list.__repr__", F.slot_list_repr.toG, F.slot_list_str, F.slot_list_format, fun s k => ⟨o, k _ _ o1, o2⟩, fun A E s Q ag au k hq => ?_⟩
    rw [PyData.depth] at au
    rw [PyData.shown] at hq
    obtain ⟨v⟩ := vs
    cases v with
    | cons x v => exact call_list_reprK o1 o2 o3 off (by simpa using l2.length_eq) (fun i y m => l2.item i y (by simpa using m)) ag (fun b _ => Clear.nil b) au k hq z
    | nil =>
      have q' : Rms g [] ds := q
      cases q'
      rw [PyData.shownAll, listText_nil] at hq
      exact call_list_repr_empty ⟨o, k _ _ o1, o2⟩ (k _ _ o1) o3 (hq s.heap _ _ fun _ _ y => y)
  | tup o1 o2 o3 q =>
    rename_i o vs n ds
    rw [PyData.shown] at z
    obtain ⟨l, l1, l2⟩ := Rms.rk (P := P) (w := w) q (by simpa [PyData.showable] using e) fun t m => Nat.le_trans (tupleText_mem_le m) z
    have off : a ∉ l := not_mem_of_deeper full (by rw [PyData.depth]; omega) l1
    refine ⟨"tuple", "tuple.__repr__", F.slot_tuple_repr, F.slot_tuple_str, F.slot_tuple_format, fun s k => ⟨o, k _ _ o1, o2⟩, fun A E s Q ag au k hq => ?_⟩
    rw [PyData.depth] at au
    rw [PyData.shown] at hq
    exact call_tuple_reprK o1 o2 o3 off l2 ag (fun b _ => Clear.nil b) au k hq z
  | dct o1 o2 o3 o4 q1 q2 =>
    rename_i o es n ps
    rw [PyData.shown] at z
    obtain ⟨e1, e2⟩ := PyData.showableKv_split ps (by simpa [PyData.showable] using e)
    obtain ⟨l, l1, l2⟩ := Rms.rk (P := P) (w := w) q1 e1 fun t m => let ⟨_, u1, u2⟩ := PyData.shownKv_key_le ps t m; Nat.le_trans u2 (Nat.le_trans (dictText_mem_le u1) z)
    obtain ⟨k, k1, k2⟩ := Rms.rk (P := P) (w := w) q2 e2 fun t m => let ⟨_, u1, u2⟩ := PyData.shownKv_val_le ps t m; Nat.le_trans u2 (Nat.le_trans (dictText_mem_le u1) z)
    have lk : ReadAtMost g (PyData.depthKv ps) (l ++ k) := (l1.mono (PyData.depthAll_keys_le ps)).append (k1.mono (PyData.depthAll_vals_le ps))
    have off : a ∉ l ++ k := not_mem_of_deeper full (by rw [PyData.depth]; omega) lk
    refine ⟨"dict", "dict.__repr__", F.slot_dict_repr, F.slot_dict_str, F.slot_dict_format, fun s k => ⟨o, k _ _ o1, o2⟩, fun A E s Q ag au kk hq => ?_⟩
    rw [PyData.depth] at au
    rw [PyData.shown, PyData.shownKv_eq] at hq
    exact call_dict_reprK o1 o2 o3 o4 off (ReprEntriesK.of_two es.toList _ _ (l2.more_le (fun _ => List.mem_append_left _) (PyData.depthAll_keys_le ps)) (k2.more_le (fun _ => List.mem_append_right _) (PyData.depthAll_vals_le ps))) ag (fun b _ => Clear.nil b) au kk hq (by rw [← PyData.shownKv_eq]; exact z)
theorem Rm.repr {A : Around} {E : Value → Shared → Prop} {s : Shared} {Q : Value → Shared → Prop} {a : Addr} {d : PyData} (r : Rm s.heap (.ref a) d) (e : d.showable = true) (ag : A.guards = some []) (au : A.units + (d.depth + 1) < cLine) (hq : ∀ h' u tk, (∀ b o, s.heap.get? b = some o → h'.get? b = some o) → Q (.str d.shown u) { s with heap := h', toks := tk }) (z : d.shown.length ≤ sizeLine) : wpAny (model P w) A (call (.builtin "repr") [.ref a]) Q E s := by
  obtain ⟨T, i, S⟩ := r.shows (P := P) (w := w) e z
  have k0 : ∀ (b : Addr) (o : Obj), s.heap.get? b = some o → s.heap.get? b = some o := fun _ _ y => y
  exact call_repr_slot (by omega) (S.typeIs s k0) S.slotRepr (S.call A.in1 E s _ ag (by show A.units + 1 + d.depth < cLine; omega) k0 fun h' u tk k => ⟨_, _, rfl, hq h' u tk k⟩)
end
end Uv

namespace Uv
open PySem PySem.Spec PyProof.Rows L2
theorem dct_no (a : Addr) (es : Array DictEntry) (n : Nat) (p : Option Addr) (c : Array (Option Value)) (x : Str) (t : Tok) : Meets (Builtin.«dict.__eq__» ⟨[.ref a, .str x t], []⟩) (fun _ R s => s.heap.get? a = some { cls := .type "dict", dict := p, data := .dict es n, slots := c } ∧ R (.ok (.ret .notImplemented)) s) :=
  .of_wp fun pr w A R s h => by
    obtain ⟨hp, g, d, tk, os⟩ := s
    obtain ⟨ho, h⟩ := h
    have no := F.sub_str_dict
    wp_walk using wpAny_loadPart' ho
    exact ⟨_, rfl, h⟩
theorem str_no (a : Addr) (k : Value) (es : Array DictEntry) (n : Nat) (p : Option Addr) (c : Array (Option Value)) (x : Str) (t : Tok) : Meets (Builtin.«str.__eq__» ⟨[.str x t, .ref a], []⟩) (fun _ R s => s.heap.get? a = some { cls := k, dict := p, data := .dict es n, slots := c } ∧ R (.ok (.ret .notImplemented)) s) :=
  .of_wp fun pr w A R s h => by
    obtain ⟨hp, g, d, tk, os⟩ := s
    obtain ⟨ho, h⟩ := h
    wp_walk using wpAny_loadPart' ho, wpAny_load ho
    exact ⟨_, rfl, h⟩
theorem dct_str {A : Around} {s : Shared} {a : Addr} {es : Array DictEntry} {n : Nat} {p : Option Addr} {c : Array (Option Value)} (x : Str) (t : Tok) (ho : s.heap.get? a = some { cls := .type "dict", dict := p, data := .dict es n, slots := c }) (hu : A.units < cLine) : SeqAt.RcAt A s (.ref a) (.str x t) false := fun pr w E Q h =>
  SeqAt.rc_eq_decline_or (k := false) ⟨_, ho, rfl⟩ (typeIs_str s x t) (by decide) F.sub_str_dict F.slot_dict_eq F.slot_str_eq_refl
    (fun _ q => call_meets F.slot_dict_eq ⟨_, ho, rfl⟩ F.entry_dict_eq (F.args_dict_eq_2 _ _) (dct_no a es n p c x t) ⟨ho, q⟩)
    (fun _ q => call_meets F.slot_str_eq_refl (typeIs_str s x t) F.entry_str_eq (F.args_str_eq_2 _ _) (str_no a (.type "dict") es n p c x t) ⟨ho, q⟩)
    (fun _ q => wpAny_of_eq (rfl : isSame (.ref a) (.str x t) = pure false) q) (.inr hu) h
end Uv

namespace Uv
open PySem PySem.Spec PyProof.Rows L2
open Evl (Ex)
def Plain (o : Obj) : Prop := o.cls = .type "tuple" ∧ o.dict = none
abbrev fz (o : Obj) (xs : List V) : HO := .frz o (.tup xs)
def tTupF (t : TA) : TE := fun σ H Q => t σ H fun xs H1 => xs.length ≤ sizeLine ∧ ∀ p o, H1 p = none → Plain o → Q (.ref p) (upd H1 p (fz o xs))
theorem pe_tupF {X : Cx} {es : List Expr} {t : TA} {pos : Pos} {x1} (h : PA X es t) : PE X (.Tuple es x1 pos) (tTupF t) := by
  refine ⟨fun pins s σ H Q I hq => ?_⟩
  refine wpAny_Tuple_spliced (thn (h.run pos pins s σ H _ I hq) fun us s1 ⟨xs, H1, I1, r, z, q⟩ => ⟨by rw [← r.length]; exact z, ?_⟩)
  have I2 : Inv X pins σ (upd H1 s1.heap.objs.size (fz { cls := .type "tuple", data := .seq us.toArray } xs)) { s1 with heap := s1.heap.push { cls := .type "tuple", data := .seq us.toArray }, toks := s1.toks } :=
    I1.laid (t' := s1.toks) (fun b u e => Heap.get?_push_of_some _ e) (Nat.le_refl _) (show ObjOk X.prog X.w _ _ _ (.frz _ (.tup xs)) from ⟨Heap.get?_push_size _ rfl, z, us, r, IsTup.new _ _⟩)
  exact ⟨.ref s1.heap.objs.size, _, I2, rfl, q _ _ (I1.hok.fresh (Nat.le_refl _)) ⟨rfl, rfl⟩⟩
def rTupF (K : PySem.W.Frag) : List V → Hp → VK → Prop := fun xs H Q => ∃ p ys, xs = [.ref p] ∧ ((SqL K H p ys ∧ ∀ l o, H l = none → Plain o → Q (.ref l) (upd H l (fz o ys))) ∨ (SqT K H p ys ∧ Q (.ref p) H))
theorem cr_tupF {X : Cx} : CallR X (.type "tuple") (rTupF X.K) := by
  intro pins s σ H xs us Q I r h
  obtain ⟨p, ys, rfl, h⟩ := h
  rcases h with ⟨hq, q⟩ | ⟨ht, q⟩
  · obtain ⟨u, rfl, rx⟩ := vals1 r
    cases rx
    obtain ⟨its, r', pl, hz⟩ := I.list hq
    have hlen := r'.length
    refine call_tuple_list pl.isList (fun h' kp => ?_) (by simp only [List.size_toArray] <;> omega)
    have I1 : Inv X pins σ H { s with heap := h' } := I.kept (t' := s.toks) kp
    have I2 : Inv X pins σ (upd H h'.objs.size (fz { cls := .type "tuple", data := .seq its.toArray } ys)) { s with heap := h'.push { cls := .type "tuple", data := .seq its.toArray } } :=
      I1.laid (t' := s.toks) (fun b o e => Heap.get?_push_of_some _ e) (Nat.le_refl _) (show ObjOk X.prog X.w _ _ _ (.frz _ (.tup ys)) from ⟨Heap.get?_push_size _ rfl, hz, its, r', IsTup.new _ _⟩)
    exact ⟨.ref h'.objs.size, _, I2, rfl, q _ _ (I1.hok.fresh (Nat.le_refl _)) ⟨rfl, rfl⟩⟩
  · exact call_tupleT pins s σ H _ us Q I r ⟨p, ys, rfl, ht, q⟩
def rCatF (K : PySem.W.Frag) : R2 := fun x y H Q => ∃ a b xs ys, x = .ref a ∧ y = .ref b ∧ SqT K H a xs ∧ SqT K H b ys ∧ xs.length + ys.length ≤ sizeLine ∧
  (xs = [] → Q (.ref b) H) ∧ (xs ≠ [] → ys = [] → Q (.ref a) H) ∧ (xs ≠ [] → ys ≠ [] → ∀ p o, H p = none → Plain o → Q (.ref p) (upd H p (fz o (xs ++ ys))))
theorem op_catF {X : Cx} : OpR X (binaryOp .Add) (rCatF X.K) := by
  intro pins s σ H x y v u Q I rx ry h
  obtain ⟨a, b, xs, ys, rfl, rfl, ha, hb, hz, q0, q1, q2⟩ := h
  cases rx
  cases ry
  obtain ⟨its, r1, p1, _⟩ := I.tuple ha
  obtain ⟨its2, r2, p2, _⟩ := I.tuple hb
  by_cases hx : xs = []
  · subst hx
    cases r1
    exact cat_tup0 p1 p2 ⟨.ref b, H, I, rfl, q0 rfl⟩
  · refine HT.cat_tup p1 p2 (fun z => hx (r1.nil_iff.mp z)) (fun z => ⟨.ref a, H, I, rfl, q1 hx (r2.nil_iff.mp z)⟩) (fun z => ?_) (by rw [← r1.length, ← r2.length]; exact hz)
    have hy : ys ≠ [] := fun w => z (r2.nil_iff.mpr w)
    have ok := I.laid (t' := s.toks) (o := fz _ (xs ++ ys)) (fun b ob q => Heap.get?_push_of_some _ q) (Nat.le_refl _) (show ObjOk X.prog X.w _ _ _ (.frz _ (.tup (xs ++ ys))) from ⟨Heap.get?_push_size _ rfl, by rw [List.length_append]; exact hz, _, r1.append r2, IsTup.new _ _⟩)
    exact ⟨.ref s.heap.objs.size, _, ok, rfl, q2 hx hy _ _ (I.hok.fresh (Nat.le_refl _)) ⟨rfl, rfl⟩⟩
def rSlF (K : PySem.W.Frag) : V → Option Int → Option Int → Hp → VK → Prop := fun x lo hi H Q => ∃ a xs, x = .ref a ∧ SqT K H a xs ∧
  (HT.sIx xs.length 0 lo = 0 ∧ HT.sIx xs.length xs.length hi = xs.length → Q (.ref a) H) ∧ (¬ (HT.sIx xs.length 0 lo = 0 ∧ HT.sIx xs.length xs.length hi = xs.length) → ∀ p o, H p = none → Plain o → Q (.ref p) (upd H p (fz o (cutV xs lo hi))))
theorem sl_tupF {X : Cx} : SlR X (rSlF X.K) := by
  intro pins s σ H x v vl vu lo hi sl Q I rx hs pl pu h
  obtain ⟨a, xs, rfl, hx, q1, q2⟩ := h
  cases rx
  obtain ⟨its, r, ht, hz⟩ := I.tuple hx
  have hlen : its.toArray.size = xs.length := by rw [List.size_toArray]; exact r.length.symm
  refine ⟨"tuple", _, PyProof.Rows.slot_tuple_getitem.lookup, ht.typeIs, ?_⟩
  by_cases hw : HT.sIx xs.length 0 lo = 0 ∧ HT.sIx xs.length xs.length hi = xs.length
  · exact getItem_tuple_whole ht hs pl pu (by rw [hlen]; exact hw) ⟨.ref a, H, I, rfl, q1 hw⟩
  · refine HT.getItem_tuple_cut ht hs pl pu (by rw [hlen]; exact hw) ?_ (by rw [hlen]; exact hz)
    rw [hlen]
    have ok := I.laid (t' := s.toks) (o := fz _ (cutV xs lo hi)) (fun b ob q => Heap.get?_push_of_some _ q) (Nat.le_refl _) (show ObjOk X.prog X.w _ _ _ (.frz _ (.tup (cutV xs lo hi))) from ⟨Heap.get?_push_size _ rfl, Nat.le_trans (cutV_length xs lo hi) hz, _, (r.drop (HT.sIx xs.length 0 lo)).take (HT.sIx xs.length xs.length hi - HT.sIx xs.length 0 lo), IsTup.new _ _⟩)
    exact ⟨.ref s.heap.objs.size, _, ok, rfl, q2 hw _ _ (I.hok.fresh (Nat.le_refl _)) ⟨rfl, rfl⟩⟩
def rIndexF (K : PySem.W.Frag) : V → List V → Hp → VK → Prop := fun x xs H Q => ∃ (a : Addr) (ns : List Int) (m : Int), x = .ref a ∧ xs = [.int m] ∧ SqT K H a (ns.map V.int) ∧ m ∈ ns ∧ Q (.int (ns.idxOf m : Nat)) H
theorem mt_indexF {X : Cx} (hu : X.A.units + 65 < cLine) : MtR X "tuple.index" (rIndexF X.K) := by
  intro pins s σ H x xs v us Q I rx rxs h
  obtain ⟨a, ns, m, rfl, rfl, hs, hm, q⟩ := h
  cases rx
  obtain ⟨u, rfl, t, rfl⟩ := vals1 rxs
  obtain ⟨its, rv, p, _⟩ := I.tuple hs
  refine PySem.W.index_tuple_datum (xs := ns) (x := m) p ⟨[], rv.ints.reads s.heap⟩ ⟨[], .int m t⟩ (by show X.A.units + 1 + 0 < cLine; omega) hm ?_
  exact ⟨.int _, H, I.tok _, ⟨_, rfl⟩, q⟩
def tBMF (r : V → List V → Hp → VK → Prop) (to : TE) (t : TA) : TE := fun σ H Q => to σ H fun x H1 => (∃ p o u, x = .ref p ∧ H1 p = some (.frz o u) ∧ Plain o) ∧ t σ H1 fun xs H2 => r x xs H2 Q
theorem pe_bmF {X : Cx} {o e : Expr} {es : List Expr} {to : TE} {t : TA} {name : Str} {apos cpos : Pos} {id : String} {r : V → List V → Hp → VK → Prop} (slot : Slot "tuple" name id) (hty : typeOf (.builtin id) = pure (.type "method_descriptor")) (hm : MtR X id r) (ho : PE X o to) (ha : PA X (e :: es) t)
    (hbase : attributeBase o name X.env (eval o X.env) = eval o X.env := by rfl)
    (hfew : ((backTo cpos (starEach (e :: es) X.env)).all (fun x => !x.1) && (backToKw cpos (keywordEach [] X.env)).all (fun x => x.1.isSome)
      && decide ((e :: es).length + ([] : List Keyword).length + (if ([] : List Keyword).isEmpty then 0 else 1) < 30)) = true := by rfl)
    (hline : (apos.endLine == cpos.line) = true := by rfl) (hs : starEach (e :: es) X.env = (false, eval e X.env) :: starEach es X.env := by rfl) (hplain : (backTo cpos (starEach es X.env)).any (·.1) = false := by rfl) :
    PE X (.Call (.Attribute o name apos) (e :: es) [] cpos) (tBMF r to t) := by
  refine ⟨fun pins s σ H Q I h => wpAny_Call_method_late hbase hfew hline rfl (thn (ho.run pins s σ H _ I h) fun v s1 ⟨x, H1, I1, r1, ty, q1⟩ => ?_)⟩
  obtain ⟨p, ob, u, rfl, hp, hc, hd⟩ := ty
  cases r1
  have hg := (I1.hok p _ hp).1
  refine ⟨"tuple", id, PySem.F.plainAttrs_tuple, slot, hty, ⟨ob, hg, hc⟩, fun a e => by cases e; exact ⟨ob, hg, hd⟩, ?_⟩
  have hA := ha.run cpos pins s1 σ H1 _ I1 q1
  rw [hs] at hA ⊢
  refine Calls.callWith_builtin (by show (false || (backTo cpos (starEach es X.env)).any (·.1)) = false; rw [hplain] <;> rfl) (Calls.evalArgs_plain ?_)
  exact thn hA fun us s2 ⟨vs, H2, I2, r2, q2⟩ => hm pins s2 σ H2 (.ref p) vs (.ref p) us Q I2 (show L2.RelV (.ref p) (.ref p) from rfl) r2 q2
theorem u65 {k : Nat} {A : Around} (r : Room k A) : A.units + 65 < cLine := by have := r.un; omega
end Uv

namespace Uv
open PySem PySem.Spec PyProof.Rows L2
open Evl (Ex)
class KK where
  fr : PySem.W.Frag
abbrev K [kk : KK] : PySem.W.Frag := kk.fr
variable [kk : KK]
abbrev PD := PyData
abbrev scrD (ds : List PD) : PD := .dict [(.none, .list ds)]
theorem sqx {K : PySem.W.Frag} {H H' : Hp} {a : Addr} {xs : List V} (e : Ex H H') (h : SqL K H a xs) : SqL K H' a xs := h.elim (fun r => .inl (r.elim (fun r => .inl (e _ _ r)) fun ⟨o, r⟩ => .inr ⟨o, e _ _ r⟩)) .inr
abbrev Hs := Addr → Prop
open Classical in
noncomputable def hid (S : Hs) (H : Hp) : Hp := fun x => if S x then none else H x
section
variable {S S' : Hs} {H H' : Hp} {x p : Addr} {o : HO}
theorem hid_in (h : S x) : hid S H x = none := by unfold hid; rw [if_pos h]
theorem hid_out (h : ¬ S x) : hid S H x = H x := by unfold hid; rw [if_neg h]
theorem hid_some (h : hid S H x = some o) : ¬ S x ∧ H x = some o := by
  by_cases c : S x
  · rw [hid_in c] at h; cases h
  · rw [hid_out c] at h; exact ⟨c, h⟩
theorem hid_ex (e : Ex H H') : Ex (hid S H) (hid S H') := fun x o h => by
  obtain ⟨c, h⟩ := hid_some h
  rw [hid_out c]; exact e x o h
theorem hid_le : Ex (hid S H) H := fun x o h => (hid_some h).2
theorem hid_sub (h : ∀ x, S' x → S x) : Ex (hid S H) (hid S' H) := fun x o q => by
  obtain ⟨c, q⟩ := hid_some q
  rw [hid_out fun z => c (h x z)]; exact q
theorem hid_eq (h : ∀ x, S x ↔ S' x) : hid S H = hid S' H := by
  funext x
  by_cases c : S x
  · rw [hid_in c, hid_in ((h x).mp c)]
  · rw [hid_out c, hid_out fun z => c ((h x).mpr z)]
def Al (S : Hs) (H : Hp) : Prop := ∀ x, S x → H x ≠ none
theorem Al.ex (a : Al S H) (e : Ex H H') : Al S H' := fun x hx z => by
  cases q : H x with
  | none => exact a x hx q
  | some o => rw [e x o q] at z; cases z
theorem Al.new (a : Al S H) (hp : H p = none) : ¬ S p := fun z => a p z hp
theorem new_ok (al : Al S H) (hp : H p = none) : hid S (upd H p o) p = some o := by rw [hid_out (al.new hp), upd_same]
theorem hid_cons (e : Ex H H') (hp : H p = none) : Ex (hid S H) (hid (fun x => x = p ∨ S x) H') := fun x o h => by
  obtain ⟨c, h⟩ := hid_some h
  have n : ¬ (x = p ∨ S x) := fun z => z.elim (fun z => by subst z; rw [hp] at h; cases h) c
  rw [hid_out n]; exact e x o h
end
abbrev dciD (ks : List Int) (ds : List PD) : PD := .dict [(.bool true, .list [.list (ks.map PyData.int), .list ds])]
mutual
inductive Rp (H : Hp) : V → PD → Prop
  | non : Rp H .non .none
  | bl (b : Bool) : Rp H (.bl b) (.bool b)
  | int (i : Int) : Rp H (.int i) (.int i)
  | str (x : Str) : Rp H (.str x) (.str x)
  | lst {a : Addr} {xs : List V} {ds : List PD} : H a = some (.lst xs) → RpAll H xs ds → Rp H (.ref a) (.list ds)
  | tup {a : Addr} {o : Obj} {xs : List V} {ds : List PD} : H a = some (fz o xs) → Plain o → RpAll H xs ds → Rp H (.ref a) (.tuple ds)
  | dct {a : Addr} {ks : List Str} {xs : List V} {ds : List PD} {ps : List (PD × PD)} : H a = some (.dK ((ks.map Sum.inr).zip xs)) → ks.length = xs.length → ps = (ks.map PyData.str).zip ds → RpAll H xs ds → Rp H (.ref a) (.dict ps)
  | dci {a : Addr} {ks : List Int} {xs : List V} {ds : List PD} : H a = some (.dK ((ks.map Sum.inl).zip xs)) → ks.length = xs.length → RpAll H xs ds → Rp H (.ref a) (dciD ks ds)
  | scr {a : Addr} {xs : List V} {ds : List PD} : SqL K H a xs → RpAll H xs ds → Rp H (.ref a) (scrD ds)
inductive RpAll (H : Hp) : List V → List PD → Prop
  | nil : RpAll H [] []
  | cons {v : V} {vs : List V} {d : PD} {ds : List PD} : Rp H v d → RpAll H vs ds → RpAll H (v :: vs) (d :: ds)
end
mutual
theorem Rp.ex {H H' : Hp} (e : Ex H H') : ∀ {v : V} {d : PD}, Rp H v d → Rp H' v d
  | _, _, .non => .non
  | _, _, .bl b => .bl b
  | _, _, .int i => .int i
  | _, _, .str x => .str x
  | _, _, .lst h r => .lst (e _ _ h) (RpAll.ex e r)
  | _, _, .tup h p r => .tup (e _ _ h) p (RpAll.ex e r)
  | _, _, .dct h l q r => .dct (e _ _ h) l q (RpAll.ex e r)
  | _, _, .dci h l r => .dci (e _ _ h) l (RpAll.ex e r)
  | _, _, .scr h r => .scr (sqx e h) (RpAll.ex e r)
theorem RpAll.ex {H H' : Hp} (e : Ex H H') : ∀ {vs : List V} {ds : List PD}, RpAll H vs ds → RpAll H' vs ds
  | _, _, .nil => .nil
  | _, _, .cons h r => .cons (Rp.ex e h) (RpAll.ex e r)
end
mutual
theorem Rp.dp {H : Hp} : ∀ {v : V} {d : PD}, Rp H v d → d.hasDict = false → Dp K H v d
  | _, _, .non, _ => .non
  | _, _, .bl b, _ => .bl b
  | _, _, .int i, _ => .int i
  | _, _, .str x, _ => .str x
  | _, _, .lst h r, n => .lst (.inl (.inl h)) (RpAll.dp r (by simpa [PyData.hasDict] using n))
  | _, _, .tup h _ r, n => .tup (.inl (.inr ⟨_, h⟩)) (RpAll.dp r (by simpa [PyData.hasDict] using n))
  | _, _, .dct h _ _ _, n => by simp [PyData.hasDict] at n
  | _, _, .dci h _ _, n => by simp [PyData.hasDict] at n
  | _, _, .scr h r, n => by simp [PyData.hasDict] at n
theorem RpAll.dp {H : Hp} : ∀ {vs : List V} {ds : List PD}, RpAll H vs ds → PyData.hasDictAll ds = false → DpAll K H vs ds
  | _, _, .nil, _ => .nil
  | _, _, .cons h r, n => by
    simp only [PyData.hasDictAll, Bool.or_eq_false_iff] at n
    exact .cons (Rp.dp h n.1) (RpAll.dp r n.2)
end
section
variable {H : Hp}
theorem RpAll.length : ∀ {vs : List V} {ds : List PD}, RpAll H vs ds → vs.length = ds.length
  | _, _, .nil => rfl
  | _, _, .cons _ r => by rw [List.length_cons, List.length_cons, RpAll.length r]
theorem RpAll.get : ∀ {vs : List V} {ds : List PD} {i : Nat} {d : PD}, RpAll H vs ds → ds[i]? = some d → ∃ v, vs[i]? = some v ∧ Rp H v d
  | _, _, _, _, .nil, e => by simp at e
  | _, _, 0, _, .cons h _, e => by
    simp at e
    subst e
    exact ⟨_, rfl, h⟩
  | _, _, i + 1, d, .cons _ r, e => by
    obtain ⟨v, h1, h2⟩ := RpAll.get (i := i) (d := d) r (by simpa using e)
    exact ⟨v, by simpa using h1, h2⟩
theorem RpAll.append : ∀ {vs ws : List V} {ds es : List PD}, RpAll H vs ds → RpAll H ws es → RpAll H (vs ++ ws) (ds ++ es)
  | _, _, _, _, .nil, s => s
  | _, _, _, _, .cons h r, s => .cons h (RpAll.append r s)
theorem RpAll.drop : ∀ {vs : List V} {ds : List PD} (n : Nat), RpAll H vs ds → RpAll H (vs.drop n) (ds.drop n)
  | _, _, 0, r => by simpa using r
  | _, _, n + 1, .nil => by simpa using RpAll.nil
  | _, _, n + 1, .cons _ r => by simpa using RpAll.drop n r
theorem RpAll.take : ∀ {vs : List V} {ds : List PD} (n : Nat), RpAll H vs ds → RpAll H (vs.take n) (ds.take n)
  | _, _, 0, r => by simpa using RpAll.nil
  | _, _, n + 1, .nil => by simpa using RpAll.nil
  | _, _, n + 1, .cons h r => by simpa using RpAll.cons h (RpAll.take n r)
theorem RpAll.at {vs : List V} {ds : List PD} {i : Int} {d : PD} (r : RpAll H vs ds) (h : atI ds i = some d) : ∃ v, atI vs i = some v ∧ Rp H v d := by
  unfold atI at h ⊢
  rw [r.length]
  cases e : ixN ds.length i with
  | none => rw [e] at h; cases h
  | some j =>
    rw [e] at h
    exact r.get (i := j) h
theorem RpAll.set : ∀ {vs : List V} {ds : List PD} {v : V} {d : PD} (n : Nat), RpAll H vs ds → Rp H v d → RpAll H (vs.set n v) (ds.set n d)
  | _, _, _, _, _, .nil, _ => by simpa using RpAll.nil
  | _, _, _, _, 0, .cons _ r, h => by simpa using RpAll.cons h r
  | _, _, _, _, n + 1, .cons h0 r, h => by simpa using RpAll.cons h0 (RpAll.set n r h)
theorem RpAll.rep {vs : List V} {ds : List PD} (r : RpAll H vs ds) : ∀ n, RpAll H (List.replicate n vs).flatten (List.replicate n ds).flatten
  | 0 => .nil
  | n + 1 => by
    rw [List.replicate_succ, List.replicate_succ, List.flatten_cons, List.flatten_cons]
    exact r.append (RpAll.rep r n)
def unI : List PD → Option (List Int)
  | [] => some []
  | .int i :: r => (unI r).map (i :: ·)
  | _ => none
theorem unI_map : ∀ ns : List Int, unI (ns.map PyData.int) = some ns
  | [] => rfl
  | n :: ns => by rw [List.map_cons, unI, unI_map ns]; rfl
theorem unI_eq : ∀ {ds : List PD} {ns : List Int}, unI ds = some ns → ds = ns.map PyData.int
  | [], ns, h => by cases h; rfl
  | .int i :: r, ns, h => by
    unfold unI at h
    cases q : unI r with
    | none => rw [q] at h; cases h
    | some ms =>
      rw [q] at h
      cases h
      rw [unI_eq q]
      rfl
  | .none :: _, _, h => by cases h
  | .bool _ :: _, _, h => by cases h
  | .str _ :: _, _, h => by cases h
  | .list _ :: _, _, h => by cases h
  | .tuple _ :: _, _, h => by cases h
  | .dict _ :: _, _, h => by cases h
theorem RpAll.ints : ∀ {vs : List V} {ns : List Int}, RpAll H vs (ns.map PyData.int) → vs = ns.map V.int
  | _, [], .nil => rfl
  | _, n :: ns, .cons (.int _) r => by rw [RpAll.ints r]; rfl
theorem RpAll.ofInts : ∀ (ns : List Int), RpAll H (ns.map V.int) (ns.map PyData.int)
  | [] => .nil
  | n :: ns => .cons (.int n) (RpAll.ofInts ns)
end
omit kk in
theorem zip_str {ks : List Str} {ds : List PD} {ps : List (PD × PD)} (h : ps = (ks.map PyData.str).zip ds) : ps = [] ∨ ∃ k d r, ps = (PyData.str k, d) :: r := by
  subst h
  cases ks with
  | nil => exact .inl rfl
  | cons k ks => cases ds with
    | nil => exact .inl rfl
    | cons d ds => exact .inr ⟨k, d, _, rfl⟩
mutual
def scrF : PD → Bool
  | .none | .bool _ | .int _ | .str _ => true
  | .list xs | .tuple xs => scrFs xs
  | .dict kvs => scrFk kvs
def scrFs : List PD → Bool
  | [] => true
  | x :: xs => scrF x && scrFs xs
def scrFk : List (PD × PD) → Bool
  | [] => true
  | (k, v) :: r => (match k with | .str _ => true | _ => false) && scrF v && scrFk r
end
theorem scrFk_zip : ∀ {ks : List Str} {ds : List PD}, ks.length = ds.length → scrFk ((ks.map PyData.str).zip ds) = scrFs ds
  | [], [], _ => rfl
  | k :: ks, d :: ds, h => by
    show (true && scrF d && scrFk ((ks.map PyData.str).zip ds)) = (scrF d && scrFs ds)
    rw [scrFk_zip (by simpa using h), Bool.true_and]
section
variable {X : Cx} {pins : List (Addr × Obj)} {σ : L2.St} {H : Hp} {s : Shared}
theorem rm_keys {P : Program} {w : World} {g : Heap} : ∀ {ks : List Str} {xs : List V} {vs : List (Key × Value)} {es : List DictEntry}, ks.length = xs.length → KV ((ks.map Sum.inr).zip xs) vs → Pairs (mixKind P w) es vs → Rms g (es.map (·.key)) (ks.map PyData.str) ∧ Vals xs (es.map (·.val))
  | [], [], _, _, _, r, p => by
    cases r
    cases p
    exact ⟨.nil, .nil⟩
  | k :: ks, x :: xs, _, _, hl, r, p => by
    have r : KV ((Sum.inr k, x) :: (ks.map Sum.inr).zip xs) _ := r
    cases r with
    | cons h t =>
      cases p with
      | cons p1 p2 p3 =>
        obtain ⟨h1, h2⟩ := h
        obtain ⟨q1, q2⟩ := rm_keys (g := g) (by simpa using hl) t p3
        rcases keyIs_shape p1 with ⟨i, u, e, _⟩ | ⟨y, u, e, e2⟩
        · rw [← h1] at e; exact nomatch e
        · rw [← h1] at e
          have e : k = y := Sum.inr.inj e
          subst e
          refine ⟨?_, ?_⟩
          · refine Rms.cons (ds := ks.map PyData.str) ?_ q1
            show Rm g _ (PyData.str k)
            have z := Rm.str (h := g) k u
            rw [← e2] at z
            exact z
          · refine Paired.cons ?_ q2
            show RelV x _
            have z : RelV x _ := h2
            rw [← p2] at z
            exact z
mutual
theorem Rp.rm (I : L2.Inv X pins σ H s) : ∀ {v : V} {d : PD}, Rp H v d → scrF d = true → ∀ {u : Value}, RelV v u → Rm s.heap u d
  | _, _, .non, _, _, r => by cases r; exact .non
  | _, _, .bl b, _, _, r => by cases r; exact .bl b
  | _, _, .int i, _, _, r => by obtain ⟨t, rfl⟩ := r; exact .int i t
  | _, _, .str x, _, _, r => by obtain ⟨t, rfl⟩ := r; exact .str x t
  | _, _, .lst h ra, f, _, r => by
    cases r
    obtain ⟨its, rv, ⟨o, n, ho, hc, _, hd⟩, _⟩ := I.list (show SqL X.K H _ _ from .inl (.inl h))
    exact .lst ho hc hd (RpAll.rm I ra (by simpa [scrF] using f) rv)
  | _, _, .tup h _ ra, f, _, r => by
    cases r
    obtain ⟨its, rv, ⟨o, ho, hc, n, hd⟩, _⟩ := I.tuple (show SqT X.K H _ _ from .inl (.inr ⟨_, h⟩))
    exact .tup ho hc hd (RpAll.rm I ra (by simpa [scrF] using f) rv)
  | _, _, .dct (ks := ks) (xs := xs) (ds := ds) h hl hp ra, f, _, r => by
    cases r
    subst hp
    have ld : xs.length = ds.length := ra.length
    obtain ⟨_, sm, vs, rel, o, es, ep, h1, h2, h3, _, h5, _⟩ := dk_of I.hok h
    obtain ⟨k1, k2⟩ := rm_keys (g := s.heap) hl rel h5
    refine .dct h1 h2.1 h3 sm ?_ ?_
    · rw [List.map_fst_zip (by simp; omega)]; exact k1
    · rw [List.map_snd_zip (by simp; omega)]
      refine RpAll.rm I ra ?_ k2
      rw [← scrFk_zip (ks := ks) (by omega)]
      simpa [scrF] using f
  | _, _, .scr _ _, f, _, _ => by simp [scrF, scrFk] at f
  | _, _, .dci _ _ _, f, _, _ => by simp [scrF, scrFk] at f
theorem RpAll.rm (I : L2.Inv X pins σ H s) : ∀ {vs : List V} {ds : List PD}, RpAll H vs ds → scrFs ds = true → ∀ {us : List Value}, Vals vs us → Rms s.heap us ds
  | _, _, .nil, _, _, r => by cases r; exact .nil
  | _, _, .cons h t, f, _, r => by
    simp only [scrFs, Bool.and_eq_true] at f
    cases r with
    | cons r1 r2 => exact .cons (Rp.rm I h f.1 r1) (RpAll.rm I t f.2 r2)
end
end
abbrev VE := List (Option PD)
def En (H : Hp) (σ : L2.St) (ρ : VE) : Prop := σ.length = ρ.length ∧ ∀ (i : Nat) (d : PD), ρ[i]? = some (some d) → ∃ v, σ[i]? = some (some v) ∧ Rp H v d
section
variable {H H' : Hp} {σ : L2.St} {ρ : VE}
theorem En.ex (h : En H σ ρ) (e : Ex H H') : En H' σ ρ := ⟨h.1, fun i d hi => let ⟨v, h1, h2⟩ := h.2 i d hi; ⟨v, h1, h2.ex e⟩⟩
theorem En.set (h : En H σ ρ) (j : Nat) {v : V} {d : PD} (hr : Rp H v d) : En H (σ.set j (some v)) (ρ.set j (some d)) := by
  refine ⟨by rw [List.length_set, List.length_set]; exact h.1, fun i q hi => ?_⟩
  by_cases c : j = i
  · subst c
    have hl : j < ρ.length := by
      have := (List.getElem?_eq_some_iff.mp hi).1
      simpa using this
    rw [List.getElem?_set_self hl] at hi
    cases hi
    exact ⟨v, List.getElem?_set_self (by rw [h.1]; exact hl), hr⟩
  · rw [List.getElem?_set_ne c] at hi
    rw [List.getElem?_set_ne c]
    exact h.2 i q hi
theorem En.clear (h : En H σ ρ) (j : Nat) (o : Option V) : En H (σ.set j o) (ρ.set j none) := by
  refine ⟨by rw [List.length_set, List.length_set]; exact h.1, fun i q hi => ?_⟩
  by_cases c : j = i
  · subst c
    have hl : j < ρ.length := by
      have := (List.getElem?_eq_some_iff.mp hi).1
      simpa using this
    rw [List.getElem?_set_self hl] at hi
    cases hi
  · rw [List.getElem?_set_ne c] at hi
    rw [List.getElem?_set_ne c]
    exact h.2 i q hi
end
def Ed (te : TE) (ρ : VE) (d : PD) : Prop := ∀ S σ H, Al S H → En (hid S H) σ ρ → ∀ Q : VK, (∀ v H2, Ex H H2 → Rp (hid S H2) v d → Q v H2) → te σ H Q
def Et (tt : TT) (ρ : VE) (b : Bool) : Prop := ∀ S σ H, Al S H → En (hid S H) σ ρ → ∀ Q : Bool → Hp → Prop, (∀ H2, Ex H H2 → Q b H2) → tt σ H Q
def Ea (ta : TA) (ρ : VE) (ds : List PD) : Prop := ∀ S σ H, Al S H → En (hid S H) σ ρ → ∀ Q : List V → Hp → Prop, (∀ vs H2, Ex H H2 → RpAll (hid S H2) vs ds → Q vs H2) → ta σ H Q
def Ro (r : R2) (x y z : PD) : Prop := ∀ S H vx vy, Al S H → Rp (hid S H) vx x → Rp (hid S H) vy y → ∀ Q : VK, (∀ v H2, Ex H H2 → Rp (hid S H2) v z → Q v H2) → r vx vy H Q
def Rc (r : List V → Hp → VK → Prop) (xs : List PD) (z : PD) : Prop := ∀ S H vs, Al S H → RpAll (hid S H) vs xs → ∀ Q : VK, (∀ v H2, Ex H H2 → Rp (hid S H2) v z → Q v H2) → r vs H Q
abbrev XE := VE → Option PD
abbrev XT := VE → Option Bool
abbrev XA := VE → Option (List PD)
def SE (te : TE) (x : XE) : Prop := ∀ ρ d, x ρ = some d → Ed te ρ d
def ST (tt : TT) (x : XT) : Prop := ∀ ρ b, x ρ = some b → Et tt ρ b
def SA (ta : TA) (x : XA) : Prop := ∀ ρ ds, x ρ = some ds → Ea ta ρ ds
def SO (r : R2) (f : PD → PD → Option PD) : Prop := ∀ x y z, f x y = some z → Ro r x y z
def SC (r : List V → Hp → VK → Prop) (f : List PD → Option PD) : Prop := ∀ xs z, f xs = some z → Rc r xs z
theorem bind_some {α β : Type} {a : Option α} {f : α → Option β} {z : β} (h : a.bind f = some z) : ∃ x, a = some x ∧ f x = some z := by
  cases a with
  | none => cases h
  | some x => exact ⟨x, rfl, h⟩
def xVar (i : Nat) : XE := fun ρ => (ρ[i]?).bind id
def xC (d : PD) : XE := fun _ => some d
def xOp (f : PD → PD → Option PD) (a b : XE) : XE := fun ρ => (a ρ).bind fun x => (b ρ).bind fun y => f x y
def xUn (f : PD → Option PD) (a : XE) : XE := fun ρ => (a ρ).bind f
def xNil : XA := fun _ => some []
def xCons (a : XE) (as : XA) : XA := fun ρ => (a ρ).bind fun x => (as ρ).bind fun xs => some (x :: xs)
def xTup (as : XA) : XE := fun ρ => (as ρ).bind fun ds => if ds.length ≤ 100000 then some (.tuple ds) else none
def xLst (as : XA) : XE := fun ρ => (as ρ).bind fun ds => if ds.length ≤ 100000 then some (.list ds) else none
def xCB (f : List PD → Option PD) (as : XA) : XE := fun ρ => (as ρ).bind f
def isB : PD → Option Bool
  | .bool b => some b
  | _ => none
theorem isB_eq {d : PD} {b : Bool} (h : isB d = some b) : d = .bool b := by
  cases d with
  | bool c => cases h; rfl
  | _ => cases h
def xB (a : XE) : XT := fun ρ => (a ρ).bind isB
def xTAnd (a b : XT) : XT := fun ρ => (a ρ).bind fun c => if c = true then b ρ else some false
def xTOr (a b : XT) : XT := fun ρ => (a ρ).bind fun c => if c = true then some true else b ρ
def xTNot (a : XT) : XT := fun ρ => (a ρ).bind fun c => some (!c)
def xYes : XT := fun _ => some true
def xAnd (a b : XE) : XE := fun ρ => ((a ρ).bind isB).bind fun c => if c = true then b ρ else some (.bool false)
def xOr (a b : XE) : XE := fun ρ => ((a ρ).bind isB).bind fun c => if c = true then some (.bool true) else b ρ
def xNot (a : XE) : XE := fun ρ => ((a ρ).bind isB).bind fun c => some (.bool (!c))
def xIf (c : XT) (a b : XE) : XE := fun ρ => (c ρ).bind fun k => if k = true then a ρ else b ρ
def xChain (f g : PD → PD → Option PD) (a b c : XE) : XE := fun ρ => (a ρ).bind fun x => (b ρ).bind fun y => ((f x y).bind isB).bind fun k => if k = true then (c ρ).bind fun z => g y z else some (.bool false)
section
variable {ta tb tc te : TE} {t u : TT} {ts : TA} {a b c x : XE} {p q : XT} {as : XA} {r r' : R2} {f g : PD → PD → Option PD}
theorem se_var {i : Nat} : SE (tVar i) (xVar i) := fun ρ d h S σ H _ en Q q => by
  obtain ⟨o, h1, h2⟩ := bind_some h
  cases h2
  obtain ⟨v, e, rv⟩ := en.2 i d h1
  exact ⟨v, e, q v H (Ex.refl H) rv⟩
theorem se_int {i : Int} : SE (tC (.int i)) (xC (.int i)) := fun ρ d h S σ H _ _ Q q => by cases h; exact q _ H (Ex.refl H) (.int i)
theorem se_bl {b : Bool} : SE (tC (.bl b)) (xC (.bool b)) := fun ρ d h S σ H _ _ Q q => by cases h; exact q _ H (Ex.refl H) (.bl b)
theorem se_non : SE (tC .non) (xC .none) := fun ρ d h S σ H _ _ Q q => by cases h; exact q _ H (Ex.refl H) .non
theorem se_str {s : Str} : SE (tC (.str s)) (xC (.str s)) := fun ρ d h S σ H _ _ Q q => by cases h; exact q _ H (Ex.refl H) (.str s)
def xD1 (k : Str) (a : XE) : XE := fun ρ => (a ρ).bind fun d => some (.dict [(.str k, d)])
theorem se_op (hr : SO r f) (ha : SE ta a) (hb : SE tb b) : SE (tOp r ta tb) (xOp f a b) := fun ρ d h S σ H al en Q q => by
  obtain ⟨x, h1, h⟩ := bind_some h
  obtain ⟨y, h2, h⟩ := bind_some h
  exact ha ρ x h1 S σ H al en _ fun vx H1 e1 rx => hb ρ y h2 S σ H1 (al.ex e1) (en.ex (hid_ex e1)) _ fun vy H2 e2 ry =>
    hr x y d h S H2 vx vy ((al.ex e1).ex e2) (rx.ex (hid_ex e2)) ry Q fun v H3 e3 rv => q v H3 ((e1.trans e2).trans e3) rv
theorem sa_nil : SA tNil xNil := fun ρ ds h S σ H _ _ Q q => by cases h; exact q [] H (Ex.refl H) .nil
theorem sa_cons (ha : SE ta a) (hs : SA ts as) : SA (tCons ta ts) (xCons a as) := fun ρ ds h S σ H al en Q q => by
  obtain ⟨x, h1, h⟩ := bind_some h
  obtain ⟨xs, h2, h⟩ := bind_some h
  cases h
  exact ha ρ x h1 S σ H al en _ fun v H1 e1 rv => hs ρ xs h2 S σ H1 (al.ex e1) (en.ex (hid_ex e1)) _ fun vs H2 e2 rs => q (v :: vs) H2 (e1.trans e2) (.cons (rv.ex (hid_ex e2)) rs)
theorem se_tup (hs : SA ts as) : SE (tTupF ts) (xTup as) := fun ρ d h S σ H al en Q q => by
  obtain ⟨ds, h1, h⟩ := bind_some h
  by_cases hl : ds.length ≤ 100000
  · rw [if_pos hl] at h
    cases h
    refine hs ρ ds h1 S σ H al en _ fun vs H1 e1 ra => ⟨by rw [ra.length]; exact Evl.sz_of hl, fun p o hp pl => q _ _ (e1.trans (Ex.new hp)) (.tup (new_ok (al.ex e1) hp) pl (ra.ex (hid_ex (Ex.new hp))))⟩
  · rw [if_neg hl] at h; cases h
theorem se_cb {r : List V → Hp → VK → Prop} {f : List PD → Option PD} (hr : SC r f) (hs : SA ts as) : SE (tCB r ts) (xCB f as) := fun ρ d h S σ H al en Q q => by
  obtain ⟨ds, h1, h⟩ := bind_some h
  exact hs ρ ds h1 S σ H al en _ fun vs H1 e1 rv => hr ds d h S H1 vs (al.ex e1) rv Q fun v H2 e2 r2 => q v H2 (e1.trans e2) r2
theorem st_B (ha : SE ta a) : ST (tB ta) (xB a) := fun ρ b h S σ H al en Q q => by
  obtain ⟨x, h1, h⟩ := bind_some h
  have e := isB_eq h
  subst e
  exact ha ρ _ h1 S σ H al en _ fun v H1 e1 rv => by cases rv; exact ⟨b, rfl, q H1 e1⟩
theorem st_test (ha : SE ta a) : ST (tTest ta) (xB a) := fun ρ b h S σ H al en Q q => by
  obtain ⟨x, h1, h⟩ := bind_some h
  have e := isB_eq h
  subst e
  exact ha ρ _ h1 S σ H al en _ fun v H1 e1 rv => by cases rv; exact ⟨b, rfl, q H1 e1⟩
theorem st_yes : ST tYes xYes := fun ρ b h S σ H al en Q q => by cases h; exact q H (Ex.refl H)
theorem st_not (ht : ST t p) : ST (tNot t) (xTNot p) := fun ρ b h S σ H al en Q q => by
  obtain ⟨c, h1, h⟩ := bind_some h
  cases h
  exact ht ρ c h1 S σ H al en _ fun H1 e1 => q H1 e1
theorem st_and (ht : ST t p) (hu : ST u q) : ST (tAnd t u) (xTAnd p q) := fun ρ b h S σ H al en Q k => by
  obtain ⟨c, h1, h⟩ := bind_some h
  refine ht ρ c h1 S σ H al en _ fun H1 e1 => ?_
  cases c with
  | true => exact hu ρ b h S σ H1 (al.ex e1) (en.ex (hid_ex e1)) Q fun H2 e2 => k H2 (e1.trans e2)
  | false => cases h; exact k H1 e1
theorem st_or (ht : ST t p) (hu : ST u q) : ST (tOr t u) (xTOr p q) := fun ρ b h S σ H al en Q k => by
  obtain ⟨c, h1, h⟩ := bind_some h
  refine ht ρ c h1 S σ H al en _ fun H1 e1 => ?_
  cases c with
  | true => cases h; exact k H1 e1
  | false => exact hu ρ b h S σ H1 (al.ex e1) (en.ex (hid_ex e1)) Q fun H2 e2 => k H2 (e1.trans e2)
theorem se_and (ha : SE ta a) (hb : SE tb b) : SE (tAndV ta tb) (xAnd a b) := fun ρ d h S σ H al en Q q => by
  obtain ⟨c, h1, h⟩ := bind_some h
  obtain ⟨x, h0, h1⟩ := bind_some h1
  have e := isB_eq h1
  subst e
  refine ha ρ _ h0 S σ H al en _ fun v H1 e1 rv => ?_
  cases rv
  refine ⟨c, rfl, ?_⟩
  cases c with
  | true => exact hb ρ d h S σ H1 (al.ex e1) (en.ex (hid_ex e1)) Q fun v H2 e2 r2 => q v H2 (e1.trans e2) r2
  | false => cases h; exact q _ H1 e1 (.bl false)
end
end Uv

namespace Uv
open PySem PySem.Spec PyProof.Rows L2
open Evl (Ex)
variable [kk : KK]
theorem OpR.or {X : Cx} {f : Value → Value → Sem Value} {r r' : R2} (h : OpR X f r) (h' : OpR X f r') : OpR X f (fun x y H Q => r x y H Q ∨ r' x y H Q) := fun pins s σ H x y v u Q I rx ry q =>
  q.elim (h pins s σ H x y v u Q I rx ry) (h' pins s σ H x y v u Q I rx ry)
theorem CallR.or {X : Cx} {f : Value} {r r' : List V → Hp → VK → Prop} (h : CallR X f r) (h' : CallR X f r') : CallR X f (fun xs H Q => r xs H Q ∨ r' xs H Q) := fun pins s σ H xs us Q I rx q =>
  q.elim (h pins s σ H xs us Q I rx) (h' pins s σ H xs us Q I rx)
theorem SlR.or {X : Cx} {r r' : V → Option Int → Option Int → Hp → VK → Prop} (h : SlR X r) (h' : SlR X r') : SlR X (fun x lo hi H Q => r x lo hi H Q ∨ r' x lo hi H Q) := fun pins s σ H x v vl vu lo hi sl Q I rx hs pl pu q =>
  q.elim (h pins s σ H x v vl vu lo hi sl Q I rx hs pl pu) (h' pins s σ H x v vl vu lo hi sl Q I rx hs pl pu)
theorem PE.or {X : Cx} {e : Expr} {t u : TE} (h : PE X e t) (h' : PE X e u) : PE X e (fun σ H Q => t σ H Q ∨ u σ H Q) := ⟨fun pins s σ H Q I q => q.elim (h.run pins s σ H Q I) (h'.run pins s σ H Q I)⟩
theorem PI.or {X : Cx} {tg e : Expr} {t u : TI} (h : PI X tg e t) (h' : PI X tg e u) : PI X tg e (fun σ H Q => t σ H Q ∨ u σ H Q) := ⟨fun pins s σ H Q I q => q.elim (h.run pins s σ H Q I) (h'.run pins s σ H Q I)⟩
abbrev oSub : R2 := rI0 fun i j => .int (i - j)
abbrev oDivW : R2 := rI CDivW fun i j => .int (i / j)
abbrev oMod : R2 := rI (fun _ j => 0 < j) fun i j => .int (i % j)
abbrev oPow : R2 := rI CPow fun i j => .int (i ^ j.toNat)
abbrev oLt : R2 := rI0 fun i j => .bl (decide (i < j))
abbrev oGt : R2 := rI0 fun i j => .bl (decide (j < i))
abbrev rAbsQ : List V → Hp → VK → Prop := fun xs H Q => ∃ i, xs = [.int i] ∧ Q (.int (if i < 0 then -i else i)) H
abbrev rIntQ : List V → Hp → VK → Prop := fun xs H Q => (∃ i, xs = [.int i] ∧ Q (.int i) H) ∨ ∃ k, xs = [.bl k] ∧ Q (.int (if k then 1 else 0)) H
section
def addP : PD → PD → Option PD
  | .int i, .int j => some (.int (i + j))
  | .list xs, .list ys => if xs.length + ys.length ≤ 100000 then some (.list (xs ++ ys)) else none
  | .tuple xs, .tuple ys => if xs.length + ys.length ≤ 100000 then some (.tuple (xs ++ ys)) else none
  | _, _ => none
def rAddU (K : PySem.W.Frag) : R2 := fun x y H Q => rI0 (fun i j => .int (i + j)) x y H Q ∨ (rCat x y H Q ∨ rCatF K x y H Q)
theorem op_addU {X : Cx} : OpR X (binaryOp .Add) (rAddU X.K) := OpR.or op_add (OpR.or op_cat op_catF)
theorem so_add : SO (rAddU K) addP := fun x y z h S H vx vy al rx ry Q q => by
  cases rx with
  | int i =>
    cases ry with
    | int j =>
      cases h
      exact .inl ⟨i, j, rfl, rfl, q _ H (Ex.refl H) (.int _)⟩
    | _ => cases h
  | @lst a xs ds ha ra =>
    cases ry with
    | @lst b ys es hb rb =>
      have h : (if ds.length + es.length ≤ 100000 then some (PyData.list (ds ++ es)) else none) = some z := h
      by_cases c : ds.length + es.length ≤ 100000
      · rw [if_pos c] at h
        cases h
        refine .inr (.inl ⟨a, b, xs, ys, rfl, rfl, hid_le _ _ ha, hid_le _ _ hb, by rw [ra.length, rb.length]; exact Evl.sz_of c, fun p hp => q _ _ (Ex.new hp) (.lst (new_ok al hp) ((ra.append rb).ex (hid_ex (Ex.new hp))))⟩)
      · rw [if_neg c] at h; cases h
    | _ => cases h
  | @tup a o xs ds ha pa ra =>
    cases ry with
    | @tup b o' ys es hb pb rb =>
      have h : (if ds.length + es.length ≤ 100000 then some (PyData.tuple (ds ++ es)) else none) = some z := h
      by_cases c : ds.length + es.length ≤ 100000
      · rw [if_pos c] at h
        cases h
        refine .inr (.inr ⟨a, b, xs, ys, rfl, rfl, .inl (.inr ⟨_, hid_le _ _ ha⟩), .inl (.inr ⟨_, hid_le _ _ hb⟩), by rw [ra.length, rb.length]; exact Evl.sz_of c, fun e => ?_, fun _ e => ?_, fun _ _ p o hp pl => q _ _ (Ex.new hp) (.tup (new_ok al hp) pl ((ra.append rb).ex (hid_ex (Ex.new hp))))⟩)
        · subst e
          cases ra
          exact q _ H (Ex.refl H) (.tup hb pb rb)
        · subst e
          cases rb
          exact q _ H (Ex.refl H) (by rw [List.append_nil]; exact .tup ha pa ra)
      · rw [if_neg c] at h; cases h
    | _ => cases h
  | _ => cases h
def intF (f : Int → Int → Option PD) : PD → PD → Option PD
  | .int i, .int j => f i j
  | _, _ => none
theorem intF_eq {f : Int → Int → Option PD} {x y z : PD} (h : intF f x y = some z) : ∃ i j, x = .int i ∧ y = .int j ∧ f i j = some z := by
  cases x with
  | int i =>
    cases y with
    | int j => exact ⟨i, j, rfl, rfl, h⟩
    | _ => cases h
  | _ => cases h
theorem so_rI {C : Int → Int → Prop} {g : Int → Int → Int} {f : Int → Int → Option PD} (hf : ∀ i j z, f i j = some z → C i j ∧ z = .int (g i j)) : SO (rI C fun i j => .int (g i j)) (intF f) := fun x y z h S H vx vy al rx ry Q q => by
  obtain ⟨i, j, rfl, rfl, h⟩ := intF_eq h
  obtain ⟨h1, rfl⟩ := hf i j z h
  cases rx; cases ry
  exact ⟨i, j, rfl, rfl, h1, q _ H (Ex.refl H) (.int _)⟩
theorem so_rI0 {g : Int → Int → Int} : SO (rI0 fun i j => .int (g i j)) (intF fun i j => some (.int (g i j))) := fun x y z h S H vx vy al rx ry Q q => by
  obtain ⟨i, j, rfl, rfl, h⟩ := intF_eq h
  cases h
  cases rx; cases ry
  exact ⟨i, j, rfl, rfl, q _ H (Ex.refl H) (.int _)⟩
theorem so_rIb {g : Int → Int → Bool} : SO (rI0 fun i j => .bl (g i j)) (intF fun i j => some (.bool (g i j))) := fun x y z h S H vx vy al rx ry Q q => by
  obtain ⟨i, j, rfl, rfl, h⟩ := intF_eq h
  cases h
  cases rx; cases ry
  exact ⟨i, j, rfl, rfl, q _ H (Ex.refl H) (.bl _)⟩
def subP : PD → PD → Option PD := intF fun i j => some (.int (i - j))
def divP : PD → PD → Option PD := intF fun i j => if 0 < j ∧ j < 2 ^ 64 then some (.int (i / j)) else none
def modP : PD → PD → Option PD := intF fun i j => if 0 < j then some (.int (i % j)) else none
def powP : PD → PD → Option PD := intF fun i j => if 0 ≤ j ∧ j ≤ 1000 ∧ -(2 ^ 63) < i ∧ i < 2 ^ 63 then some (.int (i ^ j.toNat)) else none
def ltP : PD → PD → Option PD := intF fun i j => some (.bool (decide (i < j)))
def leP : PD → PD → Option PD := intF fun i j => some (.bool (decide (i ≤ j)))
def gtP : PD → PD → Option PD := intF fun i j => some (.bool (decide (j < i)))
def geP : PD → PD → Option PD := intF fun i j => some (.bool (decide (j ≤ i)))
theorem so_sub : SO oSub subP := so_rI0
theorem so_lt : SO oLt ltP := so_rIb
theorem so_div : SO oDivW divP := so_rI fun i j z h => by
  by_cases c : 0 < j ∧ j < 2 ^ 64
  · rw [if_pos c] at h
    cases h
    exact ⟨⟨c.1, Nat.lt_of_lt_of_le (PySem.Flt.log2_lt_of (k := 64) (by decide) (by omega)) (by decide)⟩, rfl⟩
  · rw [if_neg c] at h; cases h
theorem so_mod : SO oMod modP := so_rI fun i j z h => by
  by_cases c : 0 < j
  · rw [if_pos c] at h
    cases h
    exact ⟨c, rfl⟩
  · rw [if_neg c] at h; cases h
theorem so_pow : SO oPow powP := so_rI fun i j z h => by
  by_cases c : 0 ≤ j ∧ j ≤ 1000 ∧ -(2 ^ 63) < i ∧ i < 2 ^ 63
  · rw [if_pos c] at h
    cases h
    exact ⟨⟨c.1, by omega, by omega⟩, rfl⟩
  · rw [if_neg c] at h; cases h
def mulP : PD → PD → Option PD
  | .int i, .int j => if (-(2 ^ 64) < i ∧ i < 2 ^ 64) ∨ (-(2 ^ 64) < j ∧ j < 2 ^ 64) then some (.int (i * j)) else none
  | .list xs, .int j => if 0 ≤ j ∧ j ≤ 100000 ∧ xs.length * j.toNat ≤ 100000 then some (.list (List.replicate j.toNat xs).flatten) else none
  | _, _ => none
def rMulU : R2 := fun x y H Q => rI CMul (fun i j => .int (i * j)) x y H Q ∨ rRep x y H Q
theorem op_mulU {X : Cx} : OpR X (binaryOp .Mult) rMulU := OpR.or op_mul op_rep
theorem so_mul : SO rMulU mulP := fun x y z h S H vx vy al rx ry Q q => by
  cases rx with
  | int i =>
    cases ry with
    | int j =>
      have h : (if (-(2 ^ 64) < i ∧ i < 2 ^ 64) ∨ (-(2 ^ 64) < j ∧ j < 2 ^ 64) then some (PyData.int (i * j)) else none) = some z := h
      by_cases c : (-(2 ^ 64) < i ∧ i < 2 ^ 64) ∨ (-(2 ^ 64) < j ∧ j < 2 ^ 64)
      · rw [if_pos c] at h
        cases h
        exact .inl ⟨i, j, rfl, rfl, c, q _ H (Ex.refl H) (.int _)⟩
      · rw [if_neg c] at h; cases h
    | _ => cases h
  | @lst a xs ds ha ra =>
    cases ry with
    | int j =>
      have h : (if 0 ≤ j ∧ j ≤ 100000 ∧ ds.length * j.toNat ≤ 100000 then some (PyData.list (List.replicate j.toNat ds).flatten) else none) = some z := h
      by_cases c : 0 ≤ j ∧ j ≤ 100000 ∧ ds.length * j.toNat ≤ 100000
      · rw [if_pos c] at h
        cases h
        refine .inr ⟨_, _, _, rfl, rfl, hid_le _ _ ha, by omega, by omega, ?_, fun p hp => q _ _ (Ex.new hp) (.lst (new_ok al hp) ((ra.rep j.toNat).ex (hid_ex (Ex.new hp))))⟩
        rw [ra.length]
        exact Evl.sz_of c.2.2
      · rw [if_neg c] at h; cases h
    | _ => cases h
  | _ => cases h
def negP : PD → Option PD
  | .int i => some (.int (-i))
  | _ => none
def eqE : PD → PD → Option PD
  | .tuple ds, .tuple [] => some (.bool ds.isEmpty)
  | .dict [], .str _ => some (.bool false)
  | .dict ((.str _, _) :: _), .str _ => some (.bool false)
  | _, _ => none
def eqP (x y : PD) : Option PD := if SeqAt.shaped x = true ∧ SeqAt.shaped y = true then some (.bool (PyData.eqv x y)) else eqE x y
def rEqX (K : PySem.W.Frag) : R2 := fun x y H Q => rEqD K x y H Q ∨ (∃ a b xs, x = .ref a ∧ y = .ref b ∧ SqT K H a xs ∧ SqT K H b [] ∧ Q (.bl xs.isEmpty) H) ∨ ∃ a kvs t, x = .ref a ∧ y = .str t ∧ H a = some (.dK kvs) ∧ Q (.bl false) H
theorem op_eqX {X : Cx} (hu : X.A.units + 64 < cLine) : OpR X (compareOp .Eq) (rEqX X.K) := by
  intro pins s σ H x y v u Q I rx ry h
  rcases h with h | ⟨a, b, xs, rfl, rfl, ha, hb, q⟩ | ⟨a, kvs, t, rfl, rfl, ha, q⟩
  · exact op_eqD hu pins s σ H x y v u Q I rx ry h
  · cases rx
    cases ry
    obtain ⟨its, rv, ht, _⟩ := I.tuple ha
    obtain ⟨its2, rv2, ht2, _⟩ := I.tuple hb
    cases rv2
    refine SeqAt.RcAt.tuples (e := fun _ => true) ht ht2 (by omega) (fun j _ h2 => absurd h2 (by simp)) X.prog X.w X.xe _ ⟨.bl _, H, I, ?_, q⟩
    show Value.bool _ = Value.bool _
    cases rv with
    | nil => rfl
    | cons h t => simp
  · cases rx
    obtain ⟨tk, rfl⟩ := ry
    obtain ⟨_, _, vs, _, o, es, ep, h1, h2, h3, _⟩ := dk_of I.hok ha
    obtain ⟨cls, dd, data, sl⟩ := o
    obtain ⟨c1, c2, c3⟩ := h2
    simp only at c1 h3
    subst c1 h3
    exact dct_str t tk h1 (by omega) X.prog X.w X.xe _ ⟨.bl false, H, I, rfl, q⟩
def neP (x y : PD) : Option PD := if SeqAt.shaped x = true ∧ SeqAt.shaped y = true then some (.bool (!PyData.eqv x y)) else none
theorem nodict {d : PD} (h : SeqAt.shaped d = true) : d.hasDict = false := by
  unfold SeqAt.shaped at h
  rw [Bool.and_eq_true] at h
  exact PyData.hasDict_of_canLay d h.1
theorem so_eq : SO (rEqX K) eqP := fun x y z h S H vx vy al rx ry Q q => by
  unfold eqP at h
  by_cases c : SeqAt.shaped x = true ∧ SeqAt.shaped y = true
  · rw [if_pos c] at h
    cases h
    exact .inl ⟨x, y, (rx.ex hid_le).dp (nodict c.1), (ry.ex hid_le).dp (nodict c.2), c.1, c.2, q _ H (Ex.refl H) (.bl _)⟩
  · rw [if_neg c] at h
    unfold eqE at h
    split at h
    · cases h
      cases rx with
      | @tup a o xs _ hx _ ra =>
        cases ry with
        | @tup b o2 ys ds2 hy _ rb =>
          cases rb
          have qq := q (.bl xs.isEmpty) H (Ex.refl H)
          refine .inr (.inl ⟨a, b, xs, rfl, rfl, .inl (.inr ⟨_, hid_le _ _ hx⟩), .inl (.inr ⟨_, hid_le _ _ hy⟩), qq ?_⟩)
          cases ra with
          | nil => exact .bl _
          | cons _ _ => exact .bl _
    · cases h
      cases ry
      cases rx with
      | dct hx _ _ _ => exact .inr (.inr ⟨_, _, _, rfl, rfl, hid_le _ _ hx, q _ H (Ex.refl H) (.bl _)⟩)
    · cases h
      cases ry
      cases rx with
      | dct hx _ _ _ => exact .inr (.inr ⟨_, _, _, rfl, rfl, hid_le _ _ hx, q _ H (Ex.refl H) (.bl _)⟩)
    · cases h
theorem so_ne : SO (rNeD K) neP := fun x y z h S H vx vy al rx ry Q q => by
  unfold neP at h
  by_cases c : SeqAt.shaped x = true ∧ SeqAt.shaped y = true
  · rw [if_pos c] at h
    cases h
    exact ⟨x, y, (rx.ex hid_le).dp (nodict c.1), (ry.ex hid_le).dp (nodict c.2), c.1, c.2, q _ H (Ex.refl H) (.bl _)⟩
  · rw [if_neg c] at h; cases h
def isNone : PD → Bool
  | .none => true
  | _ => false
def rNotInTu (K : PySem.W.Frag) : R2 := fun x y H Q => ∃ d ds, Dp K H x d ∧ Dp K H y (.tuple ds) ∧ SeqAt.shaped d = true ∧ SeqAt.shaped (.tuple ds) = true ∧ Q (.bl (!ds.any fun z => PyData.eqv z d)) H
def ixP : PD → PD → Option PD
  | .tuple ds, .int i => atI ds i
  | .list ds, .int i => atI ds i
  | .dict [(.none, .list ds)], .int i => atI ds i
  | _, _ => none
theorem so_ix : SO (rIx K) ixP := fun x y z h S H vx vy al rx ry Q q => by
  cases rx with
  | lst ha ra =>
    cases ry with
    | int i =>
      obtain ⟨v, h1, h2⟩ := ra.at h
      exact .inl ⟨_, _, i, v, rfl, rfl, .inl (.inl (hid_le _ _ ha)), h1, q v H (Ex.refl H) h2⟩
    | _ => cases h
  | tup ha _ ra =>
    cases ry with
    | int i =>
      obtain ⟨v, h1, h2⟩ := ra.at h
      exact .inr (.inl ⟨_, _, i, v, rfl, rfl, .inl (.inr ⟨_, hid_le _ _ ha⟩), h1, q v H (Ex.refl H) h2⟩)
    | _ => cases h
  | scr hs ra =>
    cases ry with
    | int i =>
      obtain ⟨v, h1, h2⟩ := ra.at h
      exact .inl ⟨_, _, i, v, rfl, rfl, sqx hid_le hs, h1, q v H (Ex.refl H) h2⟩
    | _ => cases h
  | dct _ _ hp _ => rcases zip_str hp with e | ⟨k, d, r, e⟩ <;> (subst e; cases h)
  | _ => cases h
abbrev XO := VE → Option (Option Int)
def Eo (to : TO) (ρ : VE) (o : Option Int) : Prop := ∀ S σ H, Al S H → En (hid S H) σ ρ → ∀ Q : Option Int → Hp → Prop, (∀ H2, Ex H H2 → Q o H2) → to σ H Q
def SP (to : TO) (x : XO) : Prop := ∀ ρ o, x ρ = some o → Eo to ρ o
def xNoPart : XO := fun _ => some none
def xPart (a : XE) : XO := fun ρ => (a ρ).bind fun d => match d with
  | .int i => some (some i)
  | _ => none
theorem sp_none : SP tNoPart xNoPart := fun ρ o h S σ H al en Q q => by cases h; exact q H (Ex.refl H)
theorem sp_some {ta : TE} {a : XE} (ha : SE ta a) : SP (tPart ta) (xPart a) := fun ρ o h S σ H al en Q q => by
  obtain ⟨d, h1, h⟩ := bind_some h
  cases d with
  | int i =>
    cases h
    exact ha ρ _ h1 S σ H al en _ fun v H1 e1 rv => by cases rv; exact ⟨i, rfl, q H1 e1⟩
  | _ => cases h
def cutD (ds : List PD) (lo hi : Option Int) : List PD := (ds.drop (HT.sIx ds.length 0 lo)).take (HT.sIx ds.length ds.length hi - HT.sIx ds.length 0 lo)
def slP : PD → Option Int → Option Int → Option PD
  | .list ds, lo, hi => some (.list (cutD ds lo hi))
  | .tuple ds, lo, hi => some (.tuple (cutD ds lo hi))
  | .dict [(.none, .list ds)], lo, hi => some (.list (cutD ds lo hi))
  | _, _, _ => none
def rSlU (K : PySem.W.Frag) : V → Option Int → Option Int → Hp → VK → Prop := fun x lo hi H Q => rSlL K x lo hi H Q ∨ rSlF K x lo hi H Q
theorem sl_U {X : Cx} : SlR X (rSlU X.K) := SlR.or sl_list sl_tupF
def xSl (a : XE) (lo hi : XO) : XE := fun ρ => (a ρ).bind fun d => (lo ρ).bind fun l => (hi ρ).bind fun h => slP d l h
theorem RpAll.cut {H : Hp} {vs : List V} {ds : List PD} (r : RpAll H vs ds) (lo hi : Option Int) : RpAll H (cutV vs lo hi) (cutD ds lo hi) := by
  unfold cutV cutD
  rw [r.length]
  exact (r.drop _).take _
theorem se_sl {ta : TE} {tl th : TO} {a : XE} {lo hi : XO} (ha : SE ta a) (hl : SP tl lo) (hh : SP th hi) : SE (tSl (rSlU K) ta tl th) (xSl a lo hi) := fun ρ d h S σ H al en Q q => by
  obtain ⟨x, h1, h⟩ := bind_some h
  obtain ⟨l, h2, h⟩ := bind_some h
  obtain ⟨u, h3, h⟩ := bind_some h
  refine ha ρ x h1 S σ H al en _ fun v H1 e1 rv => hl ρ l h2 S σ H1 (al.ex e1) (en.ex (hid_ex e1)) _ fun H2 e2 => hh ρ u h3 S σ H2 ((al.ex e1).ex e2) ((en.ex (hid_ex e1)).ex (hid_ex e2)) _ fun H3 e3 => ?_
  have e23 := e2.trans e3
  have e13 := e1.trans e23
  have rv3 := rv.ex (hid_ex (S := S) e23)
  cases rv3 with
  | lst ha3 ra3 =>
    cases h
    exact .inl ⟨_, _, rfl, .inl (.inl (hid_le _ _ ha3)), fun p hp => q _ _ (e13.trans (Ex.new hp)) (.lst (new_ok (al.ex e13) hp) ((ra3.cut l u).ex (hid_ex (Ex.new hp))))⟩
  | @tup a o xs ds ha3 pl ra3 =>
    cases h
    refine .inr ⟨_, _, rfl, .inl (.inr ⟨_, hid_le _ _ ha3⟩), fun c => ?_, fun _ p o hp pl => q _ _ (e13.trans (Ex.new hp)) (.tup (new_ok (al.ex e13) hp) pl ((ra3.cut l u).ex (hid_ex (Ex.new hp))))⟩
    have e : cutD ds l u = ds := by
      unfold cutD
      rw [ra3.length] at c
      rw [c.1, c.2, List.drop_zero, Nat.sub_zero, List.take_length]
    exact q _ H3 e13 (by rw [e]; exact .tup ha3 pl ra3)
  | scr hs ra3 =>
    cases h
    exact .inl ⟨_, _, rfl, sqx hid_le hs, fun p hp => q _ _ (e13.trans (Ex.new hp)) (.lst (new_ok (al.ex e13) hp) ((ra3.cut l u).ex (hid_ex (Ex.new hp))))⟩
  | dct _ _ hp _ => rcases zip_str hp with e | ⟨k, d, r, e⟩ <;> (subst e; cases h)
  | _ => cases h
end
end Uv

namespace Uv
open PySem PySem.Spec PyProof.Rows L2
open Evl (Ex)
variable [kk : KK]
theorem op_notInTu {X : Cx} (hu : X.A.units + 65 < cLine) : OpR X (compareOp .NotIn) (rNotInTu X.K) := by
  intro pins s σ H x y v u Q I rx ry ⟨d, ds, h1, h2, s1, s2, q⟩
  obtain ⟨as, r1⟩ := Dp.reads I d x v h1 rx
  obtain ⟨bs, r2⟩ := Dp.reads I (.tuple ds) y u h2 ry
  exact SeqAt.notIn_tuple_reads r2 r1 (SeqAt.canLay_of_shaped s2) (SeqAt.canLay_of_shaped s1) (room_in_shaped s1 hu) ⟨.bl _, H, I, rfl, q⟩
def rNotInU (K : PySem.W.Frag) : R2 := fun x y H Q => rNotInD K x y H Q ∨ rNotInTu K x y H Q
theorem op_notInU {X : Cx} (hu : X.A.units + 65 < cLine) : OpR X (compareOp .NotIn) (rNotInU X.K) := OpR.or (op_notInD hu) (op_notInTu hu)
def notinP (x y : PD) : Option PD := if SeqAt.shaped x = true ∧ SeqAt.shaped y = true then match y with
  | .list ds => some (.bool (!ds.any fun z => PyData.eqv z x))
  | .tuple ds => some (.bool (!ds.any fun z => PyData.eqv z x))
  | _ => none else none
section
theorem so_notin : SO (rNotInU K) notinP := fun x y z h S H vx vy al rx ry Q q => by
  unfold notinP at h
  by_cases c : SeqAt.shaped x = true ∧ SeqAt.shaped y = true
  · rw [if_pos c] at h
    cases y with
    | list ds =>
      cases h
      exact .inl ⟨x, ds, (rx.ex hid_le).dp (nodict c.1), (ry.ex hid_le).dp (nodict c.2), c.1, c.2, q _ H (Ex.refl H) (.bl _)⟩
    | tuple ds =>
      cases h
      exact .inr ⟨x, ds, (rx.ex hid_le).dp (nodict c.1), (ry.ex hid_le).dp (nodict c.2), c.1, c.2, q _ H (Ex.refl H) (.bl _)⟩
    | _ => cases h
  · rw [if_neg c] at h; cases h
def on1 (f : PD → Option PD) : List PD → Option PD
  | [x] => f x
  | _ => none
def on2 (f : PD → PD → Option PD) : List PD → Option PD
  | [x, y] => f x y
  | _ => none
theorem on1_eq {f : PD → Option PD} {xs : List PD} {z : PD} (h : on1 f xs = some z) : ∃ x, xs = [x] ∧ f x = some z := by
  match xs, h with
  | [x], h => exact ⟨x, rfl, h⟩
  | [], h => cases h
  | _ :: _ :: _, h => cases h
theorem sc_on1 {r : List V → Hp → VK → Prop} {f : PD → Option PD} (hf : ∀ x z, f x = some z → ∀ S H v, Al S H → Rp (hid S H) v x → ∀ Q : VK, (∀ v H2, Ex H H2 → Rp (hid S H2) v z → Q v H2) → r [v] H Q) : SC r (on1 f) := fun xs z h S H vs al rv Q q => by
  obtain ⟨x, rfl, h⟩ := on1_eq h
  cases rv with
  | cons h1 t => cases t; exact hf x z h S H _ al h1 Q q
def rLenQ (K : PySem.W.Frag) : List V → Hp → VK → Prop := fun xs H Q => ∃ p ys, xs = [.ref p] ∧ (SqL K H p ys ∨ SqT K H p ys) ∧ Q (.int ys.length) H
def lenP : PD → Option PD
  | .list ds => some (.int (ds.length : Nat))
  | .tuple ds => some (.int (ds.length : Nat))
  | .dict [(.none, .list ds)] => some (.int (ds.length : Nat))
  | _ => none
theorem sc_len : SC (rLenQ K) (on1 lenP) := sc_on1 fun x z h S H v al rv Q q => by
  cases rv with
  | lst ha ra => cases h; exact ⟨_, _, rfl, .inl (.inl (.inl (hid_le _ _ ha))), q _ H (Ex.refl H) (ra.length ▸ .int _)⟩
  | tup ha _ ra => cases h; exact ⟨_, _, rfl, .inr (.inl (.inr ⟨_, hid_le _ _ ha⟩)), q _ H (Ex.refl H) (ra.length ▸ .int _)⟩
  | scr hs ra => cases h; exact ⟨_, _, rfl, .inl (sqx hid_le hs), q _ H (Ex.refl H) (ra.length ▸ .int _)⟩
  | dct _ _ hp _ => rcases zip_str hp with e | ⟨k, d, r, e⟩ <;> (subst e; cases h)
  | _ => cases h
def absP : PD → Option PD
  | .int i => some (.int (if i < 0 then -i else i))
  | _ => none
theorem sc_abs : SC rAbsQ (on1 absP) := sc_on1 fun x z h S H v al rv Q q => by
  cases rv with
  | int i => cases h; exact ⟨i, rfl, q _ H (Ex.refl H) (.int _)⟩
  | _ => cases h
def toIntP : PD → Option PD
  | .int i => some (.int i)
  | .bool b => some (.int (if b then 1 else 0))
  | _ => none
def leastI : Int → List Int → Int
  | x, [] => x
  | x, y :: ys => leastI (if y < x then y else x) ys
def mostI : Int → List Int → Int
  | x, [] => x
  | x, y :: ys => mostI (if y > x then y else x) ys
theorem mostI_mem : ∀ (ys : List Int) (x : Int), mostI x ys ∈ x :: ys
  | [], x => List.mem_cons_self ..
  | y :: ys, x => by
    have z := mostI_mem ys (if y > x then y else x)
    unfold mostI
    by_cases c : y > x
    · rw [if_pos c] at z ⊢
      exact List.mem_cons_of_mem _ z
    · rw [if_neg c] at z ⊢
      rcases List.mem_cons.mp z with e | e
      · rw [e]; exact List.mem_cons_self ..
      · exact List.mem_cons_of_mem _ (List.mem_cons_of_mem _ e)
theorem mostI_ge : ∀ (ys : List Int) (x : Int), ∀ y ∈ x :: ys, y ≤ mostI x ys
  | [], x, y, h => by
    have e : y = x := by simpa using h
    rw [e]
    exact Int.le_refl _
  | z :: ys, x, y, h => by
    unfold mostI
    have ih := mostI_ge ys (if z > x then z else x)
    have i0 := ih _ (List.mem_cons_self ..)
    rcases List.mem_cons.mp h with e | h
    · subst e
      refine Int.le_trans ?_ i0
      split <;> omega
    · rcases List.mem_cons.mp h with e | h
      · subst e
        refine Int.le_trans ?_ i0
        split <;> omega
      · exact ih y (List.mem_cons_of_mem _ h)
def minL : List Int → Option PD
  | x :: xs => some (.int (leastI x xs))
  | [] => none
def maxL : List Int → Option PD
  | x :: xs => some (.int (mostI x xs))
  | [] => none
def minP : List PD → Option PD
  | [.list ds] => (unI ds).bind minL
  | [.int i, .int j] => some (.int (if j < i then j else i))
  | _ => none
def maxP : List PD → Option PD
  | [.list ds] => (unI ds).bind maxL
  | [.int i, .int j] => some (.int (if j > i then j else i))
  | _ => none
def rMaxU (K : PySem.W.Frag) : List V → Hp → VK → Prop := fun xs H Q => rMax K xs H Q ∨ ∃ i j, xs = [.int i, .int j] ∧ Q (.int (if j > i then j else i)) H
theorem cr_maxU {X : Cx} (hc : X.calm = true) : CallR X (.builtin "max") (rMaxU X.K) := CallR.or (cr_max hc) (call_max2 hc)
theorem sc_max : SC (rMaxU K) maxP := fun xs z h S H vs al rv Q q => by
  unfold maxP at h
  split at h
  · cases rv with
    | cons h1 t =>
      cases t
      cases h1 with
      | lst ha ra =>
        obtain ⟨ns, h1, h2⟩ := bind_some h
        have e := unI_eq h1
        subst e
        have e := ra.ints
        subst e
        cases ns with
        | nil => cases h2
        | cons n ns =>
          cases h2
          refine .inl ⟨_, n :: ns, rfl, .inl (.inl (hid_le _ _ ha)), Nat.succ_pos _, fun m m1 m2 => ?_⟩
          have e : m = mostI n ns := Int.le_antisymm (mostI_ge ns n m m1) (m2 _ (mostI_mem ns n))
          rw [e]
          exact q _ H (Ex.refl H) (.int _)
  · cases rv with
    | cons h1 t =>
      cases t with
      | cons h2 t =>
        cases t
        cases h1; cases h2; cases h
        exact .inr ⟨_, _, rfl, q _ H (Ex.refl H) (.int _)⟩
  · cases h
def tupP : PD → Option PD
  | .list ds => some (.tuple ds)
  | .tuple ds => some (.tuple ds)
  | _ => none
theorem sc_tup : SC (rTupF K) (on1 tupP) := sc_on1 fun x z h S H v al rv Q q => by
  cases rv with
  | lst ha ra => cases h; exact ⟨_, _, rfl, .inl ⟨.inl (.inl (hid_le _ _ ha)), fun l o hl pl => q _ _ (Ex.new hl) (.tup (new_ok al hl) pl (ra.ex (hid_ex (Ex.new hl))))⟩⟩
  | tup ha p ra => cases h; exact ⟨_, _, rfl, .inr ⟨.inl (.inr ⟨_, hid_le _ _ ha⟩), q _ H (Ex.refl H) (.tup ha p ra)⟩⟩
  | _ => cases h
def rListQ (K : PySem.W.Frag) : List V → Hp → VK → Prop := fun xs H Q => ∃ p ys, xs = [.ref p] ∧ (SqL K H p ys ∨ SqT K H p ys) ∧ ∀ l, H l = none → Q (.ref l) (upd H l (.lst ys))
def listP : PD → Option PD
  | .list ds => some (.list ds)
  | .tuple ds => some (.list ds)
  | _ => none
def tyN : PD → String
  | .none => "NoneType"
  | .bool _ => "bool"
  | .int _ => "int"
  | .str _ => "str"
  | .list _ => "list"
  | .tuple _ => "tuple"
  | .dict _ => "dict"
def full : PD → Bool
  | .dict ((.none, _) :: _) => true
  | _ => false
theorem Rp.ty {H : Hp} {v : V} {d : PD} (r : Rp H v d) (nf : full d = false) : TyX K H v (.type (tyN d)) := by
  cases r with
  | non => exact .base .non
  | bl b => exact .base (.bl b)
  | int i => exact .base (.int i)
  | str x => exact .base (.str x)
  | lst h _ => exact .base (.lst h)
  | tup h _ _ => exact .fTuple h
  | dct h _ _ _ => exact .base (.dK h)
  | dci h _ _ => exact .base (.dK h)
  | scr _ _ => cases nf
inductive Ty | int | bool | str | list | tuple | dict
def Ty.nm : Ty → String
  | .int => "int" | .bool => "bool" | .str => "str" | .list => "list" | .tuple => "tuple" | .dict => "dict"
def isTy : Ty → PD → Bool
  | .int, .int _ => true
  | .int, .bool _ => true
  | .bool, .bool _ => true
  | .str, .str _ => true
  | .list, .list _ => true
  | .tuple, .tuple _ => true
  | .dict, .dict _ => true
  | _, _ => false
def xIsi (t : Ty) (a : XE) : XE := fun ρ => (a ρ).bind fun d => if full d = true then none else some (.bool (isTy t d))
def rRepr (K : PySem.W.Frag) : List V → Hp → VK → Prop := fun vs H Q => ∃ v d, vs = [v] ∧ Rp H v d ∧ d.showable = true ∧ scrF d = true ∧ d.depth ≤ 60 ∧ d.shown.length ≤ sizeLine ∧ Q (.str d.shown) H
theorem cr_repr {X : Cx} (hg : X.A.guards = some []) (hu : X.A.units + 65 < cLine) : CallR X (.builtin "repr") (rRepr X.K) := by
  intro pins s σ H vs us Q I r h
  obtain ⟨v, d, rfl, hd, sh, nd, dp, sz, q⟩ := h
  obtain ⟨u, rfl, ru⟩ : ∃ u, us = [u] ∧ RelV v u := by
    cases r with
    | cons p t => cases t; exact ⟨_, rfl, p⟩
  have rd := Rp.rm I hd nd ru
  have fin : ∀ h' tk t, (∀ b o, s.heap.get? b = some o → h'.get? b = some o) → ∃ v H', L2.Inv X pins σ H' { s with heap := h', toks := tk } ∧ RelV v (.str d.shown t) ∧ Q v H' := fun h' tk t hk => ⟨.str _, H, I.kept hk, ⟨_, rfl⟩, q⟩
  cases rd with
  | non => exact P.repr_of_none (fin s.heap _ _ fun _ _ e => e)
  | bl b => exact P.repr_of_bool (by cases b <;> exact fin s.heap _ _ fun _ _ e => e)
  | int i t => exact P.repr_of_int (by simpa [PyData.showable] using sh) (fin s.heap _ _ fun _ _ e => e)
  | str x t => exact P.repr_of_str (fin s.heap _ _ fun _ _ e => e) sz
  | lst h1 h2 h3 h4 => exact Rm.repr (.lst h1 h2 h3 h4) sh hg (by omega) (fun h' u tk hk => fin h' tk u hk) sz
  | tup h1 h2 h3 h4 => exact Rm.repr (.tup h1 h2 h3 h4) sh hg (by omega) (fun h' u tk hk => fin h' tk u hk) sz
  | dct h1 h2 h3 h4 h5 h6 => exact Rm.repr (.dct h1 h2 h3 h4 h5 h6) sh hg (by omega) (fun h' u tk hk => fin h' tk u hk) sz
def CanShow (d : PD) : Prop := d.showable = true ∧ scrF d = true ∧ d.depth ≤ 60 ∧ d.shown.length ≤ sizeLine
instance {d : PD} : Decidable (CanShow d) := inferInstanceAs (Decidable (_ ∧ _))
def reprP (d : PD) : Option PD := if CanShow d then some (.str d.shown) else none
theorem sc_repr : SC (rRepr K) (on1 reprP) := sc_on1 fun x z h S H v al rv Q q => by
  unfold reprP at h
  by_cases c : CanShow x
  · rw [if_pos c] at h
    cases h
    exact ⟨v, x, rfl, rv.ex hid_le, c.1, c.2.1, c.2.2.1, c.2.2.2, q _ H (Ex.refl H) (.str _)⟩
  · rw [if_neg c] at h; cases h
def idxP (x y : PD) : Option PD := match x, y with
  | .tuple ds, .int m => (unI ds).bind fun ns => if m ∈ ns then some (.int (ns.idxOf m : Nat)) else none
  | .list ds, y => if SeqAt.shaped (.list ds) = true ∧ SeqAt.shaped y = true then match ds.findIdx? fun z => PyData.eqv z y with
    | some j => some (.int (j : Nat))
    | none => none
    else none
  | _, _ => none
def tIdx (K : PySem.W.Frag) (to : TE) (t : TA) : TE := fun σ H Q => tBMF (rIndexF K) to t σ H Q ∨ tBM K "list" (rIndexD K) to t σ H Q
def xIdx (a b : XE) : XE := xOp idxP a b
theorem se_idx {ta tb : TE} {a b : XE} (ha : SE ta a) (hb : SE tb b) : SE (tIdx K ta (tCons tb tNil)) (xIdx a b) := fun ρ d h S σ H al en Q q => by
  obtain ⟨x, h1, h⟩ := bind_some h
  obtain ⟨y, h2, h⟩ := bind_some h
  cases x with
  | tuple ds =>
    cases y with
    | int m =>
      obtain ⟨ns, h3, h4⟩ := bind_some h
      have e := unI_eq h3
      subst e
      by_cases c : m ∈ ns
      · rw [if_pos c] at h4
        cases h4
        refine .inl (ha ρ _ h1 S σ H al en _ fun v H1 e1 rv => ?_)
        generalize ed : PyData.tuple (ns.map PyData.int) = dd at rv
        cases rv with
        | tup hx pl ra =>
          cases ed
          refine ⟨⟨_, _, _, rfl, hid_le _ _ hx, pl⟩, hb ρ _ h2 S σ H1 (al.ex e1) (en.ex (hid_ex e1)) _ fun w H2 e2 rw' => ?_⟩
          cases rw'
          have e := ra.ints
          subst e
          exact ⟨_, ns, m, rfl, rfl, .inl (.inr ⟨_, hid_le _ _ (hid_ex e2 _ _ hx)⟩), c, q _ H2 (e1.trans e2) (.int _)⟩
        | _ => cases ed
      · rw [if_neg c] at h4; cases h4
    | _ => cases h
  | list ds =>
    have h : (if SeqAt.shaped (.list ds) = true ∧ SeqAt.shaped y = true then match ds.findIdx? fun z => PyData.eqv z y with
      | some j => some (PyData.int (j : Nat))
      | none => none
      else none) = some d := by cases y <;> exact h
    by_cases c : SeqAt.shaped (.list ds) = true ∧ SeqAt.shaped y = true
    · rw [if_pos c] at h
      cases hj : ds.findIdx? fun z => PyData.eqv z y with
      | none => rw [hj] at h; cases h
      | some j =>
        rw [hj] at h
        cases h
        obtain ⟨hlt, hy, hn⟩ := List.findIdx?_eq_some_iff_getElem.mp hj
        refine .inr (ha ρ _ h1 S σ H al en _ fun v H1 e1 rv => ?_)
        cases rv with
        | lst hx ra =>
          refine ⟨.inl ⟨rfl, _, .inl (.inl (hid_le _ _ hx))⟩, hb ρ _ h2 S σ H1 (al.ex e1) (en.ex (hid_ex e1)) _ fun w H2 e2 rw' => ?_⟩
          have hx2 := hid_ex (S := S) e2 _ _ hx
          refine ⟨_, w, y, ds, j, ds[j], rfl, rfl, ((Rp.lst hx2 (ra.ex (hid_ex e2))).ex hid_le).dp (nodict c.1), (rw'.ex hid_le).dp (nodict c.2), c.1, c.2, List.getElem?_eq_getElem hlt, hy, fun m z' hm hz => ?_, q _ H2 (e1.trans e2) (.int _)⟩
          obtain ⟨hm2, ez⟩ := List.getElem?_eq_some_iff.mp hz
          have hz2 := hn m hm
          subst ez
          simpa using hz2
    · rw [if_neg c] at h; cases h
  | _ => cases h
end
end Uv

namespace Uv
open PySem PySem.Spec PyProof.Rows L2
open Evl (Ex)
variable [kk : KK]
inductive Cel | dat (d : PD) | sub (ds : List PD)
def Cel.pd : Cel → PD
  | .dat d => d
  | .sub ds => .list ds
inductive Sl | un | dat (d : PD) | own (cs : List Cel) | dic (kvs : List (Int × PD))
abbrev Env := List Sl
def Sl.vw : Sl → Option PD
  | .un => none
  | .dat d => some d
  | .own cs => some (.list (cs.map Cel.pd))
  | .dic _ => none
def Sl.mk : Sl → Option PD
  | .dat d => some d
  | _ => none
def vw (ρ : Env) : VE := ρ.map Sl.vw
def mk (ρ : Env) : VE := ρ.map Sl.mk
abbrev Trs := Nat → List Addr
def SF (F : Hs) (T : Trs) : Hs := fun x => F x ∨ ∃ i, x ∈ T i
def FL (F : Hs) (L : List Addr) : Hs := fun x => F x ∨ x ∈ L
inductive Cels (G H : Hp) : List V → List Cel → List Addr → Prop
  | nil : Cels G H [] [] []
  | dat {v : V} {d : PD} {vs : List V} {cs : List Cel} {B : List Addr} : Rp G v d → Cels G H vs cs B → Cels G H (v :: vs) (.dat d :: cs) B
  | sub {b : Addr} {ws : List V} {ds : List PD} {vs : List V} {cs : List Cel} {B : List Addr} : H b = some (.lst ws) → RpAll G ws ds → Cels G H vs cs B → Cels G H (.ref b :: vs) (.sub ds :: cs) (b :: B)
def Own (G H : Hp) (v : V) (cs : List Cel) (A : List Addr) : Prop := ∃ a vs B, v = .ref a ∧ H a = some (.lst vs) ∧ Cels G H vs cs B ∧ A = a :: B
inductive Kvs (G : Hp) : List (Key × V) → List (Int × PD) → Prop
  | nil : Kvs G [] []
  | cons {k : Int} {v : V} {d : PD} {ks : List (Key × V)} {l : List (Int × PD)} : Rp G v d → Kvs G ks l → Kvs G ((.inl k, v) :: ks) ((k, d) :: l)
theorem Kvs.ex {G G' : Hp} (e : Ex G G') : ∀ {ks : List (Key × V)} {l : List (Int × PD)}, Kvs G ks l → Kvs G' ks l
  | _, _, .nil => .nil
  | _, _, .cons r c => .cons (r.ex e) (c.ex e)
def Dc (G H : Hp) (v : V) (l : List (Int × PD)) (A : List Addr) : Prop := ∃ a ks, v = .ref a ∧ H a = some (.dK ks) ∧ Kvs G ks l ∧ A = [a]
theorem Dc.mv {G G' H H' : Hp} (e : Ex G G') {v : V} {l : List (Int × PD)} {A : List Addr} (h : ∀ x ∈ A, H' x = H x) (o : Dc G H v l A) : Dc G' H' v l A := by
  obtain ⟨a, ks, rfl, ha, c, rfl⟩ := o
  exact ⟨a, ks, rfl, (h a (List.mem_cons_self ..)).trans ha, c.ex e, rfl⟩
def SlOk (G H : Hp) (o : Option V) (s : Sl) (A : List Addr) : Prop := match s with
  | .un => A = []
  | .dat d => A = [] ∧ ∃ v, o = some v ∧ Rp G v d
  | .own cs => ∃ v, o = some v ∧ Own G H v cs A
  | .dic l => ∃ v, o = some v ∧ Dc G H v l A
structure StOk (pn : Option V) (F : Hs) (T : Trs) (H : Hp) (σ : L2.St) (ρ : Env) : Prop where
  len : σ.length = ρ.length
  al : Al F H
  off : ∀ i x, x ∈ T i → ¬ F x
  dis : ∀ i j x, x ∈ T i → x ∈ T j → i = j
  nd : ∀ i, (T i).Nodup
  out : ∀ i, ρ.length ≤ i → T i = []
  sl : ∀ i s, ρ[i]? = some s → ∃ o, σ[i]? = some o ∧ SlOk (hid (SF F T) H) H o s (T i)
  pin : ∀ v, pn = some v → σ[0]? = some (some v)
structure Stp (F : Hs) (T : Trs) (H : Hp) (T' : Trs) (H' : Hp) : Prop where
  fr : ∀ x, F x → H' x = H x
  vis : Ex (hid (SF F T) H) (hid (SF F T') H')
section
variable {pn : Option V} {F : Hs} {T T' T'' : Trs} {G G' H H' H'' : Hp} {σ : L2.St} {ρ : Env}
theorem Stp.refl : Stp F T H T H := ⟨fun _ _ => rfl, Ex.refl _⟩
theorem Stp.trans (a : Stp F T H T' H') (b : Stp F T' H' T'' H'') : Stp F T H T'' H'' := ⟨fun x h => (b.fr x h).trans (a.fr x h), a.vis.trans b.vis⟩
theorem Stp.ex (al : Al F H) (e : Ex H H') : Stp F T H T H' := ⟨fun x h => by
  cases q : H x with
  | none => exact absurd q (al x h)
  | some o => exact e x o q, hid_ex e⟩
theorem Cels.mv (e : Ex G G') : ∀ {vs : List V} {cs : List Cel} {B : List Addr}, (∀ x ∈ B, H' x = H x) → Cels G H vs cs B → Cels G' H' vs cs B
  | _, _, _, _, .nil => .nil
  | _, _, _, h, .dat r c => .dat (r.ex e) (Cels.mv e h c)
  | _, _, _, h, .sub hb r c => .sub ((h _ (List.mem_cons_self ..)).trans hb) (r.ex e) (Cels.mv e (fun x hx => h x (List.mem_cons_of_mem _ hx)) c)
theorem Own.mv (e : Ex G G') {v : V} {cs : List Cel} {A : List Addr} (h : ∀ x ∈ A, H' x = H x) (o : Own G H v cs A) : Own G' H' v cs A := by
  obtain ⟨a, vs, B, rfl, ha, c, rfl⟩ := o
  exact ⟨a, vs, B, rfl, (h a (List.mem_cons_self ..)).trans ha, c.mv e fun x hx => h x (List.mem_cons_of_mem _ hx), rfl⟩
theorem SlOk.mv (e : Ex G G') {o : Option V} {s : Sl} {A : List Addr} (h : ∀ x ∈ A, H' x = H x) (q : SlOk G H o s A) : SlOk G' H' o s A := by
  cases s with
  | un => exact q
  | dat d => obtain ⟨z, v, e1, r⟩ := q; exact ⟨z, v, e1, r.ex e⟩
  | own cs => obtain ⟨v, e1, r⟩ := q; exact ⟨v, e1, r.mv e h⟩
  | dic l => obtain ⟨v, e1, r⟩ := q; exact ⟨v, e1, r.mv e h⟩
theorem Cels.lst : ∀ {vs : List V} {cs : List Cel} {B : List Addr}, Cels G H vs cs B → ∀ x ∈ B, ∃ ws, H x = some (.lst ws)
  | _, _, _, .nil, x, h => nomatch h
  | _, _, _, .dat _ c, x, h => c.lst x h
  | _, _, _, .sub hb _ c, x, h => by
    rcases List.mem_cons.mp h with z | z
    · subst z; exact ⟨_, hb⟩
    · exact c.lst x z
theorem Own.lst {v : V} {cs : List Cel} {A : List Addr} (o : Own G H v cs A) : ∀ x ∈ A, ∃ ws, H x = some (.lst ws) := fun x h => by
  obtain ⟨a, vs, B, rfl, ha, c, rfl⟩ := o
  rcases List.mem_cons.mp h with z | z
  · subst z; exact ⟨_, ha⟩
  · exact c.lst x z
theorem Cels.length : ∀ {vs : List V} {cs : List Cel} {B : List Addr}, Cels G H vs cs B → vs.length = cs.length
  | _, _, _, .nil => rfl
  | _, _, _, .dat _ c => by rw [List.length_cons, List.length_cons, c.length]
  | _, _, _, .sub _ _ c => by rw [List.length_cons, List.length_cons, c.length]
theorem Cels.rp (e : Ex G G') (hs : ∀ x ∈ B, G' x = H x) : ∀ {vs : List V} {cs : List Cel}, Cels G H vs cs B → RpAll G' vs (cs.map Cel.pd)
  | _, _, .nil => .nil
  | _, _, .dat r c => .cons (r.ex e) (c.rp e hs)
  | _, _, .sub hb r c => .cons (.lst ((hs _ (List.mem_cons_self ..)).trans hb) (r.ex e)) (c.rp e fun x hx => hs x (List.mem_cons_of_mem _ hx))
theorem Own.rp (e : Ex G G') {v : V} {cs : List Cel} {A : List Addr} (hs : ∀ x ∈ A, G' x = H x) (o : Own G H v cs A) : Rp G' v (.list (cs.map Cel.pd)) := by
  obtain ⟨a, vs, B, rfl, ha, c, rfl⟩ := o
  exact .lst ((hs a (List.mem_cons_self ..)).trans ha) (c.rp e fun x hx => hs x (List.mem_cons_of_mem _ hx))
theorem StOk.lst (st : StOk pn F T H σ ρ) {i : Nat} {x : Addr} (h : x ∈ T i) : ∃ ob, H x = some ob ∧ ∀ o u, ob ≠ .frz o u := by
  by_cases c : i < ρ.length
  · obtain ⟨o, _, q⟩ := st.sl i _ (List.getElem?_eq_getElem c)
    cases e : ρ[i] with
    | un => rw [e] at q; rw [show T i = [] from q] at h; cases h
    | dat d => rw [e] at q; rw [q.1] at h; cases h
    | own cs => rw [e] at q; obtain ⟨v, _, q⟩ := q; obtain ⟨ws, g⟩ := q.lst x h; exact ⟨_, g, fun o u z => nomatch z⟩
    | dic l =>
      rw [e] at q
      obtain ⟨v, _, a, ks, _, ha, _, hA⟩ := q
      rw [hA] at h
      have : x = a := by simpa using h
      rw [this]
      exact ⟨_, ha, fun o u z => nomatch z⟩
  · rw [st.out i (by omega)] at h; cases h
theorem StOk.als (st : StOk pn F T H σ ρ) : Al (SF F T) H := fun x h z => h.elim (fun h => st.al x h z) fun ⟨i, h⟩ => by
  obtain ⟨vs, e, _⟩ := st.lst h
  rw [z] at e
  cases e
theorem StOk.mv (st : StOk pn F T H σ ρ) (e : Ex (hid (SF F T) H) (hid (SF F T) H')) (h : ∀ i x, x ∈ T i → H' x = H x) (al : Al F H') : StOk pn F T H' σ ρ :=
  ⟨st.len, al, st.off, st.dis, st.nd, st.out, fun i s hi => let ⟨o, h1, h2⟩ := st.sl i s hi; ⟨o, h1, h2.mv e (h i)⟩, st.pin⟩
theorem StOk.ex (st : StOk pn F T H σ ρ) (e : Ex H H') : StOk pn F T H' σ ρ := st.mv (hid_ex e) (fun i x hx => by
  obtain ⟨vs, q, _⟩ := st.lst hx
  rw [q, e x _ q]) (st.al.ex e)
theorem StOk.vw (st : StOk pn F T H σ ρ) : En (hid F H) σ (vw ρ) := by
  refine ⟨by rw [st.len]; unfold Uv.vw; rw [List.length_map], fun i d hi => ?_⟩
  unfold Uv.vw at hi
  rw [List.getElem?_map] at hi
  cases q : ρ[i]? with
  | none => rw [q] at hi; cases hi
  | some s =>
    rw [q] at hi
    have hi : s.vw = some d := Option.some.inj hi
    obtain ⟨o, h1, h2⟩ := st.sl i s q
    cases s with
    | un => cases hi
    | dat d' =>
      cases hi
      obtain ⟨_, v, rfl, r⟩ := h2
      exact ⟨v, h1, r.ex (hid_sub fun x h => .inl h)⟩
    | own cs =>
      cases hi
      obtain ⟨v, rfl, r⟩ := h2
      exact ⟨v, h1, r.rp (hid_sub fun x h => .inl h) fun x hx => hid_out (st.off i x hx)⟩
    | dic l => cases hi
theorem StOk.mkd (st : StOk pn F T H σ ρ) : En (hid (SF F T) H) σ (Uv.mk ρ) := by
  refine ⟨by rw [st.len]; unfold Uv.mk; rw [List.length_map], fun i d hi => ?_⟩
  unfold Uv.mk at hi
  rw [List.getElem?_map] at hi
  cases q : ρ[i]? with
  | none => rw [q] at hi; cases hi
  | some s =>
    rw [q] at hi
    have hi : s.mk = some d := Option.some.inj hi
    obtain ⟨o, h1, h2⟩ := st.sl i s q
    cases s with
    | dat d' =>
      cases hi
      obtain ⟨_, v, rfl, r⟩ := h2
      exact ⟨v, h1, r⟩
    | _ => cases hi
def setT (T : Trs) (i : Nat) (A : List Addr) : Trs := fun j => if j = i then A else T j
theorem setT_same {i : Nat} {A : List Addr} : setT T i A i = A := if_pos rfl
theorem setT_ne {i j : Nat} {A : List Addr} (h : j ≠ i) : setT T i A j = T j := if_neg h
theorem SF_setT_nil {i : Nat} : ∀ x, SF F (setT T i []) x → SF F T x := fun x h => h.elim .inl fun ⟨j, hj⟩ => .inr (by
  by_cases c : j = i
  · subst c; rw [setT_same] at hj; cases hj
  · rw [setT_ne c] at hj; exact ⟨j, hj⟩)
theorem StOk.drop (st : StOk pn F T H σ ρ) {i : Nat} {o : Option V} {s : Sl} (hi0 : i ≠ 0) (hs : SlOk (hid (SF F (setT T i [])) H) H o s []) : StOk pn F (setT T i []) H (σ.set i o) (ρ.set i s) ∧ Stp F T H (setT T i []) H := by
  have sub : Ex (hid (SF F T) H) (hid (SF F (setT T i [])) H) := hid_sub SF_setT_nil
  have mem : ∀ j x, x ∈ setT T i [] j → x ∈ T j ∧ j ≠ i := fun j x h => by
    by_cases c : j = i
    · subst c; rw [setT_same] at h; cases h
    · rw [setT_ne c] at h; exact ⟨h, c⟩
  refine ⟨⟨by rw [List.length_set, List.length_set]; exact st.len, st.al, fun j x h => st.off j x (mem j x h).1, fun j k x h h' => st.dis j k x (mem j x h).1 (mem k x h').1, fun j => ?_, fun j hj => ?_, fun j q hq => ?_, fun v hv => ?_⟩, ⟨fun _ _ => rfl, sub⟩⟩
  · by_cases c : j = i
    · subst c; rw [setT_same]; exact List.nodup_nil
    · rw [setT_ne c]; exact st.nd j
  · rw [List.length_set] at hj
    by_cases c : j = i
    · subst c; rw [setT_same]
    · rw [setT_ne c]; exact st.out j hj
  · by_cases c : i = j
    · subst c
      have hl : i < ρ.length := by
        have := (List.getElem?_eq_some_iff.mp hq).1
        simpa using this
      rw [List.getElem?_set_self hl] at hq
      cases hq
      rw [setT_same]
      exact ⟨o, List.getElem?_set_self (by rw [st.len]; exact hl), hs⟩
    · rw [List.getElem?_set_ne c] at hq
      obtain ⟨o', h1, h2⟩ := st.sl j q hq
      rw [List.getElem?_set_ne c, setT_ne (fun z => c z.symm)]
      exact ⟨o', h1, h2.mv sub fun _ _ => rfl⟩
  · rw [List.getElem?_set_ne hi0]
    exact st.pin v hv
theorem StOk.set (st : StOk pn F T H σ ρ) {i : Nat} (hi0 : i ≠ 0) {v : V} {d : PD} (r : Rp (hid (SF F T) H) v d) : StOk pn F (setT T i []) H (σ.set i (some v)) (ρ.set i (.dat d)) ∧ Stp F T H (setT T i []) H :=
  st.drop hi0 ⟨rfl, v, rfl, r.ex (hid_sub SF_setT_nil)⟩
theorem StOk.own {A : List Addr} (st : StOk pn (FL F A) T H σ ρ) {i : Nat} (hi0 : i ≠ 0) (hi : i < ρ.length) {v : V} {cs : List Cel} (o : Own (hid (SF (FL F A) T) H) H v cs A) (nd : A.Nodup) (off : ∀ x ∈ A, ¬ F x) :
    StOk pn F (setT T i A) H (σ.set i (some v)) (ρ.set i (.own cs)) ∧ Ex (hid (SF (FL F A) T) H) (hid (SF F (setT T i A)) H) := by
  have sub : Ex (hid (SF (FL F A) T) H) (hid (SF F (setT T i A)) H) := hid_sub fun x h => h.elim (fun h => .inl (.inl h)) fun ⟨j, hj⟩ => by
    by_cases c : j = i
    · subst c; rw [setT_same] at hj; exact .inl (.inr hj)
    · rw [setT_ne c] at hj; exact .inr ⟨j, hj⟩
  have mem : ∀ j x, x ∈ setT T i A j → (j = i ∧ x ∈ A) ∨ (j ≠ i ∧ x ∈ T j) := fun j x h => by
    by_cases c : j = i
    · subst c; rw [setT_same] at h; exact .inl ⟨rfl, h⟩
    · rw [setT_ne c] at h; exact .inr ⟨c, h⟩
  refine ⟨⟨by rw [List.length_set, List.length_set]; exact st.len, fun x h => st.al x (.inl h), fun j x h => ?_, fun j k x h h' => ?_, fun j => ?_, fun j hj => ?_, fun j q hq => ?_, fun v hv => ?_⟩, sub⟩
  · rcases mem j x h with ⟨_, h⟩ | ⟨_, h⟩
    · exact off x h
    · exact fun z => st.off j x h (.inl z)
  · rcases mem j x h with ⟨e, h⟩ | ⟨e, h⟩
    · rcases mem k x h' with ⟨e', h'⟩ | ⟨e', h'⟩
      · rw [e, e']
      · exact absurd (.inr h) (st.off k x h')
    · rcases mem k x h' with ⟨e', h'⟩ | ⟨e', h'⟩
      · exact absurd (.inr h') (st.off j x h)
      · exact st.dis j k x h h'
  · by_cases c : j = i
    · subst c; rw [setT_same]; exact nd
    · rw [setT_ne c]; exact st.nd j
  · rw [List.length_set] at hj
    rw [setT_ne (by omega)]
    exact st.out j hj
  · by_cases c : i = j
    · subst c
      rw [List.getElem?_set_self hi] at hq
      cases hq
      rw [setT_same]
      exact ⟨some v, List.getElem?_set_self (by rw [st.len]; exact hi), v, rfl, o.mv sub fun _ _ => rfl⟩
    · rw [List.getElem?_set_ne c] at hq
      obtain ⟨o', h1, h2⟩ := st.sl j q hq
      rw [List.getElem?_set_ne c, setT_ne (fun z => c z.symm)]
      exact ⟨o', h1, h2.mv sub fun _ _ => rfl⟩
  · rw [List.getElem?_set_ne hi0]
    exact st.pin v hv
theorem StOk.thaw {A : List Addr} (st : StOk pn (FL F A) T H σ ρ) : StOk pn F T H σ ρ ∧ Ex (hid (SF (FL F A) T) H) (hid (SF F T) H) := by
  have sub : Ex (hid (SF (FL F A) T) H) (hid (SF F T) H) := hid_sub fun x h => h.elim (fun h => .inl (.inl h)) .inr
  exact ⟨⟨st.len, fun x h => st.al x (.inl h), fun i x h z => st.off i x h (.inl z), st.dis, st.nd, st.out, fun i s hi => let ⟨o, h1, h2⟩ := st.sl i s hi; ⟨o, h1, h2.mv sub fun _ _ => rfl⟩, st.pin⟩, sub⟩
theorem StOk.write (st : StOk pn F T H σ ρ) {i : Nat} {cs cs' : List Cel} {a : Addr} {vs' : List V} {B : List Addr} (hi : ρ[i]? = some (.own cs)) (hT : T i = a :: B) (hσ : σ[i]? = some (some (.ref a))) (hc : Cels (hid (SF F T) H) H vs' cs' B) :
    StOk pn F T (upd H a (.lst vs')) σ (ρ.set i (.own cs')) ∧ Stp F T H T (upd H a (.lst vs')) := by
  have ha : a ∈ T i := by rw [hT]; exact List.mem_cons_self ..
  have hab : a ∉ B := by have := st.nd i; rw [hT] at this; exact (List.nodup_cons.mp this).1
  have hS : SF F T a := .inr ⟨i, ha⟩
  have vis : Ex (hid (SF F T) H) (hid (SF F T) (upd H a (.lst vs'))) := fun x o h => by
    obtain ⟨c, h⟩ := hid_some h
    rw [hid_out c, upd_ne (fun z => c (by rw [z]; exact hS))]
    exact h
  have ne : ∀ x, x ≠ a → upd H a (.lst vs') x = H x := fun x h => upd_ne h
  refine ⟨⟨by rw [List.length_set]; exact st.len, fun x h => ?_, st.off, st.dis, st.nd, fun j hj => st.out j (by rw [List.length_set] at hj; exact hj), fun j q hq => ?_, st.pin⟩, ⟨fun x h => ne x fun z => st.off i a ha (by rw [← z]; exact h), vis⟩⟩
  · rw [ne x fun z => st.off i a ha (by rw [← z]; exact h)]
    exact st.al x h
  · by_cases c : i = j
    · subst c
      have hl : i < ρ.length := by
        have := (List.getElem?_eq_some_iff.mp hq).1
        simpa using this
      rw [List.getElem?_set_self hl] at hq
      cases hq
      exact ⟨_, hσ, .ref a, rfl, a, vs', B, rfl, upd_same, hc.mv vis fun x hx => ne x fun z => hab (by rw [← z]; exact hx), hT⟩
    · rw [List.getElem?_set_ne c] at hq
      obtain ⟨o', h1, h2⟩ := st.sl j q hq
      exact ⟨o', h1, h2.mv vis fun x hx => ne x fun z => c (st.dis i j a ha (by rw [← z]; exact hx))⟩
theorem StOk.at_own (st : StOk pn F T H σ ρ) {i : Nat} {cs : List Cel} (hi : ρ[i]? = some (.own cs)) : ∃ a vs B, σ[i]? = some (some (.ref a)) ∧ H a = some (.lst vs) ∧ Cels (hid (SF F T) H) H vs cs B ∧ T i = a :: B := by
  obtain ⟨o, h1, v, rfl, a, vs, B, rfl, h2, h3, h4⟩ := st.sl i _ hi
  exact ⟨a, vs, B, h1, h2, h3, h4⟩
end
mutual
def flat : PD → Bool
  | .none => true
  | .bool _ => true
  | .int _ => true
  | .str _ => true
  | .tuple ds => flats ds
  | .list _ => false
  | .dict _ => false
def flats : List PD → Bool
  | [] => true
  | d :: ds => flat d && flats ds
end
mutual
theorem Rp.flat {G G' : Hp} (e : ∀ x o u, G x = some (.frz o u) → G' x = some (.frz o u)) : ∀ {v : V} {d : PD}, Rp G v d → flat d = true → Rp G' v d
  | _, _, .non, _ => .non
  | _, _, .bl b, _ => .bl b
  | _, _, .int i, _ => .int i
  | _, _, .str x, _ => .str x
  | _, _, .lst h r, f => by simp [Uv.flat] at f
  | _, _, .tup h p r, f => .tup (e _ _ _ h) p (RpAll.flat e r (by simpa [Uv.flat] using f))
  | _, _, .dct _ _ _ _, f => by simp [Uv.flat] at f
  | _, _, .dci _ _ _, f => by simp [Uv.flat] at f
  | _, _, .scr h r, f => by simp [Uv.flat] at f
theorem RpAll.flat {G G' : Hp} (e : ∀ x o u, G x = some (.frz o u) → G' x = some (.frz o u)) : ∀ {vs : List V} {ds : List PD}, RpAll G vs ds → flats ds = true → RpAll G' vs ds
  | _, _, .nil, _ => .nil
  | _, _, .cons h r, f => by
    simp only [flats, Bool.and_eq_true] at f
    exact .cons (Rp.flat e h f.1) (RpAll.flat e r f.2)
end
theorem StOk.frz {pn : Option V} {F : Hs} {T : Trs} {H H' : Hp} {σ : L2.St} {ρ : Env} (st : StOk pn F T H σ ρ) (e : Ex H H') : ∀ x o u, hid F H' x = some (.frz o u) → hid (SF F T) H' x = some (.frz o u) := fun x o u h => by
  obtain ⟨c, h⟩ := hid_some h
  rw [hid_out]
  · exact h
  · rintro (z | ⟨i, z⟩)
    · exact c z
    · obtain ⟨vs, q, n⟩ := st.lst z
      rw [e x _ q] at h
      exact n _ _ (Option.some.inj h)
end Uv

namespace Uv
open PySem PySem.Spec PyProof.Rows L2
open Evl (Ex)
variable [kk : KK]
abbrev XW := Env → Option (PD × Env)
abbrev XWT := Env → Option (Bool × Env)
abbrev XWA := Env → Option (List PD × Env)
abbrev XWO := Env → Option (List Cel × Env)
def SW (te : TE) (w : XW) : Prop := ∀ pn F T H σ ρ d ρ', StOk pn F T H σ ρ → w ρ = some (d, ρ') → ∀ Q : VK, (∀ v T' H', StOk pn F T' H' σ ρ' → Stp F T H T' H' → Rp (hid (SF F T') H') v d → Q v H') → te σ H Q
def SWT (tt : TT) (w : XWT) : Prop := ∀ pn F T H σ ρ b ρ', StOk pn F T H σ ρ → w ρ = some (b, ρ') → ∀ Q : Bool → Hp → Prop, (∀ T' H', StOk pn F T' H' σ ρ' → Stp F T H T' H' → Q b H') → tt σ H Q
def SWA (ta : TA) (w : XWA) : Prop := ∀ pn F T H σ ρ ds ρ', StOk pn F T H σ ρ → w ρ = some (ds, ρ') → ∀ Q : List V → Hp → Prop, (∀ vs T' H', StOk pn F T' H' σ ρ' → Stp F T H T' H' → RpAll (hid (SF F T') H') vs ds → Q vs H') → ta σ H Q
def SWO (te : TE) (w : XWO) : Prop := ∀ pn F T H σ ρ cs ρ', StOk pn F T H σ ρ → w ρ = some (cs, ρ') → ∀ Q : VK, (∀ v A T' H', StOk pn (FL F A) T' H' σ ρ' → A.Nodup → (∀ x ∈ A, ¬ F x) → (∀ x, F x → H' x = H x) → Ex (hid (SF F T) H) (hid (SF (FL F A) T') H') → Own (hid (SF (FL F A) T') H') H' v cs A → Q v H') → te σ H Q
def wM (x : XE) : XW := fun ρ => (x (mk ρ)).bind fun d => some (d, ρ)
def wV (x : XE) : XW := fun ρ => (x (vw ρ)).bind fun d => if flat d = true then some (d, ρ) else none
def wMT (x : XT) : XWT := fun ρ => (x (mk ρ)).bind fun d => some (d, ρ)
def wVT (x : XT) : XWT := fun ρ => (x (vw ρ)).bind fun d => some (d, ρ)
def wNil : XWA := fun ρ => some ([], ρ)
def wCons (a : XW) (as : XWA) : XWA := fun ρ => (a ρ).bind fun x => (as x.2).bind fun xs => some (x.1 :: xs.1, xs.2)
def wOp (f : PD → PD → Option PD) (a b : XW) : XW := fun ρ => (a ρ).bind fun x => (b x.2).bind fun y => (f x.1 y.1).bind fun z => some (z, y.2)
def wUn (f : PD → Option PD) (a : XW) : XW := fun ρ => (a ρ).bind fun x => (f x.1).bind fun z => some (z, x.2)
def wTup (as : XWA) : XW := fun ρ => (as ρ).bind fun x => if x.1.length ≤ 100000 then some (.tuple x.1, x.2) else none
def wLst (as : XWA) : XW := fun ρ => (as ρ).bind fun x => if x.1.length ≤ 100000 then some (.list x.1, x.2) else none
def wCB (f : List PD → Option PD) (as : XWA) : XW := fun ρ => (as ρ).bind fun x => (f x.1).bind fun z => some (z, x.2)
def wB (a : XW) : XWT := fun ρ => (a ρ).bind fun x => (isB x.1).bind fun b => some (b, x.2)
def wIf (c : XWT) (a b : XW) : XW := fun ρ => (c ρ).bind fun k => if k.1 = true then a k.2 else b k.2
def wTAnd (a b : XWT) : XWT := fun ρ => (a ρ).bind fun c => if c.1 = true then b c.2 else some (false, c.2)
def wTOr (a b : XWT) : XWT := fun ρ => (a ρ).bind fun c => if c.1 = true then some (true, c.2) else b c.2
def wTNot (a : XWT) : XWT := fun ρ => (a ρ).bind fun c => some (!c.1, c.2)
def wAnd (a b : XW) : XW := fun ρ => (wB a ρ).bind fun c => if c.1 = true then b c.2 else some (.bool false, c.2)
def wOr (a b : XW) : XW := fun ρ => (wB a ρ).bind fun c => if c.1 = true then some (.bool true, c.2) else b c.2
def wNot (a : XW) : XW := fun ρ => (wB a ρ).bind fun c => some (.bool (!c.1), c.2)
section
variable {ta tb te : TE} {t u : TT} {ts : TA} {a b w : XW} {p q : XWT} {as : XWA} {r : R2} {f : PD → PD → Option PD} {x : XE}
theorem sw_M (h : SE te x) : SW te (wM x) := fun pn F T H σ ρ d ρ' st e Q q => by
  obtain ⟨z, h1, h2⟩ := bind_some e
  cases h2
  exact h _ _ h1 (SF F T) σ H st.als st.mkd Q fun v H2 e2 rv => q v T H2 (st.ex e2) (Stp.ex st.al e2) rv
theorem sw_V (h : SE te x) : SW te (wV x) := fun pn F T H σ ρ d ρ' st e Q q => by
  obtain ⟨z, h1, h2⟩ := bind_some e
  by_cases c : flat z = true
  · rw [if_pos c] at h2
    cases h2
    exact h _ _ h1 F σ H st.al st.vw Q fun v H2 e2 rv => q v T H2 (st.ex e2) (Stp.ex st.al e2) (rv.flat (st.frz e2) c)
  · rw [if_neg c] at h2; cases h2
theorem swt_M {x : XT} (h : ST t x) : SWT t (wMT x) := fun pn F T H σ ρ d ρ' st e Q q => by
  obtain ⟨z, h1, h2⟩ := bind_some e
  cases h2
  exact h _ _ h1 (SF F T) σ H st.als st.mkd Q fun H2 e2 => q T H2 (st.ex e2) (Stp.ex st.al e2)
theorem swt_V {x : XT} (h : ST t x) : SWT t (wVT x) := fun pn F T H σ ρ d ρ' st e Q q => by
  obtain ⟨z, h1, h2⟩ := bind_some e
  cases h2
  exact h _ _ h1 F σ H st.al st.vw Q fun H2 e2 => q T H2 (st.ex e2) (Stp.ex st.al e2)
theorem swa_nil : SWA tNil wNil := fun pn F T H σ ρ d ρ' st e Q q => by cases e; exact q [] T H st Stp.refl .nil
theorem swa_cons (ha : SW ta a) (hs : SWA ts as) : SWA (tCons ta ts) (wCons a as) := fun pn F T H σ ρ d ρ' st e Q q => by
  obtain ⟨⟨x, ρ1⟩, h1, e⟩ := bind_some e
  obtain ⟨⟨xs, ρ2⟩, h2, e⟩ := bind_some e
  cases e
  exact ha pn F T H σ ρ x ρ1 st h1 _ fun v T1 H1 st1 s1 rv => hs pn F T1 H1 σ ρ1 xs ρ2 st1 h2 _ fun vs T2 H2 st2 s2 rs => q (v :: vs) T2 H2 st2 (s1.trans s2) (.cons (rv.ex s2.vis) rs)
theorem sw_op (hr : SO r f) (ha : SW ta a) (hb : SW tb b) : SW (tOp r ta tb) (wOp f a b) := fun pn F T H σ ρ d ρ' st e Q q => by
  obtain ⟨⟨x, ρ1⟩, h1, e⟩ := bind_some e
  obtain ⟨⟨y, ρ2⟩, h2, e⟩ := bind_some e
  obtain ⟨z, h3, e⟩ := bind_some e
  cases e
  exact ha pn F T H σ ρ x ρ1 st h1 _ fun v T1 H1 st1 s1 rv => hb pn F T1 H1 σ ρ1 y ρ2 st1 h2 _ fun w T2 H2 st2 s2 rw' =>
    hr x y d h3 (SF F T2) H2 v w st2.als (rv.ex s2.vis) rw' Q fun z H3 e3 rz => q z T2 H3 (st2.ex e3) ((s1.trans s2).trans (Stp.ex st2.al e3)) rz
theorem sw_tup (hs : SWA ts as) : SW (tTupF ts) (wTup as) := fun pn F T H σ ρ d ρ' st e Q q => by
  obtain ⟨⟨xs, ρ1⟩, h1, e⟩ := bind_some e
  by_cases hl : xs.length ≤ 100000
  · rw [if_pos hl] at e
    cases e
    exact hs pn F T H σ ρ xs _ st h1 _ fun vs T1 H1 st1 s1 rv => ⟨by rw [rv.length]; exact Evl.sz_of hl, fun p o hp pl => q _ T1 _ (st1.ex (Ex.new hp)) (s1.trans (Stp.ex st1.al (Ex.new hp))) (.tup (new_ok st1.als hp) pl (rv.ex (hid_ex (Ex.new hp))))⟩
  · rw [if_neg hl] at e; cases e
theorem sw_lst (hs : SWA ts as) : SW (tLst ts) (wLst as) := fun pn F T H σ ρ d ρ' st e Q q => by
  obtain ⟨⟨xs, ρ1⟩, h1, e⟩ := bind_some e
  by_cases hl : xs.length ≤ 100000
  · rw [if_pos hl] at e
    cases e
    exact hs pn F T H σ ρ xs _ st h1 _ fun vs T1 H1 st1 s1 rv => ⟨by rw [rv.length]; exact Evl.sz_of hl, fun p hp => q _ T1 _ (st1.ex (Ex.new hp)) (s1.trans (Stp.ex st1.al (Ex.new hp))) (.lst (new_ok st1.als hp) (rv.ex (hid_ex (Ex.new hp))))⟩
  · rw [if_neg hl] at e; cases e
theorem sw_cb {r : List V → Hp → VK → Prop} {f : List PD → Option PD} (hr : SC r f) (hs : SWA ts as) : SW (tCB r ts) (wCB f as) := fun pn F T H σ ρ d ρ' st e Q q => by
  obtain ⟨⟨xs, ρ1⟩, h1, e⟩ := bind_some e
  obtain ⟨z, h3, e⟩ := bind_some e
  cases e
  exact hs pn F T H σ ρ xs _ st h1 _ fun vs T1 H1 st1 s1 rv => hr xs d h3 (SF F T1) H1 vs st1.als rv Q fun z H3 e3 rz => q z T1 H3 (st1.ex e3) (s1.trans (Stp.ex st1.al e3)) rz
theorem wB_some {ρ ρ' : Env} {c : Bool} (h : wB a ρ = some (c, ρ')) : a ρ = some (.bool c, ρ') := by
  obtain ⟨⟨x, ρ1⟩, h1, e⟩ := bind_some h
  obtain ⟨b, h2, e⟩ := bind_some e
  have z := isB_eq h2
  cases e
  subst z
  exact h1
theorem swt_B (ha : SW ta a) : SWT (tB ta) (wB a) := fun pn F T H σ ρ c ρ' st e Q q =>
  ha pn F T H σ ρ _ ρ' st (wB_some e) _ fun v T1 H1 st1 s1 rv => by cases rv; exact ⟨c, rfl, q T1 H1 st1 s1⟩
theorem swt_not (ht : SWT t p) : SWT (tNot t) (wTNot p) := fun pn F T H σ ρ c ρ' st e Q q => by
  obtain ⟨⟨c, ρ1⟩, h1, e⟩ := bind_some e
  cases e
  exact ht pn F T H σ ρ c _ st h1 _ fun T1 H1 st1 s1 => q T1 H1 st1 s1
end
def spF (f : List PD → Option PD) : Sp := fun vs H Q _ => ∃ S ds d, Al S H ∧ RpAll (hid S H) vs ds ∧ f ds = some d ∧ ∀ v H2, Ex H H2 → Rp (hid S H2) v d → Q v H2
theorem se_call {f : List PD → Option PD} {ts : TA} {as : XA} (hs : SA ts as) : SE (tCall (spF f) [] E0 ts) (xCB f as) := fun ρ d h S σ H al en Q q => by
  obtain ⟨ds, h1, h⟩ := bind_some h
  exact hs ρ ds h1 S σ H al en _ fun vs H1 e1 rv => ⟨S, ds, d, al.ex e1, by rw [List.append_nil]; exact rv, h, fun v H2 e2 r2 => q v H2 (e1.trans e2) r2⟩
theorem sw_call {f : List PD → Option PD} {ts : TA} {as : XWA} (hs : SWA ts as) : SW (tCall (spF f) [] E0 ts) (wCB f as) := fun pn F T H σ ρ d ρ' st e Q q => by
  obtain ⟨⟨xs, ρ1⟩, h1, e⟩ := bind_some e
  obtain ⟨z, h3, e⟩ := bind_some e
  cases e
  exact hs pn F T H σ ρ xs _ st h1 _ fun vs T1 H1 st1 s1 rv => ⟨SF F T1, xs, d, st1.als, by rw [List.append_nil]; exact rv, h3, fun v H2 e2 r2 => q v T1 H2 (st1.ex e2) (s1.trans (Stp.ex st1.al e2)) r2⟩
def spW (g : List Cel → List PD → Option (PD × List Cel)) : Sp := fun vs H Q _ => ∃ (F : Hs) (a : Addr) (B : List Addr) (cs : List Cel) (ws : List V) (ds : List PD) (d : PD) (cs' : List Cel), vs = .ref a :: ws ∧ Al F H ∧ (∀ x ∈ a :: B, ¬ F x) ∧ (a :: B).Nodup ∧
  Own (hid (FL F (a :: B)) H) H (.ref a) cs (a :: B) ∧ RpAll (hid (FL F (a :: B)) H) ws ds ∧ g cs ds = some (d, cs') ∧
  ∀ v B' H', (∀ x, F x → H' x = H x) → Ex (hid (FL F (a :: B)) H) (hid (FL F (a :: B')) H') → (∀ x ∈ a :: B', ¬ F x) → (a :: B').Nodup → Own (hid (FL F (a :: B')) H') H' (.ref a) cs' (a :: B') → Rp (hid (FL F (a :: B')) H') v d → Q v H'
def ownAt (ρ : Env) (i : Nat) : Option (List Cel) := match ρ[i]? with
  | some (.own cs) => some cs
  | _ => none
theorem ownAt_eq {ρ : Env} {i : Nat} {cs : List Cel} (h : ownAt ρ i = some cs) : ρ[i]? = some (.own cs) := by
  unfold ownAt at h
  split at h
  · rename_i e
    cases h
    exact e
  · cases h
def wCallK (i : Nat) (g : List Cel → List PD → Option (PD × List Cel)) (as : XWA) : XW := fun ρ => (ownAt ρ i).bind fun _ => (as ρ).bind fun x => (ownAt x.2 i).bind fun cs => (g cs x.1).bind fun y => some (y.1, x.2.set i (.own y.2))
theorem sw_callK {i : Nat} {g : List Cel → List PD → Option (PD × List Cel)} {ts : TA} {as : XWA} (hs : SWA ts as) : SW (tCall (spW g) [] E0 (tCons (tVar i) ts)) (wCallK i g as) := fun pn F T H σ ρ d ρ' st e Q q => by
  obtain ⟨cs0, h0, e⟩ := bind_some e
  obtain ⟨⟨xs, ρ1⟩, h1, e⟩ := bind_some e
  obtain ⟨cs, hi, e⟩ := bind_some e
  obtain ⟨⟨z, cs'⟩, h3, e⟩ := bind_some e
  have hi : ρ1[i]? = some (.own cs) := ownAt_eq hi
  have e : some (z, ρ1.set i (.own cs')) = some (d, ρ') := e
  obtain ⟨rfl, rfl⟩ := Prod.mk.inj (Option.some.inj e)
  -- the slot holds the same address all along
  have key : ∀ (vs : List V) (T1 : Trs) (H1 : Hp), StOk pn F T1 H1 σ ρ1 → Stp F T H T1 H1 → RpAll (hid (SF F T1) H1) vs xs → ∀ a : Addr, σ[i]? = some (some (.ref a)) → spW g (.ref a :: vs) H1 Q E0 := by
    intro vs T1 H1 st1 s1 rv a ha
    obtain ⟨a', us, B, ha', hl, hc, hT⟩ := st1.at_own hi
    have ea : a' = a := by rw [ha'] at ha; cases ha; rfl
    subst ea
    obtain ⟨F1, hF1⟩ : ∃ F1 : Hs, F1 = fun x => F x ∨ ∃ j, j ≠ i ∧ x ∈ T1 j := ⟨_, rfl⟩
    have eqv : ∀ x, FL F1 (a' :: B) x ↔ SF F T1 x := fun x => by
      rw [hF1]
      constructor
      · rintro ((h | ⟨j, _, h⟩) | h)
        · exact .inl h
        · exact .inr ⟨j, h⟩
        · exact .inr ⟨i, by rw [hT]; exact h⟩
      · rintro (h | ⟨j, h⟩)
        · exact .inl (.inl h)
        · by_cases c : j = i
          · subst c; rw [hT] at h; exact .inr h
          · exact .inl (.inr ⟨j, c, h⟩)
    have eh : hid (FL F1 (a' :: B)) H1 = hid (SF F T1) H1 := hid_eq eqv
    refine ⟨F1, a', B, cs, vs, xs, z, cs', rfl, ?_, ?_, by rw [← hT]; exact st1.nd i, ⟨a', us, B, rfl, hl, by rw [eh]; exact hc, rfl⟩, by rw [eh]; exact rv, h3, fun v B' H' fr vis off nd ow rv' => ?_⟩
    · intro x hx
      rw [hF1] at hx
      exact st1.als x (hx.elim .inl fun ⟨j, _, h⟩ => .inr ⟨j, h⟩)
    · intro x hx hx2
      rw [hF1] at hx2
      have hx3 : x ∈ T1 i := by rw [hT]; exact hx
      rcases hx2 with h | ⟨j, c, h⟩
      · exact st1.off i x hx3 h
      · exact c (st1.dis j i x h hx3)
    · have eqv' : ∀ x, FL F1 (a' :: B') x ↔ SF F (setT T1 i (a' :: B')) x := fun x => by
        rw [hF1]
        constructor
        · rintro ((h | ⟨j, c, h⟩) | h)
          · exact .inl h
          · exact .inr ⟨j, by rw [setT_ne c]; exact h⟩
          · exact .inr ⟨i, by rw [setT_same]; exact h⟩
        · rintro (h | ⟨j, h⟩)
          · exact .inl (.inl h)
          · by_cases c : j = i
            · subst c; rw [setT_same] at h; exact .inr h
            · rw [setT_ne c] at h; exact .inl (.inr ⟨j, c, h⟩)
      have eh' : hid (FL F1 (a' :: B')) H' = hid (SF F (setT T1 i (a' :: B'))) H' := hid_eq eqv'
      rw [eh, eh'] at vis
      rw [eh'] at ow rv'
      have il : i < ρ1.length := (List.getElem?_eq_some_iff.mp hi).1
      refine q v (setT T1 i (a' :: B')) H' ⟨by rw [List.length_set]; exact st1.len, fun x hx => ?_, fun j x h => ?_, fun j k x h h' => ?_, fun j => ?_, fun j hj => ?_, fun j s hs => ?_, st1.pin⟩ (s1.trans ⟨fun x hx => fr x (by rw [hF1]; exact .inl hx), vis⟩) rv'
      · rw [fr x (by rw [hF1]; exact .inl hx)]
        exact st1.al x hx
      · by_cases c : j = i
        · subst c
          rw [setT_same] at h
          exact fun z => off x h (by rw [hF1]; exact .inl z)
        · rw [setT_ne c] at h
          exact st1.off j x h
      · by_cases c : j = i
        · subst c
          rw [setT_same] at h
          by_cases c2 : k = j
          · exact c2.symm
          · rw [setT_ne c2] at h'
            exact absurd (show F1 x by rw [hF1]; exact .inr ⟨k, c2, h'⟩) (off x h)
        · rw [setT_ne c] at h
          by_cases c2 : k = i
          · subst c2
            rw [setT_same] at h'
            exact absurd (show F1 x by rw [hF1]; exact .inr ⟨j, c, h⟩) (off x h')
          · rw [setT_ne c2] at h'
            exact st1.dis j k x h h'
      · by_cases c : j = i
        · subst c; rw [setT_same]; exact nd
        · rw [setT_ne c]; exact st1.nd j
      · rw [List.length_set] at hj
        rw [setT_ne (by omega)]
        exact st1.out j hj
      · by_cases c : i = j
        · subst c
          rw [List.getElem?_set_self il] at hs
          cases hs
          rw [setT_same]
          exact ⟨_, ha', _, rfl, ow⟩
        · rw [List.getElem?_set_ne c] at hs
          obtain ⟨o, h1, h2⟩ := st1.sl j s hs
          rw [setT_ne (fun z => c z.symm)]
          exact ⟨o, h1, h2.mv vis fun x hx => fr x (by rw [hF1]; exact .inr ⟨j, fun z => c z.symm, hx⟩)⟩
  obtain ⟨a, _, _, ha, _⟩ := st.at_own (ownAt_eq h0)
  refine ⟨.ref a, ha, hs pn F T H σ ρ xs ρ1 st h1 _ fun vs T1 H1 st1 s1 rv => ?_⟩
  show spW g (V.ref a :: vs ++ []) H1 Q E0
  rw [List.append_nil]
  exact key vs T1 H1 st1 s1 rv a ha
end Uv

namespace Uv
open PySem PySem.Spec PyProof.Rows L2
open Evl (Ex)
variable [kk : KK]
def Loose (H : Hp) (v : V) (x : PD) : Prop := ∃ a xs ds, v = .ref a ∧ H a = some (.tup xs) ∧ RpAll H xs ds ∧ x = .tuple ds
def Rk (b : Bool) (H : Hp) (v : V) (x : PD) : Prop := Rp H v x ∨ (b = true ∧ Loose H v x)
def Wk (b : Bool) (S : Hs) (J : It) (xs : List PD) (H : Hp) : Prop := ∀ S' H2, Ex (hid S H) (hid S' H2) → Al S' H2 → J.stop xs.length H2 ∧ ∀ i x, xs[i]? = some x → J.go i H2 ∧ ∀ v H3, J.yld i H2 v H3 → Ex H2 H3 ∧ Rk b (hid S' H3) v x
def pairsD (xs : List PD) : List PD := xs.zipIdx.map fun p => .tuple [.int (p.2 : Nat), p.1]
def zipD (xs ys : List PD) : List PD := List.zipWith (fun x y => .tuple [x, y]) xs ys
section
variable {S : Hs} {H : Hp}
theorem wk_tup {a : Addr} {o : Obj} {vs : List V} {xs : List PD} (ha : hid S H a = some (fz o vs)) (ra : RpAll (hid S H) vs xs) : Wk false S (Itt K a) xs H := fun S' H2 e2 al2 => by
  have sq : SqT K H2 a vs := .inl (.inr ⟨_, hid_le _ _ (e2 _ _ ha)⟩)
  have ra2 := ra.ex e2
  refine ⟨⟨_, sq, Nat.le_of_eq ra2.length⟩, fun i x hx => ?_⟩
  obtain ⟨v, hv, rv⟩ := ra2.get hx
  refine ⟨⟨_, v, sq, hv⟩, fun w H3 y => ?_⟩
  obtain ⟨y1, y2⟩ := y
  have e := y2 _ sq
  rw [hv] at e
  cases e
  subst y1
  exact ⟨Ex.refl _, .inl rv⟩
theorem wk_lst {a : Addr} {vs : List V} {xs : List PD} (ha : hid S H a = some (.lst vs)) (ra : RpAll (hid S H) vs xs) : Wk false S (Itl K a) xs H := fun S' H2 e2 al2 => by
  have sq : SqL K H2 a vs := .inl (.inl (hid_le _ _ (e2 _ _ ha)))
  have ra2 := ra.ex e2
  refine ⟨⟨_, sq, Nat.le_of_eq ra2.length⟩, fun i x hx => ?_⟩
  obtain ⟨v, hv, rv⟩ := ra2.get hx
  refine ⟨⟨_, v, sq, hv⟩, fun w H3 y => ?_⟩
  obtain ⟨y1, y2⟩ := y
  have e := y2 _ sq
  rw [hv] at e
  cases e
  subst y1
  exact ⟨Ex.refl _, .inl rv⟩
theorem wk_scr {a : Addr} {vs : List V} {xs : List PD} (ha : SqL K (hid S H) a vs) (ra : RpAll (hid S H) vs xs) : Wk false S (Itl K a) xs H := fun S' H2 e2 al2 => by
  have sq : SqL K H2 a vs := sqx hid_le (sqx e2 ha)
  have ra2 := ra.ex e2
  refine ⟨⟨_, sq, Nat.le_of_eq ra2.length⟩, fun i x hx => ?_⟩
  obtain ⟨v, hv, rv⟩ := ra2.get hx
  refine ⟨⟨_, v, sq, hv⟩, fun w H3 y => ?_⟩
  obtain ⟨y1, y2⟩ := y
  have e := y2 _ sq
  rw [hv] at e
  cases e
  subst y1
  exact ⟨Ex.refl _, .inl rv⟩
theorem wk_rng {lo : Int} {n : Nat} : Wk false S (Itr lo n) ((List.range n).map fun k => .int (lo + (k : Nat))) H := fun S' H2 e2 al2 => by
  refine ⟨by show n ≤ _; simp, fun i x hx => ?_⟩
  rw [List.getElem?_map] at hx
  cases qq : (List.range n)[i]? with
  | none => rw [qq] at hx; cases hx
  | some k =>
    rw [qq] at hx
    obtain ⟨hi, ek⟩ := List.getElem?_eq_some_iff.mp qq
    have ek2 : i = k := by simpa using ek
    subst ek2
    cases hx
    refine ⟨by show i < n; simpa using hi, fun v H3 y => ?_⟩
    obtain ⟨y1, y2⟩ := y
    subst y1 y2
    exact ⟨Ex.refl _, .inl (.int _)⟩
end
def iSeq (K : PySem.W.Frag) (te : TE) : TI := fun σ H R => iList K te σ H R ∨ iTup K te σ H R
def seqP : PD → Option (List PD)
  | .list ds => some ds
  | .tuple ds => some ds
  | .dict [(.none, .list ds)] => some ds
  | _ => none
def rngP : List PD → Option (List PD)
  | [.int n] => if -(2 ^ 62) ≤ n ∧ n < 2 ^ 62 then some ((List.range n.toNat).map fun k => .int (0 + (k : Nat))) else none
  | _ => none
def enumP : List PD → Option (List PD)
  | [.list ds] => some (pairsD ds)
  | [.tuple ds] => some (pairsD ds)
  | _ => none
def zipP : List PD → Option (List PD)
  | [.list xs, .list ys] => some (zipD xs ys)
  | [.tuple xs, .tuple ys] => some (zipD xs ys)
  | _ => none
abbrev XI := VE → Option (List PD)
def Es (b : Bool) (wi : TI) (ρ : VE) (xs : List PD) : Prop := ∀ S σ H, Al S H → En (hid S H) σ ρ → ∀ R : It → Hp → Prop, (∀ J H1, Ex H H1 → Wk b S J xs H1 → R J H1) → wi σ H R
def SI (b : Bool) (wi : TI) (x : XI) : Prop := ∀ ρ xs, x ρ = some xs → Es b wi ρ xs
abbrev XWI := Env → Option (List PD × Env)
def SWI (b : Bool) (wi : TI) (w : XWI) : Prop := ∀ pn F T H σ ρ xs ρ', StOk pn F T H σ ρ → w ρ = some (xs, ρ') → ∀ R : It → Hp → Prop, (∀ J T' H', StOk pn F T' H' σ ρ' → Stp F T H T' H' → Wk b (SF F T') J xs H' → R J H') → wi σ H R
def xiE (a : XE) : XI := fun ρ => (a ρ).bind seqP
def xiA (f : List PD → Option (List PD)) (as : XA) : XI := fun ρ => (as ρ).bind f
def wiE (a : XW) : XWI := fun ρ => (a ρ).bind fun x => (seqP x.1).bind fun xs => some (xs, x.2)
def wiA (f : List PD → Option (List PD)) (as : XWA) : XWI := fun ρ => (as ρ).bind fun x => (f x.1).bind fun xs => some (xs, x.2)
section
variable {te : TE} {ts : TA}
theorem core_rng {S : Hs} {vs : List V} {H1 : Hp} {ds xs : List PD} (h : rngP ds = some xs) (rv : RpAll (hid S H1) vs ds) : ∃ j : Int, vs = [.int j] ∧ -(2 ^ 62) ≤ j ∧ j < 2 ^ 62 ∧ Wk false S (Itr 0 j.toNat) xs H1 := by
  unfold rngP at h
  split at h
  · rename_i n
    by_cases c : -(2 ^ 62) ≤ n ∧ n < 2 ^ 62
    · rw [if_pos c] at h
      cases h
      cases rv with
      | cons h1 t =>
        cases t
        cases h1
        exact ⟨n, rfl, c.1, c.2, wk_rng⟩
    · rw [if_neg c] at h; cases h
  · cases h
theorem si_seq {a : XE} (ha : SE te a) : SI false (iSeq K te) (xiE a) := fun ρ xs h S σ H al en R q => by
  obtain ⟨d, h1, h⟩ := bind_some h
  cases d with
  | list ds =>
    cases h
    refine .inl (ha ρ _ h1 S σ H al en _ fun v H1 e1 rv => ?_)
    cases rv with
    | lst hx ra => exact ⟨_, rfl, ⟨_, .inl (.inl (hid_le _ _ hx))⟩, q _ H1 e1 (wk_lst hx ra)⟩
  | tuple ds =>
    cases h
    refine .inr (ha ρ _ h1 S σ H al en _ fun v H1 e1 rv => ?_)
    cases rv with
    | tup hx _ ra => exact ⟨_, rfl, ⟨_, .inl (.inr ⟨_, hid_le _ _ hx⟩)⟩, q _ H1 e1 (wk_tup hx ra)⟩
  | dict kvs =>
    refine .inl (ha ρ _ h1 S σ H al en _ fun v H1 e1 rv => ?_)
    cases rv with
    | dct _ _ hp _ => rcases zip_str hp with e | ⟨k, d, r, e⟩ <;> (subst e; cases h)
    | dci _ _ _ => cases h
    | scr hs ra => cases h; exact ⟨_, rfl, ⟨_, sqx hid_le hs⟩, q _ H1 e1 (wk_scr hs ra)⟩
  | _ => cases h
theorem si_rng {as : XA} (hs : SA ts as) : SI false (iRng1 ts) (xiA rngP as) := fun ρ xs h S σ H al en R q => by
  obtain ⟨ds, h1, h⟩ := bind_some h
  refine hs ρ ds h1 S σ H al en _ fun vs H1 e1 rv => ?_
  obtain ⟨j, h2, h3, h4, w⟩ := core_rng h rv
  exact ⟨j, h2, h3, h4, q _ H1 e1 w⟩
theorem swi_seq {a : XW} (ha : SW te a) : SWI false (iSeq K te) (wiE a) := fun pn F T H σ ρ xs ρ' st h R q => by
  obtain ⟨⟨d, ρ1⟩, h1, h⟩ := bind_some h
  obtain ⟨ys, h2, h⟩ := bind_some h
  cases h
  cases d with
  | list ds =>
    cases h2
    refine .inl (ha pn F T H σ ρ _ _ st h1 _ fun v T1 H1 st1 s1 rv => ?_)
    cases rv with
    | lst hx ra => exact ⟨_, rfl, ⟨_, .inl (.inl (hid_le _ _ hx))⟩, q _ T1 H1 st1 s1 (wk_lst hx ra)⟩
  | tuple ds =>
    cases h2
    refine .inr (ha pn F T H σ ρ _ _ st h1 _ fun v T1 H1 st1 s1 rv => ?_)
    cases rv with
    | tup hx _ ra => exact ⟨_, rfl, ⟨_, .inl (.inr ⟨_, hid_le _ _ hx⟩)⟩, q _ T1 H1 st1 s1 (wk_tup hx ra)⟩
  | dict kvs =>
    refine .inl (ha pn F T H σ ρ _ _ st h1 _ fun v T1 H1 st1 s1 rv => ?_)
    cases rv with
    | dct _ _ hp _ => rcases zip_str hp with e | ⟨k, d, r, e⟩ <;> (subst e; cases h2)
    | dci _ _ _ => cases h2
    | scr hs ra => cases h2; exact ⟨_, rfl, ⟨_, sqx hid_le hs⟩, q _ T1 H1 st1 s1 (wk_scr hs ra)⟩
  | _ => cases h2
theorem swi_rng {as : XWA} (hs : SWA ts as) : SWI false (iRng1 ts) (wiA rngP as) := fun pn F T H σ ρ xs ρ' st h R q => by
  obtain ⟨⟨ds, ρ1⟩, h1, h⟩ := bind_some h
  obtain ⟨ys, h2, h⟩ := bind_some h
  cases h
  refine hs pn F T H σ ρ ds _ st h1 _ fun vs T1 H1 st1 s1 rv => ?_
  obtain ⟨j, h2, h3, h4, w⟩ := core_rng h2 rv
  exact ⟨j, h2, h3, h4, q _ T1 H1 st1 s1 w⟩
end
end Uv

namespace Uv
open PySem PySem.Spec PyProof.Rows L2
open Evl (Ex)
variable [kk : KK]
def Off (vs : List Nat) (σ σ' : L2.St) : Prop := σ'.length = σ.length ∧ ∀ (i : Nat), i ∉ vs → σ'[i]? = σ[i]?
theorem Off.refl {vs : List Nat} {σ : L2.St} : Off vs σ σ := ⟨rfl, fun _ _ => rfl⟩
theorem Off.name {i : Nat} {σ : L2.St} {o : Option V} : Off [i] σ (σ.set i o) := ⟨List.length_set, fun j hj => List.getElem?_set_ne fun z => hj (by rw [z]; exact List.mem_cons_self ..)⟩
theorem Off.trans {vs ws : List Nat} {σ σ1 σ2 : L2.St} (a : Off vs σ σ1) (b : Off ws σ1 σ2) : Off (vs ++ ws) σ σ2 := ⟨b.1.trans a.1, fun i hi => (b.2 i fun z => hi (List.mem_append_right _ z)).trans (a.2 i fun z => hi (List.mem_append_left _ z))⟩
def gTU (K : PySem.W.Frag) (n : Nat) (t : TGs) : TG := fun v σ H Q => gTup K n t v σ H Q ∨ gUnl K n t v σ H Q
theorem PG.or {X : Cx} {e : Expr} {t u : TG} (h : PG X e t) (h' : PG X e u) : PG X e (fun v σ H Q => t v σ H Q ∨ u v σ H Q) := ⟨fun pins s σ H v w Q I r q => q.elim (h.run pins s σ H v w Q I r) (h'.run pins s σ H v w Q I r)⟩
abbrev XGV := PD → VE → Option VE
abbrev XGVs := List PD → VE → Option VE
def gvName (i : Nat) : XGV := fun x ρ => some (ρ.set i (some x))
def gvNil : XGVs := fun xs ρ => match xs with
  | [] => some ρ
  | _ :: _ => none
def gvCons (g : XGV) (gs : XGVs) : XGVs := fun xs ρ => match xs with
  | x :: r => (g x ρ).bind fun ρ1 => gs r ρ1
  | [] => none
def gvTup (n : Nat) (gs : XGVs) : XGV := fun x ρ => (seqP x).bind fun ds => if ds.length = n then gs ds ρ else none
def SGV (b : Bool) (g : TG) (xg : XGV) (vs : List Nat) : Prop := ∀ x ρ ρ', xg x ρ = some ρ' → ∀ S σ H v, En (hid S H) σ ρ → Rk b (hid S H) v x → ∀ Q : L2.St → Hp → Prop, (∀ σ', En (hid S H) σ' ρ' → Off vs σ σ' → Q σ' H) → g v σ H Q
abbrev XG := PD → Env → Option Env
abbrev XGs := List PD → Env → Option Env
def gName' (i : Nat) : XG := fun x ρ => some (ρ.set i (.dat x))
def gNil' : XGs := fun xs ρ => match xs with
  | [] => some ρ
  | _ :: _ => none
def gCons' (g : XG) (gs : XGs) : XGs := fun xs ρ => match xs with
  | x :: r => (g x ρ).bind fun ρ1 => gs r ρ1
  | [] => none
def gTup' (n : Nat) (gs : XGs) : XG := fun x ρ => (seqP x).bind fun ds => if ds.length = n then gs ds ρ else none
def SG (b : Bool) (g : TG) (xg : XG) (vs : List Nat) : Prop := ∀ pn F T H σ v x ρ ρ', StOk pn F T H σ ρ → xg x ρ = some ρ' → Rk b (hid (SF F T) H) v x → ∀ Q : L2.St → Hp → Prop, (∀ σ' T', StOk pn F T' H σ' ρ' → Stp F T H T' H → Off vs σ σ' → Q σ' H) → g v σ H Q
def SGs (gs : TGs) (xg : XGs) (vs : List Nat) : Prop := ∀ pn F T H σ ws xs ρ ρ', StOk pn F T H σ ρ → xg xs ρ = some ρ' → RpAll (hid (SF F T) H) ws xs → ∀ Q : L2.St → Hp → Prop, (∀ σ' T', StOk pn F T' H σ' ρ' → Stp F T H T' H → Off vs σ σ' → Q σ' H) → gs ws σ H Q
section
variable {vs ws : List Nat}
theorem sgv_name {i : Nat} : SGV false (gName i) (gvName i) [i] := fun x ρ ρ' h S σ H v en r Q q => by
  cases h
  rcases r with r | ⟨z, _⟩
  · exact q _ (en.set i r) Off.name
  · cases z
theorem seq_read {b : Bool} {n : Nat} {H G : Hp} {v : V} {x : PD} {ds : List PD} (e : Ex G H) (hx : seqP x = some ds) (hn : ds.length = n) (r : Rk b G v x) : ∃ a us, v = .ref a ∧ (SqT K H a us ∨ SqL K H a us) ∧ us.length = n ∧ RpAll G us ds := by
  rcases r with r | ⟨_, a, us, es, rfl, ha, ra, rfl⟩
  · cases r with
    | lst ha ra => cases hx; exact ⟨_, _, rfl, .inr (.inl (.inl (e _ _ ha))), by rw [ra.length, hn], ra⟩
    | tup ha _ ra => cases hx; exact ⟨_, _, rfl, .inl (.inl (.inr ⟨_, e _ _ ha⟩)), by rw [ra.length, hn], ra⟩
    | scr hs ra => cases hx; exact ⟨_, _, rfl, .inr (sqx e hs), by rw [ra.length, hn], ra⟩
    | dct _ _ hp _ => rcases zip_str hp with e | ⟨k, d, r, e⟩ <;> (subst e; cases hx)
    | _ => cases hx
  · cases hx
    exact ⟨a, us, rfl, .inl (.inl (.inl (e _ _ ha))), by rw [ra.length, hn], ra⟩
theorem sg_name {i : Nat} (hi : i ≠ 0) : SG false (gName i) (gName' i) [i] := fun pn F T H σ v x ρ ρ' st h r Q q => by
  cases h
  rcases r with r | ⟨z, _⟩
  · obtain ⟨st', s⟩ := st.set hi r
    exact q _ _ st' s Off.name
  · cases z
theorem sg_nil : SGs gNil gNil' [] := fun pn F T H σ us xs ρ ρ' st h r Q q => by
  cases r with
  | nil => cases h; exact ⟨rfl, q σ T st Stp.refl Off.refl⟩
  | cons _ _ => cases h
theorem sg_cons {g : TG} {gs : TGs} {xg : XG} {xgs : XGs} (hg : SG false g xg vs) (hs : SGs gs xgs ws) : SGs (gCons g gs) (gCons' xg xgs) (vs ++ ws) := fun pn F T H σ us xs ρ ρ' st h r Q q => by
  cases r with
  | nil => cases h
  | cons a b =>
    obtain ⟨ρ1, h1, h2⟩ := bind_some (show (xg _ ρ).bind _ = some ρ' from h)
    exact ⟨_, _, rfl, hg pn F T H σ _ _ ρ ρ1 st h1 (.inl a) _ fun σ1 T1 st1 s1 f1 => hs pn F T1 H σ1 _ _ ρ1 ρ' st1 h2 (b.ex s1.vis) Q fun σ2 T2 st2 s2 f2 => q σ2 T2 st2 (s1.trans s2) (f1.trans f2)⟩
theorem sg_tup {b : Bool} {n : Nat} {gs : TGs} {xgs : XGs} (hs : SGs gs xgs vs) : SG b (gTU K n gs) (gTup' n xgs) vs := fun pn F T H σ v x ρ ρ' st h r Q q => by
  obtain ⟨ds, h1, h⟩ := bind_some h
  by_cases c : ds.length = n
  · rw [if_pos c] at h
    obtain ⟨a, us, rfl, sq, hl, ra⟩ := seq_read (hid_le (S := SF F T)) h1 c r
    rcases sq with sq | sq
    · exact .inl ⟨a, us, rfl, sq, hl, hs pn F T H σ us ds ρ ρ' st h ra Q q⟩
    · exact .inr ⟨a, us, rfl, sq, hl, hs pn F T H σ us ds ρ ρ' st h ra Q q⟩
  · rw [if_neg c] at h; cases h
end
def clear (ρ : VE) : List Nat → VE
  | [] => ρ
  | v :: vs => (clear ρ vs).set v none
theorem clear_en {H : Hp} {σ : L2.St} {ρ : VE} (h : En H σ ρ) : ∀ vs : List Nat, En H (wipe σ vs) (clear ρ vs)
  | [] => h
  | v :: vs => (clear_en h vs).clear v none
theorem wipe_get {σ : L2.St} {i : Nat} : ∀ {vs : List Nat}, i ∉ vs → (wipe σ vs)[i]? = σ[i]?
  | [], _ => rfl
  | v :: vs, h => by
    unfold wipe
    rw [List.getElem?_set_ne (fun z => h (by rw [← z]; exact List.mem_cons_self ..))]
    exact wipe_get fun z => h (List.mem_cons_of_mem _ z)
theorem wipe_at {σ : L2.St} {i : Nat} : ∀ {vs : List Nat}, i ∈ vs → i < σ.length → (wipe σ vs)[i]? = some none
  | v :: vs, h, hl => by
    unfold wipe
    by_cases c : v = i
    · subst c
      exact List.getElem?_set_self (by rw [wipe_length]; exact hl)
    · rw [List.getElem?_set_ne c]
      rcases List.mem_cons.mp h with z | z
      · exact absurd z.symm c
      · exact wipe_at z hl
theorem wipe_eq {σ τ : L2.St} {vs : List Nat} (hl : σ.length = τ.length) (h : ∀ i, i ∉ vs → σ[i]? = τ[i]?) : wipe σ vs = wipe τ vs := by
  apply List.ext_getElem?
  intro i
  by_cases c : i ∈ vs
  · by_cases b : i < σ.length
    · rw [wipe_at c b, wipe_at c (by omega)]
    · rw [List.getElem?_eq_none (by rw [wipe_length]; omega), List.getElem?_eq_none (by rw [wipe_length]; omega)]
  · rw [wipe_get c, wipe_get c]
    exact h i c
theorem wipe_off {vs : List Nat} {σ τ : L2.St} {us : List Nat} (f : Off us (wipe σ vs) τ) (hu : ∀ i ∈ us, i ∈ vs) : wipe τ vs = wipe σ vs := by
  have ew : wipe (wipe σ vs) vs = wipe σ vs := wipe_eq (wipe_length σ vs) fun j hj => wipe_get hj
  rw [← ew]
  exact wipe_eq f.1 fun j hj => f.2 j fun z => hj (hu j z)
def lcGo (g : XGV) (t : XT) (e : XE) (ρ : VE) : List PD → Option (List PD)
  | [] => some []
  | x :: xs => (g x ρ).bind fun ρ1 => (t ρ1).bind fun b => if b = true then (e ρ1).bind fun d => (lcGo g t e ρ xs).bind fun ds => some (d :: ds) else lcGo g t e ρ xs
def xLc (src : XI) (g : XGV) (t : XT) (e : XE) (vs : List Nat) : XE := fun ρ => (src ρ).bind fun xs => if xs.length ≤ 40000 then (lcGo g t e (clear ρ vs) xs).bind fun ds => some (.list ds) else none
def FrL (te : TE) (ρ : VE) (ds : List PD) : Prop := ∀ S σ H, Al S H → En (hid S H) σ ρ → ∀ Q : VK, (∀ p vs H2, Ex H H2 → H p = none → H2 p = some (.lst vs) → RpAll (hid (fun x => x = p ∨ S x) H2) vs ds → Q (.ref p) H2) → te σ H Q
def SEF (te : TE) (x : XE) : Prop := ∀ ρ d, x ρ = some d → ∃ ds, d = .list ds ∧ FrL te ρ ds
theorem SEF.se {te : TE} {x : XE} (h : SEF te x) : SE te x := fun ρ d e S σ H al en Q q => by
  obtain ⟨ds, rfl, f⟩ := h ρ d e
  exact f S σ H al en Q fun p vs H2 e2 hp h2 ra => q _ H2 e2 (.lst (by rw [hid_out (al.new hp)]; exact h2) (ra.ex (hid_sub fun x hx => .inr hx)))
section
theorem lc_step {g : XGV} {t : XT} {e : XE} {ρ : VE} {x : PD} {xs ds : List PD} (h : lcGo g t e ρ (x :: xs) = some ds) : ∃ ρ1 b, g x ρ = some ρ1 ∧ t ρ1 = some b ∧ ((b = true ∧ ∃ d ds', e ρ1 = some d ∧ lcGo g t e ρ xs = some ds' ∧ ds = d :: ds') ∨ (b = false ∧ lcGo g t e ρ xs = some ds)) := by
  obtain ⟨ρ1, h1, h⟩ := bind_some (show (g x ρ).bind _ = some ds from h)
  obtain ⟨b, h2, h⟩ := bind_some h
  refine ⟨ρ1, b, h1, h2, ?_⟩
  cases b with
  | true =>
    obtain ⟨d, h3, h⟩ := bind_some (show (e ρ1).bind _ = some ds from h)
    obtain ⟨ds', h4, h⟩ := bind_some h
    cases h
    exact .inl ⟨rfl, d, ds', h3, h4, rfl⟩
  | false => exact .inr ⟨rfl, h⟩
theorem sef_lc {b : Bool} {wi : TI} {g : TG} {tt : TT} {te : TE} {vs us : List Nat} {src : XI} {xg : XGV} {t : XT} {e : XE} (hs : SI b wi src) (hg : SGV b g xg us) (hu : ∀ i ∈ us, i ∈ vs) (ht : ST tt t) (he : SE te e) : SEF (tLc wi g tt te vs) (xLc src xg t e vs) := fun ρ d h => by
  obtain ⟨xs, h1, h⟩ := bind_some h
  by_cases hz : xs.length ≤ 40000
  · rw [if_pos hz] at h
    obtain ⟨ds, h2, h⟩ := bind_some h
    cases h
    refine ⟨ds, rfl, fun S σ H al en Q q => hs ρ xs h1 S σ H al en _ fun J H1 e1 wk D hD => ?_⟩
    have al1 := al.ex e1
    have alD : Al (fun x => x = D ∨ S x) (upd H1 D (.lst [])) := fun x hx => by
      by_cases c : x = D
      · subst c; rw [upd_same]; exact fun z => nomatch z
      · rw [upd_ne c]; exact al1 x (hx.resolve_left c)
    refine ⟨fun i m H' => m = xs.length - i ∧ i ≤ xs.length ∧ Ex H1 H' ∧ Al (fun x => x = D ∨ S x) H' ∧ ∃ acc ds1 ds2, H' D = some (.lst acc) ∧ acc.length ≤ i ∧ RpAll (hid (fun x => x = D ∨ S x) H') acc ds1 ∧ lcGo xg t e (clear ρ vs) (xs.drop i) = some ds2 ∧ ds = ds1 ++ ds2,
      ⟨_, rfl, Nat.zero_le _, Ex.new hD, alD, [], [], ds, upd_same, Nat.le_refl _, .nil, h2, rfl⟩, fun i m H' hw => ?_⟩
    obtain ⟨rfl, hi, e2, al2, acc, ds1, ds2, hacc, la, ra, hgo, hds⟩ := hw
    have ewk : Ex (hid S H1) (hid (fun x => x = D ∨ S x) H') := hid_cons e2 hD
    obtain ⟨w1, w2⟩ := wk _ H' ewk al2
    by_cases hlt : i < xs.length
    · obtain ⟨w3, w4⟩ := w2 i _ (List.getElem?_eq_getElem hlt)
      rw [List.drop_eq_getElem_cons hlt] at hgo
      obtain ⟨ρ1, b1, g1, t1, alt⟩ := lc_step hgo
      refine .inr ⟨w3, fun H2 => Ex H1 H2 ∧ Al (fun x => x = D ∨ S x) H2 ∧ ∃ acc ds1 ds2, H2 D = some (.lst acc) ∧ acc.length ≤ i + 1 ∧ RpAll (hid (fun x => x = D ∨ S x) H2) acc ds1 ∧ lcGo xg t e (clear ρ vs) (xs.drop (i + 1)) = some ds2 ∧ ds = ds1 ++ ds2, fun H2 hn => ⟨_, by omega, rfl, hlt, hn⟩, fun v H3 y => ?_⟩
      obtain ⟨e3, rv⟩ := w4 v H3 y
      have al3 := al2.ex e3
      have en3 : En (hid (fun x => x = D ∨ S x) H3) (wipe σ vs) (clear ρ vs) := clear_en (en.ex (((hid_ex e1).trans ewk).trans (hid_ex e3))) vs
      refine hg _ _ ρ1 g1 _ (wipe σ vs) H3 v en3 rv _ fun σ4 en4 off => ⟨wipe_off off hu, ?_⟩
      refine ht ρ1 b1 t1 _ σ4 H3 al3 en4 _ fun H5 e5 => ?_
      have hacc5 : H5 D = some (.lst acc) := e5 _ _ (e3 _ _ hacc)
      have ra5 := ra.ex ((hid_ex (S := fun x => x = D ∨ S x) e3).trans (hid_ex e5))
      rcases alt with ⟨rfl, d1, ds', f1, f2, rfl⟩ | ⟨rfl, f2⟩
      · show te σ4 H5 _
        refine he ρ1 d1 f1 _ σ4 H5 (al3.ex e5) (en4.ex (hid_ex e5)) _ fun z H6 e6 rz => ⟨acc, e6 _ _ hacc5, Evl.sz_lt (by omega), Ex.mut (((e2.trans e3).trans e5).trans e6) hD, ?_, acc ++ [z], ds1 ++ [d1], ds', upd_same, by rw [List.length_append]; simpa using la, ?_, f2, by rw [hds, List.append_assoc]; rfl⟩
        · intro x hx
          by_cases c : x = D
          · subst c; rw [upd_same]; exact fun q => nomatch q
          · rw [upd_ne c]; exact ((al3.ex e5).ex e6) x hx
        · have hu' : Ex (hid (fun x => x = D ∨ S x) H6) (hid (fun x => x = D ∨ S x) (upd H6 D (.lst (acc ++ [z])))) := fun x o h => by
            obtain ⟨c, h⟩ := hid_some h
            rw [hid_out c, upd_ne (fun z => c (.inl z))]
            exact h
          exact RpAll.append (ra5.ex ((hid_ex e6).trans hu')) (.cons (rz.ex hu') .nil)
      · exact ⟨(e2.trans e3).trans e5, al3.ex e5, acc, ds1, ds2, hacc5, by omega, ra5, f2, hds⟩
    · have ei : i = xs.length := by omega
      subst ei
      rw [List.drop_length] at hgo
      cases hgo
      rw [List.append_nil] at hds
      subst hds
      exact .inl ⟨w1, q D acc H' (e1.trans e2) (by
        cases qq : H D with
        | none => rfl
        | some o => rw [e1 _ _ qq] at hD; cases hD) hacc ra⟩
  · rw [if_neg hz] at h; cases h
theorem sef_lst {ts : TA} {as : XA} (hs : SA ts as) : SEF (tLst ts) (xLst as) := fun ρ d h => by
  obtain ⟨ds, h1, h⟩ := bind_some h
  by_cases hl : ds.length ≤ 100000
  · rw [if_pos hl] at h
    cases h
    refine ⟨ds, rfl, fun S σ H al en Q q => hs ρ ds h1 S σ H al en _ fun vs H1 e1 ra => ⟨by rw [ra.length]; exact Evl.sz_of hl, fun p hp => q p vs _ (e1.trans (Ex.new hp)) (by
      cases qq : H p with
      | none => rfl
      | some o => rw [e1 _ _ qq] at hp; cases hp) upd_same (ra.ex (hid_cons (Ex.new hp) hp))⟩⟩
  · rw [if_neg hl] at h; cases h
theorem sef_list {ta : TE} {a : XE} (ha : SE ta a) : SEF (tCB (rListQ K) (tCons ta tNil)) (xUn listP a) := fun ρ d h => by
  obtain ⟨x, h1, h⟩ := bind_some h
  have fresh : ∀ {H H1 : Hp} {p : Addr}, Ex H H1 → H1 p = none → H p = none := fun {H H1 p} e hp => by
    cases qq : H p with
    | none => rfl
    | some o => rw [e _ _ qq] at hp; cases hp
  cases x with
  | list ds =>
    cases h
    refine ⟨ds, rfl, fun S σ H al en Q q => ha ρ _ h1 S σ H al en _ fun v H1 e1 rv => ?_⟩
    cases rv with
    | lst hx ra => exact ⟨_, _, rfl, .inl (.inl (.inl (hid_le _ _ hx))), fun l hl => q l _ _ (e1.trans (Ex.new hl)) (fresh e1 hl) upd_same (ra.ex (hid_cons (Ex.new hl) hl))⟩
  | tuple ds =>
    cases h
    refine ⟨ds, rfl, fun S σ H al en Q q => ha ρ _ h1 S σ H al en _ fun v H1 e1 rv => ?_⟩
    cases rv with
    | tup hx _ ra => exact ⟨_, _, rfl, .inr (.inl (.inr ⟨_, hid_le _ _ hx⟩)), fun l hl => q l _ _ (e1.trans (Ex.new hl)) (fresh e1 hl) upd_same (ra.ex (hid_cons (Ex.new hl) hl))⟩
  | _ => cases h
end
end Uv

namespace Uv
open PySem PySem.Spec PyProof.Rows L2
open Evl (Ex)
variable [kk : KK]
theorem FL_nil {F : Hs} : FL F [] = F := funext fun x => propext ⟨fun h => h.elim id (fun z => nomatch z), .inl⟩
theorem FL_app {F : Hs} {A B : List Addr} : FL (FL F A) B = FL F (A ++ B) := funext fun x => propext ⟨fun h => h.elim (fun h => h.elim .inl fun z => .inr (List.mem_append_left _ z)) fun z => .inr (List.mem_append_right _ z),
  fun h => h.elim (fun h => .inl (.inl h)) fun z => (List.mem_append.mp z).elim (fun z => .inl (.inr z)) .inr⟩
theorem FL_perm {F : Hs} {A B : List Addr} (h : ∀ x, x ∈ A ↔ x ∈ B) : FL F A = FL F B := funext fun x => propext ⟨fun z => z.elim .inl fun z => .inr ((h x).mp z), fun z => z.elim .inl fun z => .inr ((h x).mpr z)⟩
theorem SF_FL1 {F : Hs} {T : Trs} {p : Addr} : SF (FL F [p]) T = fun x => x = p ∨ SF F T x := funext fun x => propext ⟨fun h => h.elim (fun h => h.elim (fun z => .inr (.inl z)) fun z => .inl (by simpa using z)) fun z => .inr (.inr z),
  fun h => h.elim (fun z => .inl (.inr (by rw [z]; exact List.mem_cons_self ..))) fun z => z.elim (fun z => .inl (.inl z)) .inr⟩
section
variable {pn : Option V} {F : Hs} {T : Trs} {H H2 : Hp} {σ : L2.St} {ρ : Env}
theorem StOk.fresh (st : StOk pn F T H σ ρ) (e : Ex H H2) {p : Addr} (hp : H p = none) (h2 : H2 p ≠ none) : StOk pn (FL F [p]) T H2 σ ρ ∧ Ex (hid (SF F T) H) (hid (SF (FL F [p]) T) H2) := by
  have vis : Ex (hid (SF F T) H) (hid (SF (FL F [p]) T) H2) := by rw [SF_FL1]; exact hid_cons e hp
  have st2 := st.ex e
  refine ⟨⟨st.len, fun x h => ?_, fun i x hx z => ?_, st.dis, st.nd, st.out, fun i s hi => ?_, st.pin⟩, vis⟩
  · rcases h with h | h
    · exact st2.al x h
    · have ex : x = p := by simpa using h
      rw [ex]; exact h2
  · rcases z with z | z
    · exact st.off i x hx z
    · have ex : x = p := by simpa using z
      obtain ⟨vs, q, _⟩ := st.lst hx
      rw [ex, hp] at q
      cases q
  · obtain ⟨o, h1, h3⟩ := st.sl i s hi
    refine ⟨o, h1, h3.mv vis fun x hx => ?_⟩
    obtain ⟨vs, q, _⟩ := st.lst hx
    rw [q, e x _ q]
end
abbrev XWC := Env → Option (List Cel × Env)
def SWC (ta : TA) (w : XWC) : Prop := ∀ pn F T H σ ρ cs ρ', StOk pn F T H σ ρ → w ρ = some (cs, ρ') → ∀ Q : List V → Hp → Prop, (∀ vs B T' H', StOk pn (FL F B) T' H' σ ρ' → B.Nodup → (∀ x ∈ B, ¬ F x) → (∀ x, F x → H' x = H x) → Ex (hid (SF F T) H) (hid (SF (FL F B) T') H') → Cels (hid (SF (FL F B) T') H') H' vs cs B → Q vs H') → ta σ H Q
def asList : PD → Option (List PD)
  | .list ds => some ds
  | _ => none
theorem asList_eq {d : PD} {ds : List PD} (h : asList d = some ds) : d = .list ds := by
  cases d with
  | list l => cases h; rfl
  | _ => cases h
def wOM (x : XE) : XWO := fun ρ => ((x (mk ρ)).bind asList).bind fun ds => some (ds.map Cel.dat, ρ)
def wOV (x : XE) : XWO := fun ρ => ((x (vw ρ)).bind asList).bind fun ds => if flats ds = true then some (ds.map Cel.dat, ρ) else none
theorem Cels.dats {G H : Hp} : ∀ {vs : List V} {ds : List PD}, RpAll G vs ds → Cels G H vs (ds.map Cel.dat) []
  | _, _, .nil => .nil
  | _, _, .cons h r => .dat h (Cels.dats r)
theorem swo_M {te : TE} {x : XE} (h : SEF te x) : SWO te (wOM x) := fun pn F T H σ ρ cs ρ' st e Q q => by
  obtain ⟨ds, h1, h2⟩ := bind_some e
  obtain ⟨d, h1, h3⟩ := bind_some h1
  cases h2
  have e := asList_eq h3
  subst e
  obtain ⟨ds', e', f⟩ := h _ _ h1
  cases e'
  refine f (SF F T) σ H st.als st.mkd Q fun p vs H2 e2 hp h2 ra => ?_
  obtain ⟨st2, vis⟩ := st.fresh e2 hp (by rw [h2]; exact fun z => nomatch z)
  refine q _ [p] T H2 st2 (by simp) (fun x hx => ?_) (Stp.ex (T := T) st.al e2).fr vis ⟨p, vs, [], rfl, h2, Cels.dats (by rw [SF_FL1]; exact ra), rfl⟩
  have ex : x = p := by simpa using hx
  rw [ex]
  exact st.al.new hp
def wFz (o : XWO) : XW := fun ρ => (o ρ).bind fun x => some (.list (x.1.map Cel.pd), x.2)
theorem sw_fz {te : TE} {o : XWO} (h : SWO te o) : SW te (wFz o) := fun pn F T H σ ρ d ρ' st e Q q => by
  obtain ⟨⟨cs, ρ1⟩, h1, e⟩ := bind_some e
  cases e
  refine h pn F T H σ ρ cs _ st h1 Q fun v A T' H' st' nd off fr vis ow => ?_
  obtain ⟨st2, sub⟩ := st'.thaw
  refine q v T' H' st2 ⟨fr, vis.trans sub⟩ (ow.rp sub fun x hx => hid_out ?_)
  rintro (z | ⟨i, z⟩)
  · exact off x hx z
  · exact st'.off i x z (.inr hx)
def wcNil : XWC := fun ρ => some ([], ρ)
def wcDat (a : XW) (as : XWC) : XWC := fun ρ => (a ρ).bind fun x => (as x.2).bind fun xs => some (.dat x.1 :: xs.1, xs.2)
def allDat : List Cel → Option (List PD)
  | [] => some []
  | .dat d :: r => (allDat r).bind fun ds => some (d :: ds)
  | .sub _ :: _ => none
theorem allDat_map : ∀ ds : List PD, allDat (ds.map Cel.dat) = some ds
  | [] => rfl
  | d :: ds => by rw [List.map_cons, allDat, allDat_map ds]; rfl
theorem allDat_eq : ∀ {cs : List Cel} {ds : List PD}, allDat cs = some ds → cs = ds.map Cel.dat
  | [], ds, h => by cases h; rfl
  | .dat d :: r, ds, h => by
    obtain ⟨es, h1, h2⟩ := bind_some (show (allDat r).bind _ = some ds from h)
    cases h2
    rw [allDat_eq h1]
    rfl
  | .sub _ :: _, _, h => nomatch h
def wcSub (a : XWO) (as : XWC) : XWC := fun ρ => (a ρ).bind fun x => (allDat x.1).bind fun ds => (as x.2).bind fun xs => some (.sub ds :: xs.1, xs.2)
theorem Cels.dats_inv {G H : Hp} : ∀ {vs : List V} {ds : List PD} {B : List Addr}, Cels G H vs (ds.map Cel.dat) B → RpAll G vs ds ∧ B = []
  | _, [], _, .nil => ⟨.nil, rfl⟩
  | _, d :: ds, _, .dat r c => ⟨.cons r (Cels.dats_inv c).1, (Cels.dats_inv c).2⟩
theorem swc_nil : SWC tNil wcNil := fun pn F T H σ ρ cs ρ' st e Q q => by
  cases e
  exact q [] [] T H (by rw [FL_nil]; exact st) (by simp) (fun x hx => nomatch hx) (fun _ _ => rfl) (by rw [FL_nil]; exact Ex.refl _) .nil
theorem swc_dat {ta : TE} {ts : TA} {a : XW} {as : XWC} (ha : SW ta a) (hs : SWC ts as) : SWC (tCons ta ts) (wcDat a as) := fun pn F T H σ ρ cs ρ' st e Q q => by
  obtain ⟨⟨x, ρ1⟩, h1, e⟩ := bind_some e
  obtain ⟨⟨xs, ρ2⟩, h2, e⟩ := bind_some e
  cases e
  exact ha pn F T H σ ρ x ρ1 st h1 _ fun v T1 H1 st1 s1 rv => hs pn F T1 H1 σ ρ1 xs ρ2 st1 h2 _ fun vs B T2 H2 st2 nd off fr vis c =>
    q (v :: vs) B T2 H2 st2 nd off (fun x hx => (fr x hx).trans (s1.fr x hx)) (s1.vis.trans vis) (.dat (rv.ex vis) c)
theorem swc_sub {ta : TE} {ts : TA} {a : XWO} {as : XWC} (ha : SWO ta a) (hs : SWC ts as) : SWC (tCons ta ts) (wcSub a as) := fun pn F T H σ ρ cs ρ' st e0 Q q => by
  obtain ⟨⟨x, ρ1⟩, h1, e1⟩ := bind_some e0
  obtain ⟨ds, hd, e2⟩ := bind_some e1
  obtain ⟨⟨xs, ρ2⟩, h2, e3⟩ := bind_some e2
  have e4 : some (Cel.sub ds :: xs, ρ2) = some (cs, ρ') := e3
  clear e0 e1 e2 e3
  obtain ⟨rfl, rfl⟩ := Prod.mk.inj (Option.some.inj e4)
  have ex : x = _ := allDat_eq hd
  subst ex
  refine ha pn F T H σ ρ _ ρ1 st h1 _ fun v A T1 H1 st1 nd off fr vis ow => ?_
  obtain ⟨b, ws, B0, rfl, hb, cb, rfl⟩ := ow
  obtain ⟨ra, rfl⟩ := cb.dats_inv
  refine hs pn (FL F [b]) T1 H1 σ ρ1 xs ρ2 st1 h2 _ fun vs B T2 H2 st2 nd2 off2 fr2 vis2 c => ?_
  have eF : FL (FL F [b]) B = FL F (b :: B) := FL_app
  rw [eF] at st2 vis2 c
  have hb2 : H2 b = some (.lst ws) := by rw [fr2 b (.inr (List.mem_cons_self ..))]; exact hb
  refine q (.ref b :: vs) (b :: B) T2 H2 st2 (List.nodup_cons.mpr ⟨fun z => off2 b z (.inr (List.mem_cons_self ..)), nd2⟩) (fun x hx => ?_) (fun x hx => (fr2 x (.inl hx)).trans (fr x hx)) (vis.trans vis2) (.sub hb2 (ra.ex vis2) c)
  rcases List.mem_cons.mp hx with z | z
  · rw [z]; exact off b (List.mem_cons_self ..)
  · exact fun w => off2 x z (.inl w)
def wOL (as : XWC) : XWO := fun ρ => (as ρ).bind fun x => if x.1.length ≤ 100000 then some x else none
theorem swo_lst {ts : TA} {as : XWC} (hs : SWC ts as) : SWO (tLst ts) (wOL as) := fun pn F T H σ ρ cs ρ' st e Q q => by
  obtain ⟨⟨xs, ρ1⟩, h1, e⟩ := bind_some e
  by_cases hl : xs.length ≤ 100000
  · rw [if_pos hl] at e
    cases e
    refine hs pn F T H σ ρ _ _ st h1 _ fun vs B T1 H1 st1 nd off fr vis c => ⟨by rw [c.length]; exact Evl.sz_of hl, fun p hp => ?_⟩
    obtain ⟨st2, vis2⟩ := st1.fresh (Ex.new (o := .lst vs) hp) hp (by rw [upd_same]; exact fun z => nomatch z)
    have eF : FL (FL F B) [p] = FL F (p :: B) := by
      rw [FL_app]
      exact FL_perm fun x => by simp [or_comm]
    rw [eF] at st2 vis2
    have npB : ∀ x ∈ B, x ≠ p := fun x hx z => by
      have := st1.al x (.inr hx)
      rw [z, hp] at this
      exact this rfl
    have npF : ∀ x, F x → x ≠ p := fun x hx z => by
      have := st1.al x (.inl hx)
      rw [z, hp] at this
      exact this rfl
    refine q (.ref p) (p :: B) T1 _ st2 (List.nodup_cons.mpr ⟨fun z => npB p z rfl, nd⟩) (fun x hx => ?_) (fun x hx => by rw [upd_ne (npF x hx)]; exact fr x hx) (vis.trans vis2) ⟨p, vs, B, rfl, upd_same, c.mv vis2 fun x hx => upd_ne (npB x hx), rfl⟩
    rcases List.mem_cons.mp hx with z | z
    · rw [z]; exact fun w => npF p w rfl
    · exact off x z
  · rw [if_neg hl] at e; cases e
end Uv

namespace Uv
open PySem PySem.Spec PyProof.Rows L2
open Evl (Ex)
variable [kk : KK]
inductive Out | nxt (ρ : Env) | ret (d : PD) (ρ : Env) | retO (cs : List Cel) (ρ : Env) | brk (ρ : Env) | cnt (ρ : Env)
abbrev XS := Env → Option Out
def OutOk (pn : Option V) (F : Hs) (T : Trs) (H : Hp) (D : Ends) : Out → Prop
  | .nxt ρ => ∀ σ T' H', StOk pn F T' H' σ ρ → Stp F T H T' H' → D.nx σ H'
  | .brk ρ => ∀ σ T' H', StOk pn F T' H' σ ρ → Stp F T H T' H' → D.bk σ H'
  | .cnt ρ => ∀ σ T' H', StOk pn F T' H' σ ρ → Stp F T H T' H' → D.ct σ H'
  | .ret d ρ => ∀ v σ T' H', StOk pn F T' H' σ ρ → Stp F T H T' H' → Rp (hid (SF F T') H') v d → D.rt v H'
  | .retO cs ρ => ∀ v A σ T' H', StOk pn (FL F A) T' H' σ ρ → A.Nodup → (∀ x ∈ A, ¬ F x) → (∀ x, F x → H' x = H x) → Ex (hid (SF F T) H) (hid (SF (FL F A) T') H') → Own (hid (SF (FL F A) T') H') H' v cs A → D.rt v H'
def SS (ts : TS) (x : XS) : Prop := ∀ pn F T H σ ρ o D, StOk pn F T H σ ρ → x ρ = some o → OutOk pn F T H D o → ts D σ H
theorem OutOk.step {pn : Option V} {F : Hs} {T T1 : Trs} {H H1 : Hp} {D : Ends} (s : Stp F T H T1 H1) : ∀ {o : Out}, OutOk pn F T H D o → OutOk pn F T1 H1 D o
  | .nxt _, h => fun σ T' H' st s' => h σ T' H' st (s.trans s')
  | .brk _, h => fun σ T' H' st s' => h σ T' H' st (s.trans s')
  | .cnt _, h => fun σ T' H' st s' => h σ T' H' st (s.trans s')
  | .ret _ _, h => fun v σ T' H' st s' => h v σ T' H' st (s.trans s')
  | .retO _ _, h => fun v A σ T' H' st nd off fr vis => h v A σ T' H' st nd off (fun x hx => (fr x hx).trans (s.fr x hx)) (s.vis.trans vis)
theorem OutOk.on {pn : Option V} {F : Hs} {T : Trs} {H : Hp} {D : Ends} {nx bk ct : L2.St → Hp → Prop} : ∀ {o : Out}, (∀ ρ, o ≠ .nxt ρ) → (∀ ρ, o ≠ .brk ρ) → (∀ ρ, o ≠ .cnt ρ) → OutOk pn F T H D o → OutOk pn F T H { D with nx := nx, bk := bk, ct := ct } o
  | .nxt _, h, _, _, _ => absurd rfl (h _)
  | .brk _, _, h, _, _ => absurd rfl (h _)
  | .cnt _, _, _, h, _ => absurd rfl (h _)
  | .ret _ _, _, _, _, h => h
  | .retO _ _, _, _, _, h => h
def sNext : XS := fun ρ => some (.nxt ρ)
def sCont : XS := fun ρ => some (.cnt ρ)
def sBreak : XS := fun ρ => some (.brk ρ)
def sSeq (x y : XS) : XS := fun ρ => (x ρ).bind fun o => match o with
  | .nxt ρ1 => y ρ1
  | o => some o
def sRet (w : XW) : XS := fun ρ => (w ρ).bind fun x => some (.ret x.1 x.2)
def sRetN : XS := fun ρ => some (.ret .none ρ)
def sRetO (w : XWO) : XS := fun ρ => (w ρ).bind fun x => some (.retO x.1 x.2)
def sIf (c : XWT) (x y : XS) : XS := fun ρ => (c ρ).bind fun k => if k.1 = true then x k.2 else y k.2
def sAsg (g : XG) (w : XW) : XS := fun ρ => (w ρ).bind fun x => (g x.1 x.2).bind fun ρ1 => some (.nxt ρ1)
def sOwn (i : Nat) (w : XWO) : XS := fun ρ => (w ρ).bind fun x => if i < x.2.length then some (.nxt (x.2.set i (.own x.1))) else none
def sDrop (w : XW) : XS := fun ρ => (w ρ).bind fun x => some (.nxt x.2)
def toSl : Cel → Sl
  | .dat d => .dat d
  | .sub ds => .own (ds.map Cel.dat)
def two : List Cel → Option (Cel × Cel)
  | [c, e] => some (c, e)
  | _ => none
theorem two_eq {cs : List Cel} {c e : Cel} (h : two cs = some (c, e)) : cs = [c, e] := by
  unfold two at h
  split at h
  · cases h; rfl
  · cases h
def sPar (i j : Nat) (as : XWC) : XS := fun ρ => (as ρ).bind fun x => (two x.1).bind fun c => if i < x.2.length ∧ j < x.2.length then some (.nxt ((x.2.set i (toSl c.1)).set j (toSl c.2))) else none
section
variable {te : TE} {t u : TS} {ct : TT} {x y : XS} {w : XW} {c : XWT}
theorem ss_next : SS tNext sNext := fun pn F T H σ ρ o D st e q => by cases e; exact q σ T H st Stp.refl
theorem ss_seq (hx : SS t x) (hy : SS u y) : SS (tSeq t u) (sSeq x y) := fun pn F T H σ ρ o D st e q => by
  obtain ⟨o1, h1, e⟩ := bind_some e
  cases o1 with
  | nxt ρ1 => exact hx pn F T H σ ρ _ { D with nx := u D } st h1 fun σ2 T2 H2 st2 s2 => hy pn F T2 H2 σ2 ρ1 o D st2 e (q.step s2)
  | ret d ρ1 => cases e; exact hx pn F T H σ ρ _ { D with nx := u D } st h1 q
  | retO d ρ1 => cases e; exact hx pn F T H σ ρ _ { D with nx := u D } st h1 q
  | brk ρ1 => cases e; exact hx pn F T H σ ρ _ { D with nx := u D } st h1 q
  | cnt ρ1 => cases e; exact hx pn F T H σ ρ _ { D with nx := u D } st h1 q
theorem ss_ret (h : SW te w) : SS (tRet te) (sRet w) := fun pn F T H σ ρ o D st e q => by
  obtain ⟨⟨d, ρ1⟩, h1, e⟩ := bind_some e
  cases e
  exact h pn F T H σ ρ d ρ1 st h1 _ fun v T' H' st' s' rv => q v σ T' H' st' s' rv
theorem ss_retO {w : XWO} (h : SWO te w) : SS (tRet te) (sRetO w) := fun pn F T H σ ρ o D st e q => by
  obtain ⟨⟨d, ρ1⟩, h1, e⟩ := bind_some e
  cases e
  exact h pn F T H σ ρ d ρ1 st h1 _ fun v A T' H' st' nd off fr vis ow => q v A σ T' H' st' nd off fr vis ow
theorem ss_if (hc : SWT ct c) (hx : SS t x) (hy : SS u y) : SS (tIfS ct t u) (sIf c x y) := fun pn F T H σ ρ o D st e q => by
  obtain ⟨⟨k, ρ1⟩, h1, e⟩ := bind_some e
  refine hc pn F T H σ ρ k ρ1 st h1 _ fun T1 H1 st1 s1 => ?_
  cases k with
  | true => exact hx pn F T1 H1 σ ρ1 o D st1 e (q.step s1)
  | false => exact hy pn F T1 H1 σ ρ1 o D st1 e (q.step s1)
theorem ss_asg {g : TG} {xg : XG} {vs : List Nat} (hg : SG false g xg vs) (h : SW te w) : SS (tAsg te g) (sAsg xg w) := fun pn F T H σ ρ o D st e q => by
  obtain ⟨⟨d, ρ1⟩, h1, e⟩ := bind_some e
  obtain ⟨ρ2, h2, e⟩ := bind_some e
  cases e
  exact h pn F T H σ ρ d ρ1 st h1 _ fun v T1 H1 st1 s1 rv => hg pn F T1 H1 σ v d ρ1 ρ2 st1 h2 (.inl rv) _ fun σ' T' st' s' _ => q σ' T' H1 st' (s1.trans s')
theorem ss_own {i : Nat} {w : XWO} (hi : i ≠ 0) (h : SWO te w) : SS (tAsg te (gName i)) (sOwn i w) := fun pn F T H σ ρ o D st e q => by
  obtain ⟨⟨cs, ρ1⟩, h1, e⟩ := bind_some e
  by_cases c : i < ρ1.length
  · rw [if_pos c] at e
    cases e
    refine h pn F T H σ ρ cs ρ1 st h1 _ fun v A T' H' st' nd off fr vis ow => ?_
    obtain ⟨st2, vis2⟩ := st'.own hi c ow nd off
    exact q _ _ H' st2 ⟨fr, vis.trans vis2⟩
  · rw [if_neg c] at e; cases e
theorem StOk.cel {pn : Option V} {F : Hs} {T : Trs} {H : Hp} {σ : L2.St} {ρ : Env} {i : Nat} {v : V} {c : Cel} {B : List Addr} (hi : i ≠ 0) (hl : i < ρ.length) (st : StOk pn (FL F B) T H σ ρ) (nd : B.Nodup) (off : ∀ x ∈ B, ¬ F x) (hc : Cels (hid (SF (FL F B) T) H) H [v] [c] B) :
    ∃ T', StOk pn F T' H (σ.set i (some v)) (ρ.set i (toSl c)) ∧ Ex (hid (SF (FL F B) T) H) (hid (SF F T') H) := by
  cases hc with
  | dat r n =>
    cases n
    rw [FL_nil] at st r ⊢
    obtain ⟨st', s⟩ := st.set hi r
    exact ⟨_, st', s.vis⟩
  | sub hb r n =>
    cases n
    obtain ⟨st', vis⟩ := st.own (i := i) hi hl ⟨_, _, [], rfl, hb, Cels.dats r, rfl⟩ nd off
    exact ⟨_, st', vis⟩
theorem ss_par {i j : Nat} {ts : TA} {as : XWC} (hi : i ≠ 0) (hj : j ≠ 0) (hs : SWC ts as) : SS (tPar i j ts) (sPar i j as) := fun pn F T H σ ρ o D st e q => by
  obtain ⟨⟨cs, ρ1⟩, h1, e⟩ := bind_some e
  obtain ⟨⟨c, d⟩, h2, e⟩ := bind_some e
  have ec : cs = _ := two_eq h2
  subst ec
  · skip
    by_cases hl : i < ρ1.length ∧ j < ρ1.length
    · rw [if_pos hl] at e
      cases e
      refine hs pn F T H σ ρ _ ρ1 st h1 _ fun vs B T1 H1 st1 nd off fr vis hc => ?_
      obtain ⟨v, w, rfl⟩ : ∃ v w, vs = [v, w] := by
        have := hc.length
        match vs, this with
        | [v, w], _ => exact ⟨v, w, rfl⟩
      refine ⟨v, w, rfl, ?_⟩
      -- split the addresses
      have split : ∃ B1 B2, B = B1 ++ B2 ∧ Cels (hid (SF (FL F B) T1) H1) H1 [v] [c] B1 ∧ Cels (hid (SF (FL F B) T1) H1) H1 [w] [d] B2 := by
        cases hc with
        | dat r n => exact ⟨[], B, rfl, .dat r .nil, n⟩
        | sub hb r n => exact ⟨[_], _, rfl, .sub hb r .nil, n⟩
      obtain ⟨B1, B2, rfl, c1, c2⟩ := split
      have eF : FL F (B1 ++ B2) = FL (FL F B2) B1 := by rw [FL_app]; exact FL_perm fun x => by simp [or_comm]
      rw [eF] at st1 c1 c2 vis
      have nds := List.nodup_append.mp nd
      obtain ⟨T2, st2, vis2⟩ := StOk.cel (F := FL F B2) hi hl.1 st1 nds.1 (fun x hx z => z.elim (off x (List.mem_append_left _ hx)) fun z => nds.2.2 x hx x z rfl) c1
      have c2' := c2.mv vis2 fun x hx => (rfl : H1 x = H1 x)
      obtain ⟨T3, st3, vis3⟩ := StOk.cel (F := F) hj (by rw [List.length_set]; exact hl.2) st2 nds.2.1 (fun x hx => off x (List.mem_append_right _ hx)) c2'
      exact q _ T3 H1 st3 ⟨fr, (vis.trans vis2).trans vis3⟩
    · rw [if_neg hl] at e; cases e
end
section
variable {G H : Hp}
theorem Cels.snoc : ∀ {vs : List V} {cs : List Cel} {B : List Addr} {v : V} {d : PD}, Cels G H vs cs B → Rp G v d → Cels G H (vs ++ [v]) (cs ++ [.dat d]) B
  | _, _, _, _, _, .nil, r => .dat r .nil
  | _, _, _, _, _, .dat h c, r => .dat h (c.snoc r)
  | _, _, _, _, _, .sub h1 h2 c, r => .sub h1 h2 (c.snoc r)
theorem Cels.ins : ∀ (n : Nat) {vs : List V} {cs : List Cel} {B : List Addr} {v : V} {d : PD}, Cels G H vs cs B → Rp G v d → Cels G H (vs.take n ++ [v] ++ vs.drop n) (cs.take n ++ [.dat d] ++ cs.drop n) B
  | 0, _, _, _, _, _, c, r => by simpa using Cels.dat r c
  | n + 1, _, _, _, _, _, .nil, r => by simpa using Cels.dat r .nil
  | n + 1, _, _, _, _, _, .dat h c, r => by simpa using Cels.dat h (c.ins n r)
  | n + 1, _, _, _, _, _, .sub h1 h2 c, r => by simpa using Cels.sub h1 h2 (c.ins n r)
theorem Cels.set : ∀ (n : Nat) {vs : List V} {cs : List Cel} {B : List Addr} {v : V} {d d0 : PD}, Cels G H vs cs B → cs[n]? = some (.dat d0) → Rp G v d → Cels G H (vs.set n v) (cs.set n (.dat d)) B
  | _, _, _, _, _, _, _, .nil, h, _ => by simp at h
  | 0, _, _, _, _, _, _, .dat _ c, _, r => by simpa using Cels.dat r c
  | 0, _, _, _, _, _, _, .sub _ _ c, h, r => by simp at h
  | n + 1, _, _, _, _, _, _, .dat h0 c, h, r => by simpa using Cels.dat h0 (c.set n (by simpa using h) r)
  | n + 1, _, _, _, _, _, _, .sub h1 h2 c, h, r => by simpa using Cels.sub h1 h2 (c.set n (by simpa using h) r)
theorem Cels.erase : ∀ (n : Nat) {vs : List V} {cs : List Cel} {B : List Addr} {d0 : PD}, Cels G H vs cs B → cs[n]? = some (.dat d0) → Cels G H (vs.eraseIdx n) (cs.eraseIdx n) B ∧ ∃ v, vs[n]? = some v ∧ Rp G v d0
  | _, _, _, _, _, .nil, h => by simp at h
  | 0, _, _, _, _, .dat r c, h => by
    cases Option.some.inj (show some (Cel.dat _) = some (Cel.dat _) from h)
    exact ⟨by simpa using c, _, rfl, r⟩
  | 0, _, _, _, _, .sub _ _ c, h => by simp at h
  | n + 1, _, _, _, _, .dat h0 c, h => by
    obtain ⟨c1, v, e, r⟩ := c.erase n (by simpa using h)
    exact ⟨by simpa using Cels.dat h0 c1, v, by simpa using e, r⟩
  | n + 1, _, _, _, _, .sub h1 h2 c, h => by
    obtain ⟨c1, v, e, r⟩ := c.erase n (by simpa using h)
    exact ⟨by simpa using Cels.sub h1 h2 c1, v, by simpa using e, r⟩
theorem Cels.inner : ∀ (n : Nat) {vs : List V} {cs : List Cel} {B : List Addr} {ds : List PD}, Cels G H vs cs B → B.Nodup → cs[n]? = some (.sub ds) → ∃ b ws, vs[n]? = some (.ref b) ∧ b ∈ B ∧ H b = some (.lst ws) ∧ RpAll G ws ds ∧
    ∀ (ws' : List V) (ds' : List PD), RpAll G ws' ds' → Cels G (upd H b (.lst ws')) vs (cs.set n (.sub ds')) B
  | _, _, _, _, _, .nil, _, h => by simp at h
  | 0, _, _, _, _, .dat _ c, _, h => by simp at h
  | 0, _, _, _, _, .sub (b := b) hb r c, nd, h => by
    cases Option.some.inj (show some (Cel.sub _) = some (Cel.sub _) from h)
    refine ⟨_, _, rfl, List.mem_cons_self .., hb, r, fun ws' ds' r' => ?_⟩
    have hn := (List.nodup_cons.mp nd).1
    simpa using Cels.sub upd_same r' (c.mv (Ex.refl _) fun x hx => upd_ne fun z => hn (by rw [← z]; exact hx))
  | n + 1, _, _, _, _, .dat h0 c, nd, h => by
    obtain ⟨b, ws, e1, e2, e3, e4, f⟩ := c.inner n nd (by simpa using h)
    exact ⟨b, ws, by simpa using e1, e2, e3, e4, fun ws' ds' r' => by simpa using Cels.dat h0 (f ws' ds' r')⟩
  | n + 1, _, _, _, _, .sub (b := b0) h1 h2 c, nd, h => by
    obtain ⟨hn, nd'⟩ := List.nodup_cons.mp nd
    obtain ⟨b, ws, e1, e2, e3, e4, f⟩ := c.inner n nd' (by simpa using h)
    exact ⟨b, ws, by simpa using e1, List.mem_cons_of_mem _ e2, e3, e4, fun ws' ds' r' => by simpa using Cels.sub (by rw [upd_ne fun z => hn (by rw [z]; exact e2)]; exact h1) h2 (f ws' ds' r')⟩
end
section
variable {pn : Option V} {F : Hs} {T : Trs} {H : Hp} {σ : L2.St} {ρ : Env}
theorem StOk.writeSub (st : StOk pn F T H σ ρ) {i n : Nat} {cs : List Cel} {ds ds' : List PD} (hi : ρ[i]? = some (.own cs)) (hn : cs[n]? = some (.sub ds)) : ∃ a vs b ws, σ[i]? = some (some (.ref a)) ∧ H a = some (.lst vs) ∧ vs[n]? = some (.ref b) ∧ vs.length = cs.length ∧ H b = some (.lst ws) ∧ RpAll (hid (SF F T) H) ws ds ∧
    ∀ ws' ds', RpAll (hid (SF F T) H) ws' ds' → StOk pn F T (upd H b (.lst ws')) σ (ρ.set i (.own (cs.set n (.sub ds')))) ∧ Stp F T H T (upd H b (.lst ws')) := by
  obtain ⟨a, vs, B, h1, h2, h3, h4⟩ := st.at_own hi
  have ndA := st.nd i
  rw [h4] at ndA
  obtain ⟨haB, ndB⟩ := List.nodup_cons.mp ndA
  obtain ⟨b, ws, e1, e2, e3, e4, f⟩ := h3.inner n ndB hn
  refine ⟨a, vs, b, ws, h1, h2, e1, h3.length, e3, e4, fun ws' ds' r' => ?_⟩
  have hb : b ∈ T i := by rw [h4]; exact List.mem_cons_of_mem _ e2
  have hS : SF F T b := .inr ⟨i, hb⟩
  have vis : Ex (hid (SF F T) H) (hid (SF F T) (upd H b (.lst ws'))) := fun x o h => by
    obtain ⟨c, h⟩ := hid_some h
    rw [hid_out c, upd_ne (fun z => c (by rw [z]; exact hS))]
    exact h
  have ne : ∀ x, x ≠ b → upd H b (.lst ws') x = H x := fun x h => upd_ne h
  refine ⟨⟨by rw [List.length_set]; exact st.len, fun x h => ?_, st.off, st.dis, st.nd, fun j hj => st.out j (by rw [List.length_set] at hj; exact hj), fun j q hq => ?_, st.pin⟩, ⟨fun x h => ne x fun z => st.off i b hb (by rw [← z]; exact h), vis⟩⟩
  · rw [ne x fun z => st.off i b hb (by rw [← z]; exact h)]
    exact st.al x h
  · by_cases c : i = j
    · subst c
      have hl : i < ρ.length := (List.getElem?_eq_some_iff.mp hi).1
      rw [List.getElem?_set_self hl] at hq
      cases hq
      refine ⟨_, h1, .ref a, rfl, a, vs, B, rfl, by rw [ne a fun z => haB (by rw [z]; exact e2)]; exact h2, (f ws' ds' r').mv vis fun x _ => rfl, h4⟩
    · rw [List.getElem?_set_ne c] at hq
      obtain ⟨o', h5, h6⟩ := st.sl j q hq
      exact ⟨o', h5, h6.mv vis fun x hx => ne x fun z => c (st.dis i j b hb (by rw [← z]; exact hx))⟩
end
def sApp (i : Nat) (a : XW) : XS := fun ρ => (ownAt ρ i).bind fun _ => (a ρ).bind fun x => (ownAt x.2 i).bind fun cs => if cs.length < 100000 then some (.nxt (x.2.set i (.own (cs ++ [.dat x.1])))) else none
def sExt (i : Nat) (a : XW) : XS := fun ρ => (ownAt ρ i).bind fun _ => (a ρ).bind fun x => (asList x.1).bind fun ds => (ownAt x.2 i).bind fun cs => if cs.length + ds.length ≤ 100000 then some (.nxt (x.2.set i (.own (cs ++ ds.map Cel.dat)))) else none
def isI : PD → Option Int
  | .int i => some i
  | _ => none
theorem isI_eq {d : PD} {i : Int} (h : isI d = some i) : d = .int i := by
  cases d with
  | int c => cases h; rfl
  | _ => cases h
def insA : List PD → Option (Int × PD)
  | [.int k, d] => some (k, d)
  | _ => none
def sIns (i : Nat) (as : XWA) : XS := fun ρ => (ownAt ρ i).bind fun _ => (as ρ).bind fun x => (insA x.1).bind fun kd => (ownAt x.2 i).bind fun cs => if cs.length < 100000 ∧ 0 ≤ kd.1 ∧ kd.1 < 2 ^ 63 then some (.nxt (x.2.set i (.own (cs.take kd.1.toNat ++ [.dat kd.2] ++ cs.drop kd.1.toNat)))) else none
def datAt (cs : List Cel) (n : Nat) : Option PD := match cs[n]? with
  | some (.dat d) => some d
  | _ => none
theorem datAt_eq {cs : List Cel} {n : Nat} {d : PD} (h : datAt cs n = some d) : cs[n]? = some (.dat d) := by
  unfold datAt at h
  split at h
  · rename_i e; cases h; exact e
  · cases h
def subAt (cs : List Cel) (n : Nat) : Option (List PD) := match cs[n]? with
  | some (.sub d) => some d
  | _ => none
def wPop (i : Nat) (a : XW) : XW := fun ρ => (ownAt ρ i).bind fun _ => (a ρ).bind fun x => (isI x.1).bind fun k => (ownAt x.2 i).bind fun cs => if -(2 ^ 63) ≤ k ∧ k < 2 ^ 63 then (ixN cs.length k).bind fun n => (datAt cs n).bind fun d => some (d, x.2.set i (.own (cs.eraseIdx n))) else none
def sSet (i : Nat) (k : XE) (a : XW) : XS := fun ρ => (a ρ).bind fun x => (ownAt x.2 i).bind fun cs => ((k (vw x.2)).bind isI).bind fun k => (ixN cs.length k).bind fun n => (datAt cs n).bind fun _ => some (.nxt (x.2.set i (.own (cs.set n (.dat x.1)))))
def sSetS (i : Nat) (k j : XE) (a : XW) : XS := fun ρ => (a ρ).bind fun x => (ownAt x.2 i).bind fun cs => ((k (vw x.2)).bind isI).bind fun k => (ixN cs.length k).bind fun n => (subAt cs n).bind fun ds => ((j (vw x.2)).bind isI).bind fun j => (ixN ds.length j).bind fun m => some (.nxt (x.2.set i (.own (cs.set n (.sub (ds.set m x.1))))))
def sPopS (i : Nat) (k j : XE) : XS := fun ρ => (ownAt ρ i).bind fun cs => ((k (vw ρ)).bind isI).bind fun k => (ixN cs.length k).bind fun n => (subAt cs n).bind fun ds => ((j (vw ρ)).bind isI).bind fun j => if -(2 ^ 63) ≤ j ∧ j < 2 ^ 63 then (ixN ds.length j).bind fun m => some (.nxt (ρ.set i (.own (cs.set n (.sub (ds.eraseIdx m)))))) else none
section
variable {te tk tj : TE} {w : XW} {k j : XE}
theorem RpAll.erase {G : Hp} : ∀ {vs : List V} {ds : List PD} (n : Nat), RpAll G vs ds → RpAll G (vs.eraseIdx n) (ds.eraseIdx n)
  | _, _, _, .nil => by simpa using RpAll.nil
  | _, _, 0, .cons _ r => by simpa using r
  | _, _, n + 1, .cons h r => by simpa using RpAll.cons h (r.erase n)
theorem ss_app {i : Nat} (h : SW te w) : SS (tDrop (tBM K "list" rAppend (tVar i) (tCons te tNil))) (sApp i w) := fun pn F T H σ ρ o D st e q => by
  obtain ⟨c0, h0, e⟩ := bind_some e
  obtain ⟨⟨d, ρ1⟩, h1, e⟩ := bind_some e
  obtain ⟨cs, h2, e⟩ := bind_some e
  by_cases hl : cs.length < 100000
  · rw [if_pos hl] at e
    cases e
    obtain ⟨a, vs, B, ha, hv, _⟩ := st.at_own (ownAt_eq h0)
    refine ⟨.ref a, ha, .inl ⟨rfl, _, .inl (.inl hv)⟩, h pn F T H σ ρ d ρ1 st h1 _ fun v T1 H1 st1 s1 rv => ?_⟩
    obtain ⟨a', vs', B', ha', hv', hc', hT⟩ := st1.at_own (ownAt_eq h2)
    have ea : a' = a := by rw [ha'] at ha; cases ha; rfl
    subst ea
    obtain ⟨st2, s2⟩ := st1.write (ownAt_eq h2) hT ha' (hc'.snoc rv)
    exact ⟨a', vs', v, rfl, rfl, hv', by rw [hc'.length]; exact Evl.sz_lt hl, q σ T1 _ st2 (s1.trans s2)⟩
  · rw [if_neg hl] at e; cases e
theorem sw_pop {i : Nat} (h : SW te w) : SW (tBM K "list" rPopAt (tVar i) (tCons te tNil)) (wPop i w) := fun pn F T H σ ρ d ρ' st e Q q => by
  obtain ⟨c0, h0, e⟩ := bind_some e
  obtain ⟨⟨dk, ρ1⟩, h1, e⟩ := bind_some e
  obtain ⟨kk, hk, e⟩ := bind_some e
  obtain ⟨cs, h2, e⟩ := bind_some e
  by_cases hl : -(2 ^ 63) ≤ kk ∧ kk < 2 ^ 63
  · rw [if_pos hl] at e
    obtain ⟨n, hn, e⟩ := bind_some e
    obtain ⟨d1, hd, e⟩ := bind_some e
    cases e
    have ed : dk = _ := isI_eq hk
    subst ed
    obtain ⟨a, vs, B, ha, hv, _⟩ := st.at_own (ownAt_eq h0)
    refine ⟨.ref a, ha, .inl ⟨rfl, _, .inl (.inl hv)⟩, h pn F T H σ ρ _ ρ1 st h1 _ fun v T1 H1 st1 s1 rv => ?_⟩
    obtain ⟨a', vs', B', ha', hv', hc', hT⟩ := st1.at_own (ownAt_eq h2)
    have ea : a' = a := by rw [ha'] at ha; cases ha; rfl
    subst ea
    cases rv
    obtain ⟨hc2, y, hy, ry⟩ := hc'.erase n (datAt_eq hd)
    obtain ⟨st2, s2⟩ := st1.write (ownAt_eq h2) hT ha' hc2
    refine ⟨a', vs', kk, n, y, rfl, rfl, hv', hl.1, hl.2, (ixN_seq (by rw [hc'.length]; exact hn)).1, hy, q y T1 _ st2 (s1.trans s2) (ry.ex s2.vis)⟩
  · rw [if_neg hl] at e; cases e
theorem ss_set {i : Nat} (hk : SE tk k) (h : SW te w) : SS (tAsg te (gSub (tVar i) tk rSetL)) (sSet i k w) := fun pn F T H σ ρ o D st e q => by
  obtain ⟨⟨d, ρ1⟩, h1, e⟩ := bind_some e
  obtain ⟨cs, h2, e⟩ := bind_some e
  obtain ⟨kk, h3, e⟩ := bind_some e
  obtain ⟨dk, h3, h4⟩ := bind_some h3
  obtain ⟨n, hn, e⟩ := bind_some e
  obtain ⟨d0, hd, e⟩ := bind_some e
  cases e
  have ed : dk = _ := isI_eq h4
  subst ed
  refine h pn F T H σ ρ d ρ1 st h1 _ fun v T1 H1 st1 s1 rv => ?_
  obtain ⟨a', vs', B', ha', hv', hc', hT⟩ := st1.at_own (ownAt_eq h2)
  refine ⟨.ref a', ha', hk _ _ h3 F σ H1 st1.al st1.vw _ fun vk H2 e2 rk => ?_⟩
  cases rk
  have st2 := st1.ex e2
  have s2 : Stp F T1 H1 T1 H2 := Stp.ex st1.al e2
  obtain ⟨a2, vs2, B2, ha2, hv2, hc2, hT2⟩ := st2.at_own (ownAt_eq h2)
  have ea : a2 = a' := by rw [ha2] at ha'; cases ha'; rfl
  subst ea
  obtain ⟨st3, s3⟩ := st2.write (ownAt_eq h2) hT2 ha2 (hc2.set n (datAt_eq hd) (rv.ex s2.vis))
  exact ⟨a2, vs2, kk, n, rfl, rfl, hv2, by rw [hc2.length]; exact hn, q σ T1 _ st3 ((s1.trans s2).trans s3)⟩
end
end Uv

namespace Uv
open PySem PySem.Spec PyProof.Rows L2
open Evl (Ex)
variable [kk : KK]
def forGo (g : XG) (b : XS) : List PD → Env → Option Out
  | [], ρ => some (.nxt ρ)
  | x :: xs, ρ => (g x ρ).bind fun ρ1 => (b ρ1).bind fun o => match o with
    | .nxt ρ2 => forGo g b xs ρ2
    | .cnt ρ2 => forGo g b xs ρ2
    | .brk ρ2 => some (.nxt ρ2)
    | .ret d ρ2 => some (.ret d ρ2)
    | .retO d ρ2 => some (.retO d ρ2)
def sFor (src : XWI) (g : XG) (b : XS) : XS := fun ρ => (src ρ).bind fun x => forGo g b x.1 x.2
theorem ss_for {bb : Bool} {wi : TI} {g : TG} {tb : TS} {vs : List Nat} {src : XWI} {xg : XG} {b : XS} (hs : SWI bb wi src) (hg : SG bb g xg vs) (hb : SS tb b) : SS (tFor wi g tb) (sFor src xg b) := fun pn F T H σ ρ o D st e q => by
  obtain ⟨⟨xs, ρ1⟩, h1, e⟩ := bind_some e
  have e : forGo xg b xs ρ1 = some o := e
  refine hs pn F T H σ ρ xs ρ1 st h1 _ fun J T1 H1 st1 s1 wk => ?_
  refine ⟨fun i m σ' H' => m = xs.length - i ∧ i ≤ xs.length ∧ ∃ T' ρ', StOk pn F T' H' σ' ρ' ∧ Stp F T1 H1 T' H' ∧ forGo xg b (xs.drop i) ρ' = some o, ⟨_, rfl, Nat.zero_le _, T1, ρ1, st1, Stp.refl, e⟩, fun i m σ' H' hw => ?_⟩
  obtain ⟨rfl, hi, T', ρ', st', s', hgo⟩ := hw
  obtain ⟨w1, w2⟩ := wk _ H' s'.vis st'.als
  by_cases hlt : i < xs.length
  · obtain ⟨w3, w4⟩ := w2 i _ (List.getElem?_eq_getElem hlt)
    rw [List.drop_eq_getElem_cons hlt] at hgo
    obtain ⟨ρ2, g1, hgo⟩ := bind_some (show (xg xs[i] ρ').bind _ = some o from hgo)
    obtain ⟨o2, b1, hgo⟩ := bind_some hgo
    refine .inr ⟨w3, fun σ2 H2 => ∃ T2 ρ2, StOk pn F T2 H2 σ2 ρ2 ∧ Stp F T1 H1 T2 H2 ∧ forGo xg b (xs.drop (i + 1)) ρ2 = some o, fun σ2 H2 hn => ⟨_, by omega, rfl, hlt, hn⟩, fun v H3 y => ?_⟩
    obtain ⟨e3, rv⟩ := w4 v H3 y
    have st3 := st'.ex e3
    have s3 : Stp F T' H' T' H3 := Stp.ex st'.al e3
    refine hg pn F T' H3 σ' v _ ρ' ρ2 st3 g1 rv _ fun σ4 T4 st4 s4 _ => ?_
    have s14 := (s'.trans s3).trans s4
    cases o2 with
    | nxt ρ5 => exact hb pn F T4 H3 σ4 ρ2 _ _ st4 b1 fun σ5 T5 H5 st5 s5 => ⟨T5, ρ5, st5, s14.trans s5, hgo⟩
    | cnt ρ5 => exact hb pn F T4 H3 σ4 ρ2 _ _ st4 b1 fun σ5 T5 H5 st5 s5 => ⟨T5, ρ5, st5, s14.trans s5, hgo⟩
    | brk ρ5 =>
      cases hgo
      exact hb pn F T4 H3 σ4 ρ2 _ _ st4 b1 fun σ5 T5 H5 st5 s5 => q σ5 T5 H5 st5 (s1.trans (s14.trans s5))
    | ret d ρ5 =>
      cases hgo
      exact hb pn F T4 H3 σ4 ρ2 _ _ st4 b1 (OutOk.on (fun _ z => nomatch z) (fun _ z => nomatch z) (fun _ z => nomatch z) (q.step (s1.trans s14)))
    | retO d ρ5 =>
      cases hgo
      exact hb pn F T4 H3 σ4 ρ2 _ _ st4 b1 (OutOk.on (fun _ z => nomatch z) (fun _ z => nomatch z) (fun _ z => nomatch z) (q.step (s1.trans s14)))
  · have ei : i = xs.length := by omega
    subst ei
    rw [List.drop_length] at hgo
    cases hgo
    exact .inl ⟨w1, q σ' T' H' st' (s1.trans s')⟩
def whGo (c : XWT) (b : XS) : Nat → Env → Option Out
  | 0, _ => none
  | n + 1, ρ => (c ρ).bind fun k => if k.1 = true then (b k.2).bind fun o => match o with
    | .nxt ρ2 => whGo c b n ρ2
    | .cnt ρ2 => whGo c b n ρ2
    | .brk ρ2 => some (.nxt ρ2)
    | .ret d ρ2 => some (.ret d ρ2)
    | .retO d ρ2 => some (.retO d ρ2)
    else some (.nxt k.2)
def fuel : Nat := 100000
theorem fuel_lt {k : Nat} (h : k < 100000) : k < fuel := h
def sWhile (n : Nat) (c : XWT) (b : XS) : XS := whGo c b n
theorem ss_while {n : Nat} {ct : TT} {tb : TS} {c : XWT} {b : XS} (hc : SWT ct c) (hb : SS tb b) : SS (tWhile ct tb) (sWhile n c b) := fun pn F T H σ ρ o D st e q => by
  refine ⟨fun m σ' H' => ∃ T' ρ', StOk pn F T' H' σ' ρ' ∧ Stp F T H T' H' ∧ whGo c b m ρ' = some o, ⟨n, T, ρ, st, Stp.refl, e⟩, fun m σ' H' hw => ?_⟩
  obtain ⟨T', ρ', st', s', hgo⟩ := hw
  cases m with
  | zero => cases hgo
  | succ m =>
    obtain ⟨⟨k, ρ1⟩, h1, hgo⟩ := bind_some (show (c ρ').bind _ = some o from hgo)
    refine hc pn F T' H' σ' ρ' k ρ1 st' h1 _ fun T1 H1 st1 s1 => ?_
    cases k with
    | false => cases hgo; exact iteF (q σ' T1 H1 st1 (s'.trans s1))
    | true =>
      obtain ⟨o2, b1, hgo⟩ := bind_some (show (b ρ1).bind _ = some o from hgo)
      refine iteT ⟨fun σ2 H2 => ∃ T2 ρ2, StOk pn F T2 H2 σ2 ρ2 ∧ Stp F T H T2 H2 ∧ whGo c b m ρ2 = some o, fun σ2 H2 hn => ⟨m, Nat.lt_succ_self _, hn⟩, ?_⟩
      have s2 := s'.trans s1
      cases o2 with
      | nxt ρ5 => exact hb pn F T1 H1 σ' ρ1 _ _ st1 b1 fun σ5 T5 H5 st5 s5 => ⟨T5, ρ5, st5, s2.trans s5, hgo⟩
      | cnt ρ5 => exact hb pn F T1 H1 σ' ρ1 _ _ st1 b1 fun σ5 T5 H5 st5 s5 => ⟨T5, ρ5, st5, s2.trans s5, hgo⟩
      | brk ρ5 =>
        cases hgo
        exact hb pn F T1 H1 σ' ρ1 _ _ st1 b1 fun σ5 T5 H5 st5 s5 => q σ5 T5 H5 st5 (s2.trans s5)
      | ret d ρ5 =>
        cases hgo
        exact hb pn F T1 H1 σ' ρ1 _ _ st1 b1 (OutOk.on (fun _ z => nomatch z) (fun _ z => nomatch z) (fun _ z => nomatch z) (q.step s2))
      | retO d ρ5 =>
        cases hgo
        exact hb pn F T1 H1 σ' ρ1 _ _ st1 b1 (OutOk.on (fun _ z => nomatch z) (fun _ z => nomatch z) (fun _ z => nomatch z) (q.step s2))
def fzE (ρ : Env) (i : Nat) : Env := match ρ[i]? with
  | some (.own cs) => ρ.set i (.dat (.list (cs.map Cel.pd)))
  | _ => ρ
def sFz (i : Nat) (y : XS) : XS := fun ρ => y (fzE ρ i)
theorem StOk.fz1 {pn : Option V} {F : Hs} {T : Trs} {H : Hp} {σ : L2.St} {ρ : Env} (st : StOk pn F T H σ ρ) (i : Nat) : ∃ T', StOk pn F T' H σ (fzE ρ i) ∧ Stp F T H T' H := by
  unfold fzE
  cases hi : ρ[i]? with
  | none => exact ⟨T, st, Stp.refl⟩
  | some s =>
    cases s with
    | un => exact ⟨T, st, Stp.refl⟩
    | dat d => exact ⟨T, st, Stp.refl⟩
    | dic l => exact ⟨T, st, Stp.refl⟩
    | own cs =>
      have sub : Ex (hid (SF F T) H) (hid (SF F (setT T i [])) H) := hid_sub SF_setT_nil
      have mem : ∀ j x, x ∈ setT T i [] j → x ∈ T j ∧ j ≠ i := fun j x h => by
        by_cases c : j = i
        · subst c; rw [setT_same] at h; cases h
        · rw [setT_ne c] at h; exact ⟨h, c⟩
      refine ⟨setT T i [], ⟨by rw [List.length_set]; exact st.len, st.al, fun j x h => st.off j x (mem j x h).1, fun j k x h h' => st.dis j k x (mem j x h).1 (mem k x h').1, fun j => ?_, fun j hj => ?_, fun j q hq => ?_, st.pin⟩, ⟨fun _ _ => rfl, sub⟩⟩
      · by_cases c : j = i
        · subst c; rw [setT_same]; exact List.nodup_nil
        · rw [setT_ne c]; exact st.nd j
      · rw [List.length_set] at hj
        by_cases c : j = i
        · subst c; rw [setT_same]
        · rw [setT_ne c]; exact st.out j hj
      · by_cases c : i = j
        · subst c
          have hl : i < ρ.length := (List.getElem?_eq_some_iff.mp hi).1
          rw [List.getElem?_set_self hl] at hq
          cases hq
          obtain ⟨o, h1, v, rfl, ow⟩ := st.sl i _ hi
          rw [setT_same]
          refine ⟨_, h1, rfl, v, rfl, ow.rp sub fun x hx => hid_out ?_⟩
          rintro (z | ⟨j, z⟩)
          · exact st.off i x hx z
          · obtain ⟨z1, z2⟩ := mem j x z
            exact z2 (st.dis j i x z1 hx)
        · rw [List.getElem?_set_ne c] at hq
          obtain ⟨o', h1, h2⟩ := st.sl j q hq
          rw [setT_ne (fun z => c z.symm)]
          exact ⟨o', h1, h2.mv sub fun _ _ => rfl⟩
theorem ss_fz {i : Nat} {t : TS} {y : XS} (h : SS t y) : SS t (sFz i y) := fun pn F T H σ ρ o D st e q => by
  obtain ⟨T', st', s'⟩ := st.fz1 i
  exact h pn F T' H σ _ o D st' e (q.step s')
def clearE (ρ : Env) : List Nat → Env
  | [] => ρ
  | v :: vs => (clearE ρ vs).set v .un
def keepD : Option Sl → Sl
  | some (.dat d) => .dat d
  | _ => .un
def backE (ρ1 ρ : Env) : List Nat → Env
  | [] => ρ
  | v :: vs => (backE ρ1 ρ vs).set v (keepD ρ1[v]?)
theorem StOk.clear {pn : Option V} {F : Hs} {H : Hp} {σ : L2.St} {ρ : Env} : ∀ {T : Trs} (vs : List Nat), 0 ∉ vs → StOk pn F T H σ ρ → ∃ T', StOk pn F T' H (wipe σ vs) (clearE ρ vs) ∧ Stp F T H T' H
  | T, [], _, st => ⟨T, st, Stp.refl⟩
  | T, v :: vs, h0, st => by
    obtain ⟨T1, st1, s1⟩ := StOk.clear vs (fun z => h0 (List.mem_cons_of_mem _ z)) st
    obtain ⟨st2, s2⟩ := st1.drop (i := v) (o := none) (s := .un) (fun z => h0 (by rw [z]; exact List.mem_cons_self ..)) rfl
    exact ⟨_, st2, s1.trans s2⟩
theorem clearE_len {ρ : Env} : ∀ vs : List Nat, (clearE ρ vs).length = ρ.length
  | [] => rfl
  | v :: vs => by unfold clearE; rw [List.length_set, clearE_len vs]
theorem backE_len {ρ1 ρ : Env} : ∀ vs : List Nat, (backE ρ1 ρ vs).length = ρ.length
  | [] => rfl
  | v :: vs => by unfold backE; rw [List.length_set, backE_len vs]
theorem clearE_off {ρ : Env} {i : Nat} : ∀ {vs : List Nat}, i ∉ vs → (clearE ρ vs)[i]? = ρ[i]?
  | [], _ => rfl
  | v :: vs, h => by
    unfold clearE
    rw [List.getElem?_set_ne (fun z => h (by rw [← z]; exact List.mem_cons_self ..))]
    exact clearE_off fun z => h (List.mem_cons_of_mem _ z)
theorem clearE_at {ρ : Env} {i : Nat} : ∀ {vs : List Nat}, i ∈ vs → i < ρ.length → (clearE ρ vs)[i]? = some .un
  | v :: vs, h, hl => by
    unfold clearE
    by_cases c : v = i
    · subst c; exact List.getElem?_set_self (by rw [clearE_len]; exact hl)
    · rw [List.getElem?_set_ne c]
      exact clearE_at ((List.mem_cons.mp h).resolve_left fun z => c z.symm) hl
theorem backE_off {ρ1 ρ : Env} {i : Nat} : ∀ {vs : List Nat}, i ∉ vs → (backE ρ1 ρ vs)[i]? = ρ[i]?
  | [], _ => rfl
  | v :: vs, h => by
    unfold backE
    rw [List.getElem?_set_ne (fun z => h (by rw [← z]; exact List.mem_cons_self ..))]
    exact backE_off fun z => h (List.mem_cons_of_mem _ z)
theorem backE_at {ρ1 ρ : Env} {i : Nat} : ∀ {vs : List Nat}, i ∈ vs → i < ρ.length → (backE ρ1 ρ vs)[i]? = some (keepD ρ1[i]?)
  | v :: vs, h, hl => by
    unfold backE
    by_cases c : v = i
    · subst c; exact List.getElem?_set_self (by rw [backE_len]; exact hl)
    · rw [List.getElem?_set_ne c]
      exact backE_at ((List.mem_cons.mp h).resolve_left fun z => c z.symm) hl
def wlGo (g : XG) (t : XWT) (e : XW) (vs : List Nat) : List PD → Env → Option (List PD × Env)
  | [], ρ => some ([], ρ)
  | x :: xs, ρ => (g x (clearE ρ vs)).bind fun ρ1 => (t ρ1).bind fun b => if b.1 = true then (e b.2).bind fun d => (wlGo g t e vs xs d.2).bind fun r => some (d.1 :: r.1, r.2) else wlGo g t e vs xs b.2
def wLc (src : XWI) (g : XG) (t : XWT) (e : XW) (vs : List Nat) : XWO := fun ρ => (src ρ).bind fun x => if x.1.length ≤ 40000 then (wlGo g t e vs x.1 x.2).bind fun r => some (r.1.map Cel.dat, backE x.2 r.2 vs) else none
theorem wl_step {g : XG} {t : XWT} {e : XW} {vs : List Nat} {ρ : Env} {x : PD} {xs : List PD} {r : List PD × Env} (h : wlGo g t e vs (x :: xs) ρ = some r) : ∃ ρ1 b ρ2, g x (clearE ρ vs) = some ρ1 ∧ t ρ1 = some (b, ρ2) ∧ ((b = true ∧ ∃ d ρ3 r', e ρ2 = some (d, ρ3) ∧ wlGo g t e vs xs ρ3 = some r' ∧ r = (d :: r'.1, r'.2)) ∨ (b = false ∧ wlGo g t e vs xs ρ2 = some r)) := by
  obtain ⟨ρ1, h1, h⟩ := bind_some (show (g x (clearE ρ vs)).bind _ = some r from h)
  obtain ⟨⟨b, ρ2⟩, h2, h⟩ := bind_some h
  refine ⟨ρ1, b, ρ2, h1, h2, ?_⟩
  cases b with
  | true =>
    obtain ⟨⟨d, ρ3⟩, h3, h⟩ := bind_some (show (e ρ2).bind _ = some r from h)
    obtain ⟨r', h4, h⟩ := bind_some h
    cases h
    exact .inl ⟨rfl, d, ρ3, r', h3, h4, rfl⟩
  | false => exact .inr ⟨rfl, h⟩
theorem swo_lc {b : Bool} {wi : TI} {g : TG} {tt : TT} {te : TE} {vs us : List Nat} {src : XWI} {xg : XG} {t : XWT} {e : XW} (hs : SWI b wi src) (hg : SG b g xg us) (hu : ∀ i ∈ us, i ∈ vs) (h0 : 0 ∉ vs) (ht : SWT tt t) (he : SW te e) : SWO (tLc wi g tt te vs) (wLc src xg t e vs) := fun pn F T H σ ρ cs ρ' st hh Q q => by
  obtain ⟨⟨xs, ρ1⟩, h1, hh⟩ := bind_some hh
  by_cases hz : xs.length ≤ 40000
  · rw [if_pos hz] at hh
    obtain ⟨r, h2, hh⟩ := bind_some hh
    have h2 : wlGo xg t e vs xs ρ1 = some r := h2
    cases hh
    refine hs pn F T H σ ρ xs ρ1 st h1 _ fun J T1 H1 st1 s1 wk D hD => ?_
    have alD : ∀ {H' : Hp} {v : HO}, H' D = some v → H' D ≠ none := fun e z => by rw [e] at z; cases z
    obtain ⟨st2, vis2⟩ := st1.fresh (Ex.new (o := .lst []) hD) hD (by rw [upd_same]; exact fun z => nomatch z)
    obtain ⟨T3, st3, s3⟩ := st2.clear vs h0
    have npF : ∀ x, F x → x ≠ D := fun x hx z => by
      have := st1.al x hx
      rw [z, hD] at this
      exact this rfl
    refine ⟨fun i m H' => m = xs.length - i ∧ i ≤ xs.length ∧ ∃ T' ρ' acc ds1 r', StOk pn (FL F [D]) T' H' (wipe σ vs) (clearE ρ' vs) ∧ ρ'.length = ρ1.length ∧ (∀ x, F x → H' x = H1 x) ∧ Ex (hid (SF F T1) H1) (hid (SF (FL F [D]) T') H') ∧ H' D = some (.lst acc) ∧ acc.length ≤ i ∧ RpAll (hid (SF (FL F [D]) T') H') acc ds1 ∧ wlGo xg t e vs (xs.drop i) ρ' = some r' ∧ r = (ds1 ++ r'.1, r'.2),
      ⟨_, rfl, Nat.zero_le _, T3, ρ1, [], [], r, st3, rfl, fun x hx => upd_ne (npF x hx), vis2.trans s3.vis, upd_same, Nat.le_refl _, .nil, h2, rfl⟩, fun i m H' hw => ?_⟩
    obtain ⟨rfl, hi, T', ρ', acc, ds1, r', st', hlen, fr', vis', hacc, la, ra, hgo, hr⟩ := hw
    obtain ⟨w1, w2⟩ := wk _ H' vis' st'.als
    by_cases hlt : i < xs.length
    · obtain ⟨w3, w4⟩ := w2 i _ (List.getElem?_eq_getElem hlt)
      rw [List.drop_eq_getElem_cons hlt] at hgo
      obtain ⟨ρ4, b4, ρ5, g4, t4, alt⟩ := wl_step hgo
      refine .inr ⟨w3, fun H2 => ∃ T' ρ' acc ds1 r', StOk pn (FL F [D]) T' H2 (wipe σ vs) (clearE ρ' vs) ∧ ρ'.length = ρ1.length ∧ (∀ x, F x → H2 x = H1 x) ∧ Ex (hid (SF F T1) H1) (hid (SF (FL F [D]) T') H2) ∧ H2 D = some (.lst acc) ∧ acc.length ≤ i + 1 ∧ RpAll (hid (SF (FL F [D]) T') H2) acc ds1 ∧ wlGo xg t e vs (xs.drop (i + 1)) ρ' = some r' ∧ r = (ds1 ++ r'.1, r'.2), fun H2 hn => ⟨_, by omega, rfl, hlt, hn⟩, fun v H3 y => ?_⟩
      obtain ⟨e3, rv⟩ := w4 v H3 y
      have st3 := st'.ex e3
      have s3 : Stp (FL F [D]) T' H' T' H3 := Stp.ex st'.al e3
      refine hg pn (FL F [D]) T' H3 (wipe σ vs) v _ _ ρ4 st3 g4 rv _ fun σ4 T4 st4 s4 off => ⟨wipe_off off hu, ?_⟩
      refine ht pn (FL F [D]) T4 H3 σ4 ρ4 b4 ρ5 st4 t4 _ fun T5 H5 st5 s5 => ?_
      have s15 := (s3.trans s4).trans s5
      have hD5 : H5 D = some (.lst acc) := by rw [s15.fr D (.inr (List.mem_cons_self ..))]; exact hacc
      rcases alt with ⟨rfl, d, ρ6, r6, f1, f2, rfl⟩ | ⟨rfl, f2⟩
      · show te σ4 H5 _
        refine he pn (FL F [D]) T5 H5 σ4 ρ5 d ρ6 st5 f1 _ fun z T6 H6 st6 s6 rz => ?_
        have s16 := s15.trans s6
        have hD6 : H6 D = some (.lst acc) := by rw [s6.fr D (.inr (List.mem_cons_self ..))]; exact hD5
        refine ⟨acc, hD6, Evl.sz_lt (by omega), ?_⟩
        have hS : SF (FL F [D]) T6 D := .inl (.inr (List.mem_cons_self ..))
        have vis7 : Ex (hid (SF (FL F [D]) T6) H6) (hid (SF (FL F [D]) T6) (upd H6 D (.lst (acc ++ [z])))) := fun x o h => by
          obtain ⟨c, h⟩ := hid_some h
          rw [hid_out c, upd_ne (fun z => c (by rw [z]; exact hS))]
          exact h
        have st7 : StOk pn (FL F [D]) T6 (upd H6 D (.lst (acc ++ [z]))) σ4 ρ6 := st6.mv vis7 (fun j x hx => upd_ne fun z => st6.off j x hx (by rw [z]; exact .inr (List.mem_cons_self ..))) fun x hx => by
          by_cases c : x = D
          · subst c; rw [upd_same]; exact fun z => nomatch z
          · rw [upd_ne c]; exact st6.al x hx
        obtain ⟨T8, st8, s8⟩ := st7.clear vs h0
        rw [wipe_off off hu] at st8
        have vis8 := vis7.trans s8.vis
        refine ⟨T8, ρ6, acc ++ [z], ds1 ++ [d], r6, st8, ?_, fun x hx => ?_, ((vis'.trans s16.vis).trans vis8), upd_same, by rw [List.length_append]; simpa using la, RpAll.append (ra.ex (s16.vis.trans vis8)) (.cons (rz.ex vis8) .nil), f2, by rw [hr]; simp⟩
        · have l6 := st6.len
          have l5 := off.1
          rw [wipe_length] at l5
          have l1 := st1.len
          omega
        · rw [upd_ne (npF x hx), s16.fr x (.inl hx)]
          exact fr' x hx
      · obtain ⟨T8, st8, s8⟩ := st5.clear vs h0
        rw [wipe_off off hu] at st8
        refine ⟨T8, ρ5, acc, ds1, r', st8, ?_, fun x hx => ?_, (vis'.trans s15.vis).trans s8.vis, hD5, by omega, ra.ex (s15.vis.trans s8.vis), f2, hr⟩
        · have l6 := st5.len
          have l5 := off.1
          rw [wipe_length] at l5
          have l1 := st1.len
          omega
        · rw [s15.fr x (.inl hx)]
          exact fr' x hx
    · have ei : i = xs.length := by omega
      subst ei
      rw [List.drop_length] at hgo
      cases hgo
      rw [List.append_nil] at hr
      subst hr
      refine .inl ⟨w1, q (.ref D) [D] T' H' ⟨?_, st'.al, st'.off, st'.dis, st'.nd, fun j hj => st'.out j (by rw [backE_len] at hj; rw [clearE_len]; exact hj), fun j s hj => ?_, fun v hv => st1.pin v hv⟩ (by simp) (fun x hx => ?_) (fun x hx => (fr' x hx).trans (s1.fr x hx)) (s1.vis.trans vis') ⟨D, acc, [], rfl, hacc, Cels.dats ra, rfl⟩⟩
      · rw [backE_len, hlen]; exact st1.len
      · have hjl : j < ρ'.length := by
          have := (List.getElem?_eq_some_iff.mp hj).1
          rw [backE_len] at this
          exact this
        by_cases c : j ∈ vs
        · rw [backE_at c hjl] at hj
          cases hj
          obtain ⟨o', _, h2⟩ := st'.sl j .un (clearE_at c hjl)
          have hT : T' j = [] := h2
          have hσ : j < σ.length := by rw [st1.len, ← hlen]; exact hjl
          rw [hT]
          have h9 : ρ1[j]? = some (ρ1[j]'(by rw [← hlen]; exact hjl)) := List.getElem?_eq_getElem _
          rw [h9]
          obtain ⟨o9, k1, k2⟩ := st1.sl j _ h9
          cases hs9 : ρ1[j]'(by rw [← hlen]; exact hjl) with
          | un => exact ⟨_, List.getElem?_eq_getElem hσ, rfl⟩
          | own cs => exact ⟨_, List.getElem?_eq_getElem hσ, rfl⟩
          | dic l => exact ⟨_, List.getElem?_eq_getElem hσ, rfl⟩
          | dat d =>
            rw [hs9] at k2
            obtain ⟨_, v, rfl, rv⟩ := k2
            exact ⟨_, k1, rfl, v, rfl, rv.ex vis'⟩
        · rw [backE_off c] at hj
          obtain ⟨o', k1, k2⟩ := st'.sl j s (by rw [clearE_off c]; exact hj)
          rw [wipe_get c] at k1
          exact ⟨o', k1, k2⟩
      · have ex : x = D := by simpa using hx
        rw [ex]
        exact fun z => npF D z rfl
  · rw [if_neg hz] at hh; cases hh
def runP (n k : Nat) (X : XS) (ds : List PD) : Option PD := if ds.length = n then (X (ds.map Sl.dat ++ List.replicate k Sl.un)).bind fun o => match o with
  | .ret d _ => some d
  | .nxt _ => some .none
  | _ => none else none
def runW (n k : Nat) (X : XS) (cs : List Cel) (ds : List PD) : Option (PD × List Cel) := if ds.length = n then (X (.own cs :: (ds.map Sl.dat ++ List.replicate k Sl.un))).bind fun o => match o with
  | .ret d ρ => (ownAt ρ 0).bind fun cs' => some (d, cs')
  | .nxt ρ => (ownAt ρ 0).bind fun cs' => some (.none, cs')
  | _ => none else none
def runD (n k : Nat) (X : XS) (ds : List PD) : Option (List Cel) := if ds.length = n then (X (ds.map Sl.dat ++ List.replicate k Sl.un)).bind fun o => match o with
  | .retO cs _ => some cs
  | _ => none else none
def spD (f : List PD → Option (List Cel)) : Sp := fun vs H Q _ => ∃ S ds cs, Al S H ∧ RpAll (hid S H) vs ds ∧ f ds = some cs ∧ ∀ v A H2, Ex H H2 → A.Nodup → (∀ x ∈ A, ¬ S x ∧ H x = none) → Own (hid (FL S A) H2) H2 v cs A → Q v H2
theorem sw_callD {f : List PD → Option (List Cel)} {ts : TA} {as : XWA} (hs : SWA ts as) : SWO (tCall (spD f) [] E0 ts) (fun ρ => (as ρ).bind fun x => (f x.1).bind fun cs => some (cs, x.2)) := fun pn F T H σ ρ cs ρ' st e Q q => by
  obtain ⟨⟨xs, ρ1⟩, h1, e⟩ := bind_some e
  obtain ⟨z, h3, e⟩ := bind_some e
  cases e
  refine hs pn F T H σ ρ xs _ st h1 _ fun vs T1 H1 st1 s1 rv => ⟨SF F T1, xs, cs, st1.als, by rw [List.append_nil]; exact rv, h3, fun v A H2 e2 nd off ow => ?_⟩
  have eq : SF (FL F A) T1 = FL (SF F T1) A := funext fun x => propext ⟨fun h => h.elim (fun h => h.elim (fun z => .inl (.inl z)) .inr) fun z => .inl (.inr z), fun h => h.elim (fun h => h.elim (fun z => .inl (.inl z)) .inr) fun z => .inl (.inr z)⟩
  have vis : Ex (hid (SF F T1) H1) (hid (SF (FL F A) T1) H2) := fun x o h => by
    obtain ⟨c, h⟩ := hid_some h
    rw [hid_out]
    · exact e2 x o h
    · rw [eq]
      rintro (z | z)
      · exact c z
      · rw [(off x z).2] at h; cases h
  have st2 := st1.ex e2
  refine q v A T1 H2 ⟨st2.len, fun x hx => hx.elim (st2.al x) (fun z => let ⟨ws, g⟩ := ow.lst x z; fun w => by rw [g] at w; cases w), fun i x hx z => z.elim (st1.off i x hx) fun z => (off x z).1 (.inr ⟨i, hx⟩), st2.dis, st2.nd, st2.out, fun i s hi => ?_, st2.pin⟩ nd (fun x hx z => (off x hx).1 (.inl z)) (fun x hx => ((Stp.ex (T := T1) st1.al e2).fr x hx).trans (s1.fr x hx)) (s1.vis.trans vis) (by rw [eq]; exact ow)
  obtain ⟨o, k1, k2⟩ := st1.sl i s hi
  refine ⟨o, k1, k2.mv vis fun x hx => ?_⟩
  obtain ⟨ws, g, _⟩ := st1.lst hx
  rw [g, e2 x _ g]
theorem st0 {S : Hs} {H : Hp} {N : List Str} {vs : List V} {ds : List PD} {n k : Nat} (al : Al S H) (ra : RpAll (hid S H) vs ds) (hn : ds.length = n) (hN : N.length = n + k) : StOk none S (fun _ => []) H (L2.start N vs) (ds.map Sl.dat ++ List.replicate k Sl.un) := by
  have e : N.length - vs.length = k := by rw [ra.length, hN, hn]; omega
  have eS : ∀ x, S x ↔ SF S (fun _ => []) x := fun x => ⟨.inl, fun h => h.elim id fun ⟨_, z⟩ => nomatch z⟩
  refine ⟨by unfold L2.start; rw [List.length_append, List.length_map, List.length_append, List.length_map, List.length_replicate, List.length_replicate, e, ra.length], al, fun i x h => (nomatch h), fun i j x h => (nomatch h), fun i => List.nodup_nil, fun i _ => rfl, fun i s hi => ?_, fun v z => nomatch z⟩
  unfold L2.start
  rw [e]
  by_cases c : i < ds.length
  · rw [List.getElem?_append_left (by rw [List.length_map]; exact c), List.getElem?_map, List.getElem?_eq_getElem c] at hi
    cases hi
    obtain ⟨v, h1, h2⟩ := ra.get (List.getElem?_eq_getElem c)
    refine ⟨some v, ?_, rfl, v, rfl, ?_⟩
    · rw [List.getElem?_append_left (by rw [List.length_map, ra.length]; exact c), List.getElem?_map, h1]
      rfl
    · rw [← hid_eq eS]; exact h2
  · rw [List.getElem?_append_right (by rw [List.length_map]; omega), List.getElem?_replicate] at hi
    rw [List.getElem?_append_right (by rw [List.length_map, ra.length]; omega), List.getElem?_replicate]
    rw [List.length_map] at hi ⊢
    rw [ra.length]
    split at hi
    · rename_i c2
      cases hi
      exact ⟨none, by rw [if_pos c2], rfl⟩
    · cases hi
theorem go_P {t : TS} {X : XS} {N : List Str} {vs : List V} {H : Hp} {Q : VK} {E : XK} {n k : Nat} (hX : SS t X) (hN : N.length = n + k) (hs : spF (runP n k X) vs H Q E) : t { nx := fun _ H' => Q .non H', rt := Q } (L2.start N vs) H := by
  obtain ⟨S, ds, d, al, ra, h, q⟩ := hs
  unfold runP at h
  by_cases hn : ds.length = n
  · rw [if_pos hn] at h
    obtain ⟨o, h1, h⟩ := bind_some h
    have eS : ∀ {T' : Trs} x, S x → SF S T' x := fun x => .inl
    have ex : ∀ {T' : Trs} {H' : Hp}, Stp S (fun _ => []) H T' H' → Ex H H' := fun {T' H'} s x o hx => by
      by_cases c : S x
      · rw [s.fr x c]; exact hx
      · exact hid_le _ _ (s.vis x o (by rw [hid_out (fun z => z.elim c fun ⟨_, z⟩ => nomatch z)]; exact hx))
    refine hX none S _ H _ _ o _ (st0 al ra hn hN) h1 ?_
    cases o with
    | ret d' ρ' => cases h; exact fun v σ T' H' st' s' rv => q v H' (ex s') (rv.ex (hid_sub fun x hx => .inl hx))
    | nxt ρ' => cases h; exact fun σ T' H' st' s' => q .non H' (ex s') .non
    | retO _ _ => cases h
    | brk _ => cases h
    | cnt _ => cases h
  · rw [if_neg hn] at h; cases h
theorem go_D {t : TS} {X : XS} {N : List Str} {vs : List V} {H : Hp} {Q : VK} {E : XK} {n k : Nat} (hX : SS t X) (hN : N.length = n + k) (hs : spD (runD n k X) vs H Q E) : t { nx := fun _ H' => Q .non H', rt := Q } (L2.start N vs) H := by
  obtain ⟨S, ds, d, al, ra, h, q⟩ := hs
  unfold runD at h
  by_cases hn : ds.length = n
  · rw [if_pos hn] at h
    obtain ⟨o, h1, h⟩ := bind_some h
    refine hX none S _ H _ _ o _ (st0 al ra hn hN) h1 ?_
    cases o with
    | retO d' ρ' =>
      cases h
      intro v A σ T' H' st' nd off fr vis ow
      have ex : Ex H H' := fun x o hx => by
        by_cases c : S x
        · rw [fr x c]; exact hx
        · exact hid_le _ _ (vis x o (by rw [hid_out (fun z => z.elim c fun ⟨_, z⟩ => nomatch z)]; exact hx))
      refine q v A H' ex nd (fun x hx => ⟨off x hx, ?_⟩) (ow.mv (hid_sub fun x hx => .inl hx) fun _ _ => rfl)
      cases qq : H x with
      | none => rfl
      | some o =>
        obtain ⟨c, _⟩ := hid_some (vis x o (by rw [hid_out (fun z => z.elim (off x hx) fun ⟨_, z⟩ => nomatch z)]; exact qq))
        exact absurd (.inl (.inr hx)) c
    | ret _ _ => cases h
    | nxt _ => cases h
    | brk _ => cases h
    | cnt _ => cases h
  · rw [if_neg hn] at h; cases h
theorem go_W {t : TS} {X : XS} {N : List Str} {vs : List V} {H : Hp} {Q : VK} {E : XK} {n k : Nat} (hX : SS t X) (hN : N.length = n + 1 + k) (hs : spW (runW n k X) vs H Q E) : t { nx := fun _ H' => Q .non H', rt := Q } (L2.start N vs) H := by
  obtain ⟨F, a, B, cs, ws, ds, d, cs', rfl, al, off, nd, ow, ra, h, q⟩ := hs
  unfold runW at h
  by_cases hn : ds.length = n
  · rw [if_pos hn] at h
    obtain ⟨o, h1, h⟩ := bind_some h
    obtain ⟨T, hT⟩ : ∃ T : Trs, T = fun i => if i = 0 then a :: B else [] := ⟨_, rfl⟩
    have T0 : T 0 = a :: B := by rw [hT]; rfl
    have TS : ∀ i, i ≠ 0 → T i = [] := fun i hi => by rw [hT]; exact if_neg hi
    have eqv : ∀ x, FL F (a :: B) x ↔ SF F T x := fun x => by
      constructor
      · rintro (z | z)
        · exact .inl z
        · exact .inr ⟨0, by rw [T0]; exact z⟩
      · rintro (z | ⟨i, z⟩)
        · exact .inl z
        · by_cases c : i = 0
          · subst c; rw [T0] at z; exact .inr z
          · rw [TS i c] at z; cases z
    have eh : hid (FL F (a :: B)) H = hid (SF F T) H := hid_eq eqv
    have e : N.length - (V.ref a :: ws).length = k := by rw [List.length_cons, ra.length, hN, hn]; omega
    have st : StOk (some (.ref a)) F T H (L2.start N (.ref a :: ws)) (.own cs :: (ds.map Sl.dat ++ List.replicate k Sl.un)) := by
      have mem : ∀ i x, x ∈ T i → i = 0 ∧ x ∈ a :: B := fun i x hx => by
        by_cases c : i = 0
        · subst c; rw [T0] at hx; exact ⟨rfl, hx⟩
        · rw [TS i c] at hx; cases hx
      refine ⟨?_, al, fun i x hx => off x (mem i x hx).2, fun i j x hx hy => (mem i x hx).1.trans (mem j x hy).1.symm, fun i => ?_, fun i hi => TS i (by rw [List.length_cons] at hi; omega), fun i s hi => ?_, fun v hv => ?_⟩
      · unfold L2.start
        rw [e]
        simp only [List.map_cons, List.cons_append, List.length_cons, List.length_append, List.length_map, List.length_replicate]
        rw [ra.length]
      · by_cases c : i = 0
        · subst c; rw [T0]; exact nd
        · rw [TS i c]; exact List.nodup_nil
      · unfold L2.start
        rw [e]
        cases i with
        | zero =>
          cases hi
          rw [T0]
          exact ⟨_, rfl, _, rfl, by rw [← eh]; exact ow⟩
        | succ i =>
          rw [TS _ (Nat.succ_ne_zero i)]
          have hi : (ds.map Sl.dat ++ List.replicate k Sl.un)[i]? = some s := hi
          show ∃ o, (ws.map some ++ List.replicate k none)[i]? = some o ∧ _
          by_cases c : i < ds.length
          · rw [List.getElem?_append_left (by rw [List.length_map]; exact c), List.getElem?_map, List.getElem?_eq_getElem c] at hi
            cases hi
            obtain ⟨v, k1, k2⟩ := ra.get (List.getElem?_eq_getElem c)
            refine ⟨some v, ?_, rfl, v, rfl, by rw [← eh]; exact k2⟩
            rw [List.getElem?_append_left (by rw [List.length_map, ra.length]; exact c), List.getElem?_map, k1]
            rfl
          · rw [List.getElem?_append_right (by rw [List.length_map]; omega), List.getElem?_replicate] at hi
            rw [List.getElem?_append_right (by rw [List.length_map, ra.length]; omega), List.getElem?_replicate]
            rw [List.length_map] at hi ⊢
            rw [ra.length]
            split at hi
            · rename_i c2
              cases hi
              exact ⟨none, by rw [if_pos c2], rfl⟩
            · cases hi
      · cases hv
        unfold L2.start
        rfl
    have fin : ∀ (v : V) (d1 : PD) (cs1 : List Cel) (σ : L2.St) (ρ1 : Env) (T' : Trs) (H' : Hp), StOk (some (.ref a)) F T' H' σ ρ1 → Stp F T H T' H' → Rp (hid (SF F T') H') v d1 → ownAt ρ1 0 = some cs1 → (d1, cs1) = (d, cs') → Q v H' := by
      intro v d1 cs1 σ ρ1 T' H' st' s' rv ho e2
      cases e2
      obtain ⟨a', us, B', h1, h2, h3, h4⟩ := st'.at_own (ownAt_eq ho)
      have hp := st'.pin _ rfl
      have ea : a' = a := by rw [h1] at hp; cases hp; rfl
      subst ea
      have sub : Ex (hid (SF F T') H') (hid (FL F (a' :: B')) H') := hid_sub fun x hx => hx.elim .inl fun z => .inr ⟨0, by rw [h4]; exact z⟩
      refine q v B' H' s'.fr (by rw [eh]; exact s'.vis.trans sub) (fun x hx => st'.off 0 x (by rw [h4]; exact hx)) (by rw [← h4]; exact st'.nd 0) ⟨a', us, B', rfl, h2, h3.mv sub fun _ _ => rfl, rfl⟩ (rv.ex sub)
    refine hX (some (.ref a)) F T H _ _ o _ st h1 ?_
    cases o with
    | ret d' ρ' =>
      obtain ⟨c1, k1, k2⟩ := bind_some h
      exact fun v σ T' H' st' s' rv => fin v d' c1 σ ρ' T' H' st' s' rv k1 (Option.some.inj k2)
    | nxt ρ' =>
      obtain ⟨c1, k1, k2⟩ := bind_some h
      exact fun σ T' H' st' s' => fin .non .none c1 σ ρ' T' H' st' s' .non k1 (Option.some.inj k2)
    | retO _ _ => cases h
    | brk _ => cases h
    | cnt _ => cases h
  · rw [if_neg hn] at h; cases h
theorem len_F {n k : Nat} {X : XS} {vs : List V} {H : Hp} {Q : VK} {E : XK} (h : spF (runP n k X) vs H Q E) : vs.length = n := by
  obtain ⟨S, ds, d, _, ra, h, _⟩ := h
  unfold runP at h
  by_cases hn : ds.length = n
  · rw [ra.length]; exact hn
  · rw [if_neg hn] at h; cases h
theorem len_D {n k : Nat} {X : XS} {vs : List V} {H : Hp} {Q : VK} {E : XK} (h : spD (runD n k X) vs H Q E) : vs.length = n := by
  obtain ⟨S, ds, d, _, ra, h, _⟩ := h
  unfold runD at h
  by_cases hn : ds.length = n
  · rw [ra.length]; exact hn
  · rw [if_neg hn] at h; cases h
theorem len_W {n k : Nat} {X : XS} {vs : List V} {H : Hp} {Q : VK} {E : XK} (h : spW (runW n k X) vs H Q E) : vs.length = n + 1 := by
  obtain ⟨F, a, B, cs, ws, ds, d, cs', rfl, _, _, _, _, ra, h, _⟩ := h
  unfold runW at h
  by_cases hn : ds.length = n
  · rw [List.length_cons, ra.length, hn]
  · rw [if_neg hn] at h; cases h
end Uv

namespace Uv
open PySem PySem.Spec PyProof.Rows L2
open Evl (Ex)
section
variable {P : Program} {w : World} {K : PySem.W.Frag} {mg : Str → Option Value} {base : Heap}
structure FnG (P : Program) (w : World) (K : PySem.W.Frag) (mg : Str → Option Value) (base : Heap) (k : Nat) (f : Addr) (fd : FuncData) (ps : List Str) (sp : Sp) : Prop where
  len : ∀ vs H Q E, sp vs H Q E → vs.length = ps.length
  run : ∀ (A : Around) (outer : List PySem.Env) (s : Shared) (H : Hp) (args : Args) (us : List Value) (vs : List V) (Q : VK) (E : XK), A.guards = some [] → Room k A → Env0 P w K mg base A outer s H → BindsTo s fd args (ps.zip us) → Vals vs us → sp vs H Q E →
    codeAny (model P w) A (.call (.ref f) args) (CR CX0 outer P w H s Q E) s
structure CalG (P : Program) (w : World) (K : PySem.W.Frag) (mg : Str → Option Value) (base : Heap) (k : Nat) (x : Str) (sp : Sp) : Prop where
  ex : ∃ (f : Addr) (fd : FuncData) (ps : List Str), FnG P w K mg base k f fd ps sp ∧ mg x = some (.ref f) ∧ PySem.W.keepIn K (.ref f) = true ∧ Binds K fd ps []
structure Dfn (K : PySem.W.Frag) (mg : Str → Option Value) (x : Str) (st : Stmt) (ps : List Str) : Prop where
  ex : ∃ f fd, Fun K x x st f fd ∧ mg x = some (.ref f) ∧ Binds K fd ps []
theorem dfn_mk {h : Heap} {x : Str} {st : Stmt} {ps : List Str} {f : Addr} {od an : Option Addr} {sl : Array (Option Value)} {oc kV dc pm cd ct : Value} (X : K.In h) (G : h.Ns mainGlobals mg)
    (a1 : PySem.W.nsIn K mainGlobals x = some (some (.ref f))) (l1 : K.lookup f = some ⟨oc, od, .func (PySem.W.fnOf x x (defArgs st) (defBody st) (defScope st) .none kV dc pm an cd ct), sl⟩) (c1 : PySem.W.codeIn K cd x = true) (k1 : PySem.W.keepIn K (.ref f) = true)
    (hb : ∀ (kV doc pm : Value) (an : Option Addr) (cdv ct : Value) (us : List Value), us.length = ps.length → bindArgs (PySem.W.fnOf x x (defArgs st) (defBody st) (defScope st) .none kV doc pm an cdv ct) ⟨us, []⟩ = pure (ps.zip us)) : Dfn K mg x st ps := by
  have F := fun_mk (st := st) l1 c1 k1
  exact ⟨f, _, F, PySem.W.mg_of X G a1, F.binds hb⟩
theorem pe_g {X : Cx} {j k : Nat} {x : Str} {sp : Sp} {p pos : Pos} {e : Expr} {es : List Expr} {t : TA} (c : CalG X.prog X.w X.K X.mg X.base k x sp) (hr : Room j X.A) (hk : k ≤ j) (hG : X.A.guards = some []) (hg : Gl X x) (ha : PA X (e :: es) t)
    (hdb : (x == ("__debug__" : Str)) = false := by decide) (he : starEach (e :: es) X.env = (false, eval e X.env) :: starEach es X.env := by rfl) (hpl : (backTo pos (starEach es X.env)).any (·.1) = false := by rfl) :
    PE X (.Call (.Name x p) (e :: es) [] pos) (tCall sp [] E0 t) := by
  obtain ⟨f, fd, ps, F, hm, kp, b⟩ := c.ex
  refine ⟨fun pins s σ H Q I h => wpAny_Call_Name_kw (ld_glob I hg hm ?_ hdb)⟩
  refine PySem.W.callWith_K (h₀ := X.base) I.ok.mod.kin kp (thn (ha.run pos pins s σ H _ I h) fun us s1 hh => ?_) he hpl
  obtain ⟨vs, H1, I1, r, q⟩ := hh
  rw [List.append_nil] at q
  have hl : us.length = ps.length := by rw [← r.length]; exact F.len _ _ _ _ q
  have bd := b s1 us I1.kIn (by rw [List.append_nil]; exact hl)
  rw [List.append_nil] at bd
  refine ⟨I1.kIn, wpAny_call (codeAny_mono (F.run X.A X.stack s1 H1 ⟨us, []⟩ us vs Q E0 hG (hr.mono hk) I1.env0 bd r q) fun rr s' hq => ?_)⟩
  match rr, hq with
  | .error _, hq => exact hq.elim
  | .ok (.ret u), hq => exact I1.after hq
  | .ok .next, hq => exact hq.elim
  | .ok .brk, hq => exact hq.elim
  | .ok .cont, hq => exact hq.elim
theorem fn_g {x : Str} {st : Stmt} {f : Addr} {fd : FuncData} {N ps : List Str} {k : Nat} {sp : Sp} (F : Fun K x x st f fd) (S : FnScope N ps (defScope st)) (len : ∀ vs H Q E, sp vs H Q E → vs.length = ps.length)
    (hb : ∀ (cdv : Value) (A : Around) (outer : List PySem.Env) (s : Shared) (H : Hp) (E : XK), (A.deeper (envOfC x (defScope st) s.heap.objs.size f cdv)).guards = some [] → Room k (A.deeper (envOfC x (defScope st) s.heap.objs.size f cdv)) →
      ∃ t, PSs (cxOf CX0 P w K mg base N x (defScope st) f cdv A outer s H E).nox (defBody st) t ∧ ∀ vs Q, sp vs H Q E → t { nx := fun _ H' => Q .non H', rt := Q } (L2.start N vs) H) : FnG P w K mg base (k + 1) f fd ps sp := by
  obtain ⟨oc, od, kV, doc, pm, an, cdv, ct, osl, rfl, lk, hcd⟩ := F.ex
  refine ⟨len, fun A outer s H args us vs Q E hG hr e0 hbd r hsp => ?_⟩
  obtain ⟨t, ht, hq⟩ := hb cdv A outer s H E hG (hr.deeper _)
  have keep : ∀ b o, base.get? b = some o → s.heap.get? b = some o := fun b o e => (e0.bs b o e).1
  have KX : K.In s.heap := e0.mod.kin.keeps keep
  have lim : s.heap.NoLimit := e0.mod.nolimit.keeps keep
  refine codeAny_call_function hr.depth (KX _ _ lk) rfl S.co S.gen rfl (PySem.W.codeRec_of KX hcd) (hbd _ _ _ _ ?_)
  refine wpAny_newFunctionEnv_cells S.kind (fun y hy => ?_) fun env he s1 ic => ?_
  · rcases S.par y.1 (List.of_mem_zip hy).1 with q | q
    · exact .inl q
    · exact .inr ⟨q, PySem.W.cellsFrom_some _ _ _ (.inl q)⟩
  · subst he
    have I : Inv (cxOf CX0 P w K mg base N x (defScope st) f cdv A outer s H E) [] (L2.start N vs) H s1 := inv_start S hr.hd e0 (len _ _ _ _ hsp) r ic
    refine ⟨lim.keeps ic.toInCall.keep, codeAny_func (wpAny_mono (ht.nox.run [] s1 (L2.start N vs) H _ I (hq vs Q hsp)) (fun fl s' hs => ?_) fun e s' hs => hs)⟩
    match fl, hs with
    | .ret u, ⟨v, σ', H', J, rv, q⟩ => exact ⟨v, H', J.os, J.bare, J.base, J.hok, rv, q⟩
    | .next, ⟨σ', H', J, q⟩ => exact ⟨.non, H', J.os, J.bare, J.base, J.hok, rfl, q⟩
    | .brk, ⟨_, _, _, q⟩ => exact q.elim
    | .cont, ⟨_, _, _, q⟩ => exact q.elim
theorem cal_g {x : Str} {st : Stmt} {N ps : List Str} {k : Nat} {sp : Sp} (F : Dfn K mg x st ps) (S : FnScope N ps (defScope st)) (len : ∀ vs H Q E, sp vs H Q E → vs.length = ps.length)
    (hb : ∀ (f : Addr) (cdv : Value) (A : Around) (outer : List PySem.Env) (s : Shared) (H : Hp) (E : XK), (A.deeper (envOfC x (defScope st) s.heap.objs.size f cdv)).guards = some [] → Room k (A.deeper (envOfC x (defScope st) s.heap.objs.size f cdv)) →
      ∃ t, PSs (cxOf CX0 P w K mg base N x (defScope st) f cdv A outer s H E).nox (defBody st) t ∧ ∀ vs Q, sp vs H Q E → t { nx := fun _ H' => Q .non H', rt := Q } (L2.start N vs) H) : CalG P w K mg base (k + 1) x sp := by
  obtain ⟨f, fd, F, hm, b⟩ := F.ex
  exact ⟨f, fd, ps, fn_g F S len (hb f), hm, F.kp, b⟩
end
def scriptH (K : PySem.W.Frag) (a : Addr) (vs : List Value) (ns : List Int) : Hp := fun b => if b = a ∧ K.lookup a = none then some (.frz { cls := .type "list", data := .seq vs.toArray } (.lst (ns.map V.int))) else none
theorem scriptH_some {K : PySem.W.Frag} {a b : Addr} {vs : List Value} {ns : List Int} {o : HO} (h : scriptH K a vs ns b = some o) : b = a ∧ K.lookup a = none ∧ o = .frz { cls := .type "list", data := .seq vs.toArray } (.lst (ns.map V.int)) := by
  unfold scriptH at h
  by_cases c : b = a ∧ K.lookup a = none
  · rw [if_pos c] at h
    exact ⟨c.1, c.2, (Option.some.inj h).symm⟩
  · rw [if_neg c] at h
    cases h
theorem none_by {K : PySem.W.Frag} {a b : Addr} {vs : List Value} {ns : List Int} (h : b = a → K.lookup a = none → False) : scriptH K a vs ns b = none := by
  cases q : scriptH K a vs ns b with
  | none => rfl
  | some o =>
    obtain ⟨e1, e2, _⟩ := scriptH_some q
    exact (h e1 e2).elim
theorem top_call {P : Program} {w : World} {K : PySem.W.Frag} {mg mb : Str → Option Value} {k : Nat} {fa a : Addr} {fd : FuncData} {x : Str} {sp : Sp} {s₁ : Shared} {vs : List Value} {ns : List Int}
    (KX : K.In s₁.heap) (hns : s₁.heap.Ns mainGlobals mg) (hb : s₁.heap.Ns builtinsNs mb) (hbb : ∀ x : Str, x ≠ "__name__" → mb x = bootBuiltins x) (hlim : s₁.heap.NoLimit) (hg : s₁.gens = #[])
    (ha : s₁.heap.get? a = some { cls := .type "list", data := .seq vs.toArray }) (hi : IntsAre vs ns) (hl : ns.length ≤ sizeLine) (hr : Room k callerA)
    (F : ∀ base : Heap, K.In base → base.Ns mainGlobals mg → FnG P w K mg base k fa fd [x] sp) (hbind : ∀ (s : Shared) (u : Value), BindsTo s fd ⟨[u], []⟩ [(x, u)])
    (hsp : ∀ H : Hp, SqL K H a (ns.map V.int) → sp [.ref a] H (fun v _ => v = .bl true) fun _ _ _ => False) :
    codeAny (model P w) callerA (.call (.ref fa) ⟨[.ref a], []⟩) (fun r s' => r = .ok (.ret (.bool true)) ∧ OldK s₁.heap s'.heap ∧ s'.os = s₁.os ∧ AllBare s'.gens) s₁ := by
  have rv := vals_ints hi
  have hs : SqL K (scriptH K a vs ns) a (ns.map V.int) := by
    cases hk : K.lookup a with
    | none => exact .inl (.inr ⟨_, if_pos ⟨rfl, hk⟩⟩)
    | some o =>
      have e := KX a o hk
      rw [ha] at e
      cases e
      exact .inr ⟨_, vs.toArray, _, hk, rfl, rfl, rfl, by rw [List.size_toArray, hi.length]; exact hl, by simpa using rv⟩
  have hok : HOk P w (scriptH K a vs ns) s₁.heap := fun b o h => by
    obtain ⟨rfl, _, rfl⟩ := scriptH_some h
    exact ⟨ha, by rw [List.length_map]; exact hl, vs, _, rv, ha⟩
  have old : ∀ {b : Addr} {o : Obj}, s₁.heap.get? b = some o → scriptH K a vs ns b = none → (hidT s₁.heap (scriptH K a vs ns)).get? b = some o := fun e n => hidT_get e n
  have nsK : ∀ {b : Addr} {m : Str → Option Value}, s₁.heap.Ns b m → (hidT s₁.heap (scriptH K a vs ns)).Ns b m := fun {b m} ⟨o, es, ep, e, d, r⟩ => ⟨o, es, ep, old e (none_by fun z _ => by
    subst z
    rw [ha] at e
    cases e
    exact nomatch (show Data.seq vs.toArray _ = Data.dict es ep from d)), d, r⟩
  have kin : K.In (hidT s₁.heap (scriptH K a vs ns)) := fun b o e => old (KX b o e) (none_by fun z q => by
    subst z
    rw [q] at e
    cases e)
  have mod : Mod K mg (hidT s₁.heap (scriptH K a vs ns)) := ⟨kin, nsK hns, ⟨mb, nsK hb, hbb⟩, let ⟨mc, h1, h2⟩ := hlim; ⟨mc, nsK h1, h2⟩⟩
  have e0 : Env0 P w K mg (hidT s₁.heap (scriptH K a vs ns)) callerA [] s₁ (scriptH K a vs ns) := ⟨rfl, mod, fun b o e => of_hidT e, Nat.le_of_eq (hidT_size _ _), trivial, fun b hb => absurd (show b ∈ ([] : List Addr) from hb) (by simp), hok, .of_eq hg⟩
  refine codeAny_mono ((F _ kin (nsK hns)).run callerA [] s₁ _ ⟨[.ref a], []⟩ [.ref a] [.ref a] _ _ rfl hr e0 (hbind s₁ (.ref a)) (.cons rfl .nil) (hsp _ hs)) fun r s' h => ?_
  match r, h with
  | .error e, h => exact h.elim
  | .ok .next, h => exact h.elim
  | .ok .brk, h => exact h.elim
  | .ok .cont, h => exact h.elim
  | .ok (.ret u), ⟨v, H', os, bare, un, hok', r', q⟩ =>
    have q' : v = .bl true := q
    subst q'
    obtain rfl : u = Value.bool true := r'
    refine ⟨rfl, OldK.of_keep fun b o e => ?_, os, bare⟩
    cases q : scriptH K a vs ns b with
    | none => exact un.keep b o e q (fun z => absurd (show b ∈ ([] : List Addr) from z) (by simp)) (by simp)
    | some u =>
      obtain ⟨rfl, _, rfl⟩ := scriptH_some q
      obtain ⟨e1, _⟩ := hok b _ q
      obtain ⟨e2, _⟩ := hok' b _ (un.frzs b _ _ q)
      rw [e] at e1
      cases e1
      exact e2
theorem walk_v {l : PySem.W.OpenLaw} {n k : Nat} {q : Program} {loose : List Str} {XP : (Str → Option Value) → Heap → Prop} {YP : World → Heap → Prop} {d : DefRec} {K : Params → PySem.W.Frag} {f : List PD → Option PD} {x : Str}
    (hn : l.most = some n) (hn2 : n ≤ sizeLine) (hdf : d.params.defaults = []) (hr : Room k callerA) (hY : ∀ (w : World) (h : Heap), YP w h → (K w.params).In h)
    (F : ∀ (w : World) (mg : Str → Option Value) (fa : Addr) (h : Heap), (K w.params).In h → h.Ns mainGlobals mg → mg d.name = some (.ref fa) →
      ∃ fd : FuncData, (∀ (s : Shared) (u : Value), BindsTo s fd ⟨[u], []⟩ [(x, u)]) ∧ ∀ base : Heap, (K w.params).In base → base.Ns mainGlobals mg → FnG l.prog w (K w.params) mg base k fa fd [x] (@spF ⟨K w.params⟩ f))
    (hf : ∀ ns : List Int, ns.length ≤ n → f [scrD (ns.map PyData.int)] = some (.bool true)) :
    PySem.W.WalkO q loose XP YP l.row.toRowW d [] (fun f vs => PySem.call f vs) := by
  refine Att.attach_call hn hdf fun w s₀ s₁ mg mb fa o pm cd doc a vs ns G Y ho hd hcd hmg hobj hints hlen hg => ?_
  obtain ⟨fd, hb, hF⟩ := F w mg fa _ (hY w _ Y) G.T.g hmg
  refine top_call (hY w _ Y) G.T.g G.T.b G.T.builtins G.T.nolimit hg hobj hints (Nat.le_trans hlen hn2) hr hF hb fun H hS => ?_
  letI : KK := ⟨K w.params⟩
  have e : ∀ x, ¬ (fun _ : Addr => False) x := fun x z => z
  have eh : hid (fun _ => False) H = H := funext fun x => hid_out (e x)
  refine ⟨fun _ => False, [scrD (ns.map PyData.int)], .bool true, fun x z => z.elim, .cons (.scr (xs := ns.map V.int) (by rw [eh]; exact hS) (RpAll.ofInts ns)) .nil, hf ns hlen, fun v H2 _ rv => ?_⟩
  cases rv
  rfl
end Uv

namespace Uv
open PySem PySem.Spec PyProof.Rows L2
open Evl (Ex)
variable [kk : KK]
def wCallD (f : List PD → Option (List Cel)) (as : XWA) : XWO := fun ρ => (as ρ).bind fun x => (f x.1).bind fun cs => some (cs, x.2)
def sAppS (i : Nat) (k : XE) (a : XW) : XS := fun ρ => (ownAt ρ i).bind fun cs => ((k (vw ρ)).bind isI).bind fun kk => (ixN cs.length kk).bind fun n => (subAt cs n).bind fun ds => (a (ρ.set i .un)).bind fun x =>
  match x.2[i]? with
  | some .un => if ds.length < 100000 then some (.nxt (x.2.set i (.own (cs.set n (.sub (ds ++ [x.1])))))) else none
  | _ => none
end Uv

namespace Uv
open PySem PySem.Spec PyProof.Rows L2 Srt SrtO
open Evl (Ex)
section
variable {prog : Program} {w : World} {A : Around} {E : Value → Shared → Prop} {s : Shared}
end
variable [kk : KK]
end Uv

namespace Uv
open PySem PySem.Spec PyProof.Rows L2
open Evl (Ex)
variable [kk : KK]
abbrev NewL (S : Hs) (H : Hp) (ds : List PD) (Q : VK) : Prop := ∀ p vs H2, Ex H H2 → H p = none → H2 p = some (.lst vs) → RpAll (hid (fun x => x = p ∨ S x) H2) vs ds → Q (.ref p) H2
def RoF (r : R2) (x y : PD) (ds : List PD) : Prop := ∀ S H vx vy, Al S H → Rp (hid S H) vx x → Rp (hid S H) vy y → ∀ Q : VK, NewL S H ds Q → r vx vy H Q
def SOF (r : R2) (f : PD → PD → Option PD) : Prop := ∀ x y z, f x y = some z → ∃ ds, z = .list ds ∧ RoF r x y ds
theorem ex_free {H H1 : Hp} {p : Addr} (e : Ex H H1) (hp : H1 p = none) : H p = none := by
  cases q : H p with
  | none => rfl
  | some o => rw [e _ _ q] at hp; cases hp
section
variable {r : R2} {f : PD → PD → Option PD} {ta tb : TE} {a b : XE}
theorem sef_op (hr : SOF r f) (ha : SE ta a) (hb : SE tb b) : SEF (tOp r ta tb) (xOp f a b) := fun ρ d h => by
  obtain ⟨x, h1, h⟩ := bind_some h
  obtain ⟨y, h2, h⟩ := bind_some h
  obtain ⟨ds, rfl, g⟩ := hr x y d h
  refine ⟨ds, rfl, fun S σ H al en Q q => ha ρ x h1 S σ H al en _ fun v H1 e1 rv => hb ρ y h2 S σ H1 (al.ex e1) (en.ex (hid_ex e1)) _ fun u H2 e2 ru => ?_⟩
  exact g S H2 v u ((al.ex e1).ex e2) (rv.ex (hid_ex e2)) ru Q fun p vs H3 e3 hp h3 ra => q p vs H3 ((e1.trans e2).trans e3) (ex_free (e1.trans e2) hp) h3 ra
def wOO (f : PD → PD → Option PD) (a b : XW) : XWO := fun ρ => (a ρ).bind fun x => (b x.2).bind fun y => ((f x.1 y.1).bind asList).bind fun ds => some (ds.map Cel.dat, y.2)
end
def catP : PD → PD → Option PD
  | .list xs, .list ys => if xs.length + ys.length ≤ 100000 then some (.list (xs ++ ys)) else none
  | _, _ => none
theorem sof_cat : SOF (rAddU K) catP := fun x y z h => by
  cases x with
  | list xs =>
    cases y with
    | list ys =>
      have h : (if xs.length + ys.length ≤ 100000 then some (PyData.list (xs ++ ys)) else none) = some z := h
      by_cases c : xs.length + ys.length ≤ 100000
      · rw [if_pos c] at h
        cases h
        refine ⟨_, rfl, fun S H vx vy al rx ry Q q => ?_⟩
        cases rx with
        | lst ha ra =>
          cases ry with
          | lst hb rb => exact .inr (.inl ⟨_, _, _, _, rfl, rfl, hid_le _ _ ha, hid_le _ _ hb, by rw [ra.length, rb.length]; exact Evl.sz_of c, fun p hp => q p _ _ (Ex.new hp) hp upd_same ((ra.append rb).ex (hid_cons (Ex.new hp) hp))⟩)
      · rw [if_neg c] at h; cases h
    | _ => cases h
  | _ => cases h
def repP : PD → PD → Option PD
  | .list xs, .int j => if 0 ≤ j ∧ j ≤ 100000 ∧ xs.length * j.toNat ≤ 100000 then some (.list (List.replicate j.toNat xs).flatten) else none
  | _, _ => none
def cutP : PD → Option Int → Option Int → Option PD
  | .list ds, l, h => some (.list (cutD ds l h))
  | .dict [(.none, .list ds)], l, h => some (.list (cutD ds l h))
  | _, _, _ => none
def xCut (a : XE) (lo hi : XO) : XE := fun ρ => (a ρ).bind fun d => (lo ρ).bind fun l => (hi ρ).bind fun h => cutP d l h
def partsP : PD → Option (List PD)
  | .list ds => some ds
  | .tuple ds => some ds
  | _ => none
def xStar (a : XE) (as : XA) : XA := fun ρ => (a ρ).bind fun x => (partsP x).bind fun xs => (as ρ).bind fun ys => some (xs ++ ys)
def isU : PD → PD → Option PD
  | .bool b, .bool c => some (.bool (b == c))
  | x, .none => some (.bool (isNone x))
  | _, _ => none
def isntU : PD → PD → Option PD
  | .bool b, .bool c => some (.bool (b != c))
  | x, .none => some (.bool (!isNone x))
  | _, _ => none
section
variable {P : Program} {w : World} {mg : Str → Option Value} {base : Heap}
end
theorem rel_open {env : PySem.Env} {names : List (Str × NameKind)} {x : Str} (h : names.lookup x = some .cell ∨ names.lookup x = some .free) :
    (names.map fun (n, k) => if (k == NameKind.free && env.scope.kind == .function && env.kindOf n == some .cell) then (n, NameKind.cell) else (n, k)).lookup x = some .cell ∨
    (names.map fun (n, k) => if (k == NameKind.free && env.scope.kind == .function && env.kindOf n == some .cell) then (n, NameKind.cell) else (n, k)).lookup x = some .free := by
  induction names with
  | nil => rcases h with h | h <;> cases h
  | cons y ys ih =>
    obtain ⟨n, k⟩ := y
    rw [List.map_cons]
    by_cases c : (k == NameKind.free && env.scope.kind == .function && env.kindOf n == some .cell) = true
    · simp only [c, if_true, List.lookup_cons]
      cases e : x == n with
      | true => exact .inl rfl
      | false => rw [List.lookup_cons, e] at h; exact ih h
    · dsimp only
      rw [if_neg c, List.lookup_cons]
      cases e : x == n with
      | true => rw [List.lookup_cons, e] at h; exact h
      | false => rw [List.lookup_cons, e] at h; exact ih h
theorem blkOk_in {X : Cx} {s : Shared} {H : Hp} {sc0 scope : Scope} {cl : List (Str × Addr)} {C : Addr} {fp : List Addr} {N : List Str} {own : List (Str × Nat)} (hN : (X.blk s H sc0 (compEnvC sc0 cl C X.env) fp).N = N) (h : blkC N sc0 scope own = true) :
    BlkOk (X.blk s H sc0 (compEnvC sc0 cl C X.env) fp).N (X.blk s H sc0 (compEnvC sc0 cl C X.env) fp).env.scope scope own := by
  rw [hN]
  have b := blkOk_by h
  exact ⟨b.kind, b.uniq, b.ix, fun y hy e => rel_open (b.free y hy e), b.own⟩
end Uv

namespace Un
open PySem PySem.Spec PyProof.Rows L2
theorem tuple_mul1 (l : Addr) (its : Array Value) (n : Nat) (dd : Option Addr) (sl : Array (Option Value)) (u : Tok) :
    Meets (Builtin.«tuple.__mul__» ⟨[.ref l, .int 1 u], []⟩) (fun _ R st => st.heap.get? l = some { cls := .type "tuple", dict := dd, data := .seq its n, slots := sl } ∧ R (.ok (.ret (Value.ref l))) st) :=
  .of_wp fun prog w A R st hh => by
    obtain ⟨hp, gn, dr, tk, os⟩ := st
    obtain ⟨hl, hh⟩ := hh
    have f1 := AutoSeq1.idx_int
    have c0 : (decide ((1 : Int) < -(2 ^ 63)) || decide ((1 : Int) ≥ 2 ^ 63)) = false := by decide
    have c1 : (its.isEmpty || (1 : Int) == 1) = true := by simp
    wp_walk using AutoSeq1.wpAny_loadPart' hl
    exact ⟨_, rfl, hh⟩
end Un

namespace Uv
open PySem PySem.Spec PyProof.Rows L2
open Evl (Ex)
section
variable {prog : Program} {w : World} {A : Around} {E : Value → Shared → Prop} {s : Shared}
theorem applied_back {sl : Addr} {n : Nat} {tk : Tok} {Q : Int × Int × Nat → Shared → Prop} (hs : s.heap.IsSliceOf sl .none .none (.int (-1) tk)) (h : Q ((n : Int) - 1, -1, n) s) : wpAny (model prog w) A (Builtin.Slice.sliceApplied (.ref sl) (pure (n : Int))) Q E s := by
  obtain ⟨ob, hob, hcl, hda⟩ := id hs
  unfold Builtin.Slice.sliceApplied Builtin.Slice.sliceFields
  refine wpAny_bind (wpAny_bind (wpAny_field hob hda (x := .none) rfl (wpAny_bind (wpAny_field hob hda (x := .none) rfl (wpAny_bind (wpAny_field hob hda (x := .int (-1) tk) rfl (wpAny_pure ?_)))))))
  refine wpAny_bind (HT.slicePart_ (.int (-1) tk) ?_)
  show wpAny _ _ (if ((-1 : Int) == 0) = true then _ else _) _ _ s
  rw [if_neg (by decide)]
  refine wpAny_bind (HT.slicePart_ .none (wpAny_bind (HT.slicePart_ .none (wpAny_bind (wpAny_pure ?_)))))
  have e1 : Builtin.Slice.sliceAdjust none none (-1) (n : Int) = ((n : Int) - 1, -1) := rfl
  have e2 : Builtin.Slice.slicePlaces ((n : Int) - 1) (-1) (-1) = n := by
    unfold Builtin.Slice.slicePlaces
    rw [if_neg (by decide)]
    split
    · rw [show (- (-1 : Int)) = 1 by decide, Int.ediv_one]
      omega
    · omega
  show wpAny _ _ (match Builtin.Slice.sliceAdjust none none (-1) (n : Int) with | (a, b) => pure (a, (-1 : Int), Builtin.Slice.slicePlaces a b (-1))) _ _ s
  rw [e1]
  show wpAny _ _ (pure ((n : Int) - 1, (-1 : Int), Builtin.Slice.slicePlaces ((n : Int) - 1) (-1) (-1))) _ _ s
  rw [e2]
  exact wpAny_pure h
theorem pick_back (xs : Array Value) : ((List.range xs.size).filterMap fun (m : Nat) => xs[(((xs.size : Int) - 1) + (m : Int) * (-1)).toNat]?).toArray = xs.toList.reverse.toArray := by
  congr 1
  have e : (fun (m : Nat) => xs[(((xs.size : Int) - 1) + (m : Int) * (-1)).toNat]?) = fun m => xs[xs.size - 1 - m]? := by
    funext m
    congr 1
    omega
  rw [e]
  have k := PySem.W.krv_range xs.size
  have k2 : (List.range xs.size).filterMap (fun m => xs[xs.size - 1 - m]?) = ((List.range xs.size).map fun m => xs.size - 1 - m).filterMap (xs[·]?) := by
    rw [List.filterMap_map]
    rfl
  rw [k2, k, List.filterMap_reverse, PySem.W.krv_all]
theorem getItem_tuple_back {t sl : Addr} {its : Array Value} {tk : Tok} {Q : Value → Shared → Prop} (ht : IsTup s.heap t its) (hs : s.heap.IsSliceOf sl .none .none (.int (-1) tk))
    (h : Q (.ref s.heap.objs.size) { s with heap := s.heap.push { cls := .type "tuple", data := .seq its.toList.reverse.toArray } }) (hz : its.size ≤ sizeLine) : wpAny (model prog w) A (getItem (.ref t) (.ref sl)) Q E s := by
  have ok : sizeOk (.seq its.toList.reverse.toArray) := by
    show its.toList.reverse.toArray.size ≤ sizeLine
    rw [List.size_toArray, List.length_reverse, Array.length_toList]
    exact hz
  obtain ⟨ob, hob, hcl, hda⟩ := id hs
  have ty : s.TypeIs (.ref sl) "slice" := ⟨ob, hob, hcl⟩
  unfold getItem
  try with_reducible refine wpAny_holding ?_
  first | refine wpAny_bind (wpAny_pure ?_) | skip
  refine wpAny_bind (wpAny_sequenceKey ht.typeIs (by decide) ?_)
  refine wpAny_bind (wpAny_callSpecial?_slot (name := Str.ofString "__getitem__") ht.typeIs PyProof.Rows.slot_tuple_getitem (wpAny_call_entry PyProof.Rows.slot_tuple_getitem ht.typeIs entry_tuple_getitem ?_ (args_tuple_getitem _ _)))
  show wpAny _ _ (Builtin.Tuple.tupleItemsOf (.ref t) >>= _) _ _ s
  refine wpAny_bind (tupleItemsOf_ ht (wpAny_bind (wpAny_typeOf ty ?_)))
  rw [if_pos (by decide)]
  refine wpAny_bind (applied_back hs ?_)
  have no : ¬ ((((its.size : Int) - 1) == 0 && (-1 : Int) == 1 && its.size == its.size) = true) := by
    rw [show ((-1 : Int) == 1) = false from rfl]
    simp
  show wpAny _ _ (if (((its.size : Int) - 1) == 0 && (-1 : Int) == 1 && its.size == its.size) = true then _ else _) _ _ s
  rw [if_neg no, pick_back]
  first
    | exact wpAny_bind (m := Builtin.Tuple.tupleExact _) (wpAny_newObj_type (wpAny_pure ⟨_, rfl, wpAny_pure h⟩) ok)
    | exact wpAny_bind (m := Builtin.Tuple.tupleExact _) (wpAny_newObj_type (wpAny_bind (wpAny_pure (wpAny_pure ⟨_, rfl, wpAny_pure h⟩))) ok)
    | exact wpAny_bind (wpAny_bind (m := Builtin.Tuple.tupleExact _) (wpAny_newObj_type (wpAny_pure (wpAny_pure ⟨_, rfl, wpAny_pure h⟩)) ok))
    | exact wpAny_bind (wpAny_bind (m := Builtin.Tuple.tupleExact _) (wpAny_newObj_type (wpAny_pure ⟨_, rfl, wpAny_pure h⟩) ok))
end
def tBack (K : PySem.W.Frag) (te : TE) : TE := fun σ H Q => te σ H fun x H1 => ∃ a xs, x = .ref a ∧ ((SqL K H1 a xs ∧ ∀ p, H1 p = none → Q (.ref p) (upd H1 p (.lst xs.reverse))) ∨ (SqT K H1 a xs ∧ ∀ p o, H1 p = none → Plain o → Q (.ref p) (upd H1 p (fz o xs.reverse))))
theorem rev_vals {vs : List V} {us : List Value} (h : Vals vs us) : Vals vs.reverse us.reverse := by
  induction h with
  | nil => exact .nil
  | cons r _ ih => rw [List.reverse_cons, List.reverse_cons]; exact ih.append (.cons r .nil)
theorem pe_back {X : Cx} {e : Expr} {te : TE} {p1 p2 p3 pos : Pos} {k1} (he : PE X e te) : PE X (.Subscript e (.Slice none none (some (.UnaryOp .USub (.Constant (.int 1) k1 p1) p2)) p3) pos) (tBack X.K te) := by
  refine ⟨fun pins s σ H Q I h => ?_⟩
  refine Subscript_ (thn (he.run pins s σ H _ I h) fun v s1 ⟨x, H1, I1, r1, q1⟩ => ?_)
  refine wpAny_Slice ?_
  rw [evalPart_none, evalPart_some]
  refine wpAny_pure (wpAny_pure ?_)
  have un : PE X (.UnaryOp .USub (.Constant (.int 1) k1 p1) p2) (tUn (rU fun i => .int (-i)) (tC (.int 1))) := pe_un un_neg pe_int
  refine thn (un.run pins s1 σ H1 (fun z H' => z = .int (-1) ∧ H' = H1) I1 ⟨1, rfl, rfl, rfl⟩) fun vk s2 ⟨z, H2, I2, rz, ez, eH⟩ => ?_
  subst ez eH
  obtain ⟨tk, rfl⟩ := rz
  obtain ⟨a, xs, rfl, q1⟩ := q1
  cases r1
  have I4 : Inv X pins σ H2 { s2 with heap := s2.heap.push { cls := .type "slice", data := .fields #[.none, .none, .int (-1) tk] } } := I2.kept (t' := s2.toks) fun b ob q => Heap.get?_push_of_some _ q
  rcases q1 with ⟨hx, q⟩ | ⟨hx, q⟩
  · obtain ⟨its, r, pl, hz⟩ := I4.list hx
    have hl := r.length
    refine tail_any (ops := [.ref a, .ref s2.heap.objs.size]) pl.isList.typeIs PySem.list_getitem_lookup ?_ (by with_unfolding_all rfl)
    refine wpAny_getItem_list_slice pl.isList (Heap.IsSliceOf.new ..) .none .none (.int (-1) tk) (by decide) ?_ (by rw [List.size_toArray, ← hl]; exact hz)
    rw [PySem.W.krv_pick]
    have ok := I4.laid (t' := s2.toks) (o := .lst xs.reverse) (fun b ob q => Heap.get?_push_of_some _ q) (Nat.le_refl _) (show ObjOk X.prog X.w _ _ _ (.lst xs.reverse) from ⟨by rw [List.length_reverse]; exact hz, _, 0, rev_vals r, Heap.get?_push_size _ rfl⟩)
    exact ⟨.ref _, _, ok, rfl, q _ (I4.hok.fresh (Nat.le_refl _))⟩
  · obtain ⟨its, r, pt, hz⟩ := I4.tuple hx
    have hl := r.length
    refine tail_any (ops := [.ref a, .ref s2.heap.objs.size]) pt.typeIs PyProof.Rows.slot_tuple_getitem.lookup ?_ (by with_unfolding_all rfl)
    refine getItem_tuple_back pt (Heap.IsSliceOf.new ..) ?_ (by rw [List.size_toArray, ← hl]; exact hz)
    have ok := I4.laid (t' := s2.toks) (o := fz _ xs.reverse) (fun b ob q => Heap.get?_push_of_some _ q) (Nat.le_refl _) (show ObjOk X.prog X.w _ _ _ (.frz _ (.tup xs.reverse)) from ⟨Heap.get?_push_size _ rfl, by rw [List.length_reverse]; exact hz, _, rev_vals r, IsTup.new _ _⟩)
    exact ⟨.ref _, _, ok, rfl, q _ _ (I4.hok.fresh (Nat.le_refl _)) ⟨rfl, rfl⟩⟩
end Uv

namespace Uv
open PySem PySem.Spec PyProof.Rows L2
open Evl (Ex)
theorem tuple_mul0 (l : Addr) (its : Array Value) (n : Nat) (dd : Option Addr) (sl : Array (Option Value)) (u : Tok) (hne : its.isEmpty = false) :
    Meets (Builtin.«tuple.__mul__» ⟨[.ref l, .int 0 u], []⟩) (fun _ R st => st.heap.get? l = some { cls := .type "tuple", dict := dd, data := .seq its n, slots := sl } ∧ R (.ok (.ret (Value.ref st.heap.objs.size))) { st with heap := st.heap.push { cls := Value.type "tuple", data := Data.seq #[] }, toks := st.toks }) :=
  .of_wp fun prog w A R st hh => by
    obtain ⟨hp, gn, dr, tk, os⟩ := st
    obtain ⟨hl, hh⟩ := hh
    have f1 := AutoSeq1.idx_int
    have c0 : (decide ((0 : Int) < -(2 ^ 63)) || decide ((0 : Int) ≥ 2 ^ 63)) = false := by decide
    have c1 : (its.isEmpty || (0 : Int) == 1) = false := by rw [hne]; rfl
    wp_walk using AutoSeq1.wpAny_loadPart' hl
    repeat (first
      | (refine wpAny_ite_false (decide_eq_false (by rw [c0]; exact Bool.false_ne_true)) ?_; wp_walk using AutoSeq1.wpAny_loadPart' hl)
      | (refine wpAny_ite_false (decide_eq_false (by rw [c1]; exact Bool.false_ne_true)) ?_; wp_walk using AutoSeq1.wpAny_loadPart' hl))
    exact ⟨_, rfl, hh⟩
def rRepF (K : PySem.W.Frag) : R2 := fun x y H Q => ∃ l k xs, x = .ref l ∧ y = .int k ∧ SqT K H l xs ∧ xs ≠ [] ∧ 0 ≤ k ∧ k ≤ 1000 ∧ xs.length ≤ 1000 ∧ (k = 1 → Q (.ref l) H) ∧ (k ≠ 1 → ∀ p o, H p = none → Plain o → Q (.ref p) (upd H p (fz o (List.replicate k.toNat xs).flatten)))
theorem op_repF {X : Cx} : OpR X (binaryOp .Mult) (rRepF X.K) := by
  intro pins s σ H x y v u Q I rx ry h
  obtain ⟨l, k, xs, rfl, rfl, hT, hne, h1, h2, hz, q1, q2⟩ := h
  cases rx
  obtain ⟨t, rfl⟩ := ry
  obtain ⟨its, r, ⟨⟨cls, dd, data, sl⟩, ho, hc, n, hd⟩, hs⟩ := I.tuple hT
  simp only at hc hd
  subst hc hd
  have hle : its.length = xs.length := r.length.symm
  have hi : its.toArray.isEmpty = false := by
    cases its with
    | nil => exact absurd (List.eq_nil_of_length_eq_zero hle.symm) hne
    | cons a b => rfl
  refine wpAny_binaryOp_repeat_ref (T := "tuple") (U := "int") (by decide) ⟨_, ho, rfl⟩ (fun s' => typeIs_int s' k t) noFill_tuple_mul F.fills_int_mul F.slot_int_rmul repeat_tuple F.slot_int_index.lookup ?_
  refine call_meets F.slot_int_rmul (typeIs_int s k t) F.entry_int_rmul (F.args_int_rmul_2 _ _) (int_rmul_tuple k t l its.toArray n dd sl) ⟨ho, rfl, ⟨_, ho, rfl⟩, ?_⟩
  have new : ∀ (us : List Value) (vs : List V), Vals vs us → vs.length ≤ sizeLine → (∀ p o, H p = none → Plain o → Q (.ref p) (upd H p (fz o vs))) → EP X pins σ Q (.ref s.heap.objs.size) { s with heap := s.heap.push { cls := Value.type "tuple", data := Data.seq us.toArray }, toks := s.toks } := fun us vs rv hv q => by
    have ok := I.laid (t' := s.toks) (o := fz _ vs) (fun b ob e => Heap.get?_push_of_some _ e) (Nat.le_refl _) (show ObjOk X.prog X.w _ _ _ (.frz _ (.tup vs)) from ⟨Heap.get?_push_size _ rfl, hv, us, rv, IsTup.new _ _⟩)
    exact ⟨.ref s.heap.objs.size, _, ok, rfl, q _ _ (I.hok.fresh (Nat.le_refl _)) ⟨rfl, rfl⟩⟩
  by_cases hk : k = 1
  · subst hk
    exact call_meets F.slot_tuple_mul ⟨_, ho, rfl⟩ F.entry_tuple_mul (F.args_tuple_mul_2 _ _) (Un.tuple_mul1 l its.toArray n dd sl t) ⟨ho, .ref l, H, I, rfl, q1 rfl⟩
  · have q2 := q2 hk
    by_cases h0 : k = 0
    · subst h0
      exact call_meets F.slot_tuple_mul ⟨_, ho, rfl⟩ F.entry_tuple_mul (F.args_tuple_mul_2 _ _) (tuple_mul0 l its.toArray n dd sl t hi) ⟨ho, new [] [] .nil (Nat.zero_le _) q2⟩
    · have hm : ((its.toArray.size : Nat) : Int) * k ≤ 1000000 := by
        rw [List.size_toArray, hle]
        have a1 : ((xs.length : Nat) : Int) * k ≤ 1000 * k := Int.mul_le_mul_of_nonneg_right (by omega) (by omega)
        omega
      have flen : (List.replicate k.toNat its).flatten.length ≤ sizeLine := by
        rw [PyProof.Rows.lm_len_rep_flat, hle, sizeLine_eq]
        have a1 : k.toNat * xs.length ≤ 1000 * 1000 := Nat.mul_le_mul (by omega) hz
        omega
      have rep : ∀ m : Nat, Vals (List.replicate m xs).flatten (List.replicate m its).flatten := fun m => by
        induction m with
        | zero => exact .nil
        | succ m ih => rw [List.replicate_succ, List.replicate_succ, List.flatten_cons, List.flatten_cons]; exact r.append ih
      have c0 : (decide (k < -(2 ^ 63)) || decide (k ≥ 2 ^ 63)) = false := by rw [decide_eq_false (by omega), decide_eq_false (by omega)]; rfl
      have c1 : (its.toArray.isEmpty || k == 1) = false := by rw [hi, Bool.false_or]; exact beq_eq_false_iff_ne.mpr hk
      have c2 : (decide (k ≤ 0) || its.toArray.isEmpty) = false := by rw [hi, Bool.or_false]; exact decide_eq_false (by omega)
      have c4 : Builtin.Tuple.tupleTooMany (((its.toArray.size : Nat) : Int) * k) = false := by unfold Builtin.Tuple.tupleTooMany; rw [sizeLine_eq]; exact decide_eq_false (by omega)
      refine call_meets F.slot_tuple_mul ⟨_, ho, rfl⟩ F.entry_tuple_mul (F.args_tuple_mul_2 _ _) (tuple_mulW l its.toArray n dd sl k t c0 c1 c2 (by omega) c4 (by rw [size_rep, List.size_toArray]; exact flen)) ⟨ho, ?_⟩
      rw [size_rep]
      exact new _ _ (rep k.toNat) (by rw [(rep k.toNat).length]; exact flen) q2
section
variable [kk : KK]
def sAug (i : Nat) (f : Int → Int → Int) (k a : XE) : XS := fun ρ => (ownAt ρ i).bind fun cs => ((k (vw ρ)).bind isI).bind fun k => (ixN cs.length k).bind fun n => ((datAt cs n).bind isI).bind fun x => ((a (vw ρ)).bind isI).bind fun y => some (.nxt (ρ.set i (.own (cs.set n (.dat (.int (f x y)))))))
def three : List Cel → Option (Cel × Cel × Cel)
  | [a, b, c] => some (a, b, c)
  | _ => none
theorem three_eq {cs : List Cel} {c d e : Cel} (h : three cs = some (c, d, e)) : cs = [c, d, e] := by
  unfold three at h
  split at h
  · cases h; rfl
  · cases h
def sPar3 (i j k : Nat) (as : XWC) : XS := fun ρ => (as ρ).bind fun x => (three x.1).bind fun c => if i < x.2.length ∧ j < x.2.length ∧ k < x.2.length then some (.nxt (((x.2.set i (toSl c.1)).set j (toSl c.2.1)).set k (toSl c.2.2))) else none
theorem cels_split {G H : Hp} {v : V} {vs : List V} {c : Cel} {cs : List Cel} {B : List Addr} (h : Cels G H (v :: vs) (c :: cs) B) : ∃ B1 B2, B = B1 ++ B2 ∧ Cels G H [v] [c] B1 ∧ Cels G H vs cs B2 := by
  cases h with
  | dat r n => exact ⟨[], B, rfl, .dat r .nil, n⟩
  | sub hb r n => exact ⟨[_], _, rfl, .sub hb r .nil, n⟩
theorem ss_unp3 {i j k : Nat} {ts : TA} {as : XWC} (hi : i ≠ 0) (hj : j ≠ 0) (hk : k ≠ 0) (hs : SWC ts as) : SS (tAsg (tTupF ts) (gTU K 3 (gCons (gName i) (gCons (gName j) (gCons (gName k) gNil))))) (sPar3 i j k as) := fun pn F T H σ ρ o D st e q => by
  obtain ⟨⟨cs, ρ1⟩, h1, e⟩ := bind_some e
  obtain ⟨⟨c, d, g⟩, h2, e⟩ := bind_some e
  have ec : cs = _ := three_eq h2
  subst ec
  by_cases hl : i < ρ1.length ∧ j < ρ1.length ∧ k < ρ1.length
  · rw [if_pos hl] at e
    cases e
    refine hs pn F T H σ ρ _ ρ1 st h1 _ fun vs B T1 H0 st0 nd off fr0 vis0 hc0 => ?_
    obtain ⟨v, w, z, rfl⟩ : ∃ v w z, vs = [v, w, z] := by
      have := hc0.length
      match vs, this with
      | [v, w, z], _ => exact ⟨v, w, z, rfl⟩
    refine ⟨by show 3 ≤ sizeLine; decide, fun p ob hp pl => .inl ⟨p, [v, w, z], rfl, .inl (.inr ⟨_, upd_same⟩), rfl, ?_⟩⟩
    have ex : Ex H0 (upd H0 p (fz ob [v, w, z])) := Ex.new hp
    have st1 := st0.ex ex
    have vis := vis0.trans (hid_ex (S := SF (FL F B) T1) ex)
    have hB : ∀ x ∈ B, upd H0 p (fz ob [v, w, z]) x = H0 x := fun x hx => by
      obtain ⟨ws, e⟩ := hc0.lst x hx
      rw [e, ex _ _ e]
    have hc := hc0.mv (hid_ex (S := SF (FL F B) T1) ex) hB
    have fr : ∀ x, F x → upd H0 p (fz ob [v, w, z]) x = H x := fun x hx => by
      rw [← fr0 x hx]
      cases e : H0 x with
      | none => exact absurd e (st0.al x (.inl hx))
      | some o => exact ex _ _ e
    obtain ⟨B1, B', rfl, c1, c'⟩ := cels_split hc
    obtain ⟨B2, B3, rfl, c2, c3⟩ := cels_split c'
    have eF : FL F (B1 ++ (B2 ++ B3)) = FL (FL (FL F B3) B2) B1 := by rw [FL_app, FL_app]; exact FL_perm fun x => by simp only [List.mem_append]; exact ⟨fun h => by rcases h with h | h | h <;> simp [h], fun h => by rcases h with h | h | h <;> simp [h]⟩
    rw [eF] at st1 c1 c2 c3 vis
    have n1 := List.nodup_append.mp nd
    have n2 := List.nodup_append.mp n1.2.1
    obtain ⟨T2, st2, vis2⟩ := StOk.cel (F := FL (FL F B3) B2) hi hl.1 st1 n1.1 (fun x hx y => y.elim (fun y => y.elim (off x (List.mem_append_left _ hx)) fun y => n1.2.2 x hx x (List.mem_append_right _ y) rfl) fun y => n1.2.2 x hx x (List.mem_append_left _ y) rfl) c1
    have c2' := c2.mv vis2 fun x hx => rfl
    obtain ⟨T3, st3, vis3⟩ := StOk.cel (F := FL F B3) hj (by rw [List.length_set]; exact hl.2.1) st2 n2.1 (fun x hx y => y.elim (off x (List.mem_append_right _ (List.mem_append_left _ hx))) fun y => n2.2.2 x hx x y rfl) c2'
    have c3' := c3.mv (vis2.trans vis3) fun x hx => rfl
    obtain ⟨T4, st4, vis4⟩ := StOk.cel (F := F) hk (by rw [List.length_set, List.length_set]; exact hl.2.2) st3 n2.2.1 (fun x hx => off x (List.mem_append_right _ (List.mem_append_right _ hx))) c3'
    exact ⟨v, [w, z], rfl, w, [z], rfl, z, [], rfl, rfl, q _ T4 _ st4 ⟨fr, ((vis.trans vis2).trans vis3).trans vis4⟩⟩
  · rw [if_neg hl] at e; cases e
def backP : PD → Option PD
  | .list ds => some (.list ds.reverse)
  | .tuple ds => some (.tuple ds.reverse)
  | _ => none
def backL : PD → Option PD
  | .list ds => some (.list ds.reverse)
  | _ => none
theorem RpAll.rev {H : Hp} : ∀ {vs : List V} {ds : List PD}, RpAll H vs ds → RpAll H vs.reverse ds.reverse
  | _, _, .nil => .nil
  | _, _, .cons h r => by rw [List.reverse_cons, List.reverse_cons]; exact (RpAll.rev r).append (.cons h .nil)
theorem se_back {te : TE} {a : XE} (ha : SE te a) : SE (tBack K te) (xUn backP a) := fun ρ d h S σ H al en Q q => by
  obtain ⟨x, h1, h⟩ := bind_some h
  refine ha ρ x h1 S σ H al en _ fun v H1 e1 rv => ?_
  cases rv with
  | lst hh ra =>
    cases h
    exact ⟨_, _, rfl, .inl ⟨.inl (.inl (hid_le _ _ hh)), fun p hp => q _ _ (e1.trans (Ex.new hp)) (.lst (new_ok (al.ex e1) hp) (ra.rev.ex (hid_ex (Ex.new hp))))⟩⟩
  | tup hh pl ra =>
    cases h
    exact ⟨_, _, rfl, .inr ⟨.inl (.inr ⟨_, hid_le _ _ hh⟩), fun p o hp pl => q _ _ (e1.trans (Ex.new hp)) (.tup (new_ok (al.ex e1) hp) pl (ra.rev.ex (hid_ex (Ex.new hp))))⟩⟩
  | _ => cases h
def rgP : PD → Option (List PD)
  | .int n => if -(2 ^ 62) ≤ n ∧ n ≤ 100000 then some ((List.range n.toNat).map fun k => .int (k : Nat)) else none
  | _ => none
def rgL (d : PD) : Option PD := (rgP d).bind fun ds => some (.list ds)
def rgT (d : PD) : Option PD := (rgP d).bind fun ds => some (.tuple ds)
theorem rp_rg {H : Hp} {n : Int} : RpAll H (rgV 0 n) ((List.range n.toNat).map fun k => .int (k : Nat)) := by
  unfold rgV
  rw [Int.sub_zero]
  generalize List.range n.toNat = l
  induction l with
  | nil => exact .nil
  | cons k l ih =>
    rw [List.map_cons, List.map_cons, Int.zero_add]
    exact .cons (.int _) ih
theorem rg_ok {n : Int} (h : -(2 ^ 62) ≤ n ∧ n ≤ 100000) : RgOk 0 n := ⟨by omega, by omega, h.1, by omega, by omega⟩
theorem sef_rgL {ta : TE} {a : XE} (ha : SE ta a) : SEF (tLstRg (tRg1 ta)) (xUn rgL a) := fun ρ d h => by
  obtain ⟨x, h1, h⟩ := bind_some h
  obtain ⟨ds, h2, h⟩ := bind_some h
  cases h
  cases x with
  | int n =>
    have h2 : (if -(2 ^ 62) ≤ n ∧ n ≤ 100000 then some ((List.range n.toNat).map fun k => PyData.int (k : Nat)) else none) = some ds := h2
    by_cases c : -(2 ^ 62) ≤ n ∧ n ≤ 100000
    · rw [if_pos c] at h2
      cases h2
      refine ⟨_, rfl, fun S σ H al en Q q => ha ρ _ h1 S σ H al en _ fun v H1 e1 rv => ?_⟩
      cases rv
      exact ⟨n, rfl, rg_ok c, fun p hp => q p _ _ (e1.trans (Ex.new hp)) (ex_free e1 hp) upd_same rp_rg⟩
    · rw [if_neg c] at h2; cases h2
  | _ => cases h2
def mulU : PD → PD → Option PD
  | .tuple xs, .int j => if xs ≠ [] ∧ 0 ≤ j ∧ j ≤ 1000 ∧ xs.length ≤ 1000 then some (.tuple (List.replicate j.toNat xs).flatten) else none
  | x, y => mulP x y
def rMulV (K : PySem.W.Frag) : R2 := fun x y H Q => rMulU x y H Q ∨ rRepF K x y H Q
theorem op_mulV {X : Cx} : OpR X (binaryOp .Mult) (rMulV X.K) := OpR.or op_mulU op_repF
theorem so_mulV : SO (rMulV K) mulU := fun x y z h S H vx vy al rx ry Q q => by
  cases rx with
  | @tup a o xs ds ha pa ra =>
    cases ry with
    | int j =>
      have h : (if ds ≠ [] ∧ 0 ≤ j ∧ j ≤ 1000 ∧ ds.length ≤ 1000 then some (PyData.tuple (List.replicate j.toNat ds).flatten) else none) = some z := h
      by_cases c : ds ≠ [] ∧ 0 ≤ j ∧ j ≤ 1000 ∧ ds.length ≤ 1000
      · rw [if_pos c] at h
        cases h
        refine .inr ⟨a, j, xs, rfl, rfl, .inl (.inr ⟨_, hid_le _ _ ha⟩), fun e => ?_, c.2.1, c.2.2.1, by rw [ra.length]; exact c.2.2.2, fun e => ?_, fun e p o' hp pl => q _ _ (Ex.new hp) (.tup (new_ok al hp) pl ((ra.rep j.toNat).ex (hid_ex (Ex.new hp))))⟩
        · subst e
          cases ra
          exact c.1 rfl
        · subst e
          refine q _ H (Ex.refl H) ?_
          have e : (List.replicate (1 : Int).toNat ds).flatten = ds := by simp
          rw [e]
          exact .tup ha pa ra
      · rw [if_neg c] at h; cases h
    | _ => cases h
  | int i => exact .inl (so_mul _ _ z (by cases y <;> exact h) S H _ vy al (.int i) ry Q q)
  | lst ha ra => exact .inl (so_mul _ _ z (by cases y <;> exact h) S H _ vy al (.lst ha ra) ry Q q)
  | _ => cases y <;> cases h
def minU : List PD → Option PD
  | [.int i, .int j, .int k] => some (.int (if k < (if j < i then j else i) then k else (if j < i then j else i)))
  | xs => minP xs
end
end Uv

namespace Uv
open PySem PySem.Spec PyProof.Rows L2
open Evl (Ex)
def rGtD (K : PySem.W.Frag) : R2 := fun x y H Q => ∃ d e, Dp K H x d ∧ Dp K H y e ∧ SeqAt.shaped d = true ∧ PySem.W.alike d e = true ∧ d ≠ .none ∧ Q (.bl (PySem.W.dataLt e d)) H
theorem shaped_dep {d : PyData} (h : SeqAt.shaped d = true) : d.depth ≤ 64 := by
  unfold SeqAt.shaped at h
  rw [Bool.and_eq_true] at h
  exact of_decide_eq_true h.2
theorem op_gtD {X : Cx} (hu : X.A.units + 64 < cLine) : OpR X (compareOp .Gt) (rGtD X.K) := by
  intro pins s σ H x y v u Q I rx ry h
  obtain ⟨d, e, hd, he, sd, al, hn, q⟩ := h
  obtain ⟨as, r1⟩ := Dp.reads I d x v hd rx
  obtain ⟨bs, r2⟩ := Dp.reads I e y u he ry
  have := shaped_dep sd
  exact PySem.W.gt_data r1 r2 al hn (by omega) ⟨.bl _, H, I, rfl, q⟩
variable [kk : KK]
def rGtU (K : PySem.W.Frag) : R2 := fun x y H Q => oGt x y H Q ∨ rGtD K x y H Q
theorem op_gtU {X : Cx} (hu : X.A.units + 64 < cLine) : OpR X (compareOp .Gt) (rGtU X.K) := OpR.or op_gt (op_gtD hu)
def gtU : PD → PD → Option PD
  | .int i, .int j => some (.bool (decide (j < i)))
  | x, y => if SeqAt.shaped x = true ∧ SeqAt.shaped y = true ∧ PySem.W.alike x y = true ∧ isNone x = false then some (.bool (PySem.W.dataLt y x)) else none
omit kk in
theorem gtU_eq {x y z : PD} (h : gtU x y = some z) : (∃ i j, x = .int i ∧ y = .int j ∧ z = .bool (decide (j < i))) ∨ (SeqAt.shaped x = true ∧ SeqAt.shaped y = true ∧ PySem.W.alike x y = true ∧ isNone x = false ∧ z = .bool (PySem.W.dataLt y x)) := by
  unfold gtU at h
  split at h
  · cases h
    exact .inl ⟨_, _, rfl, rfl, rfl⟩
  · split at h
    · rename_i c
      cases h
      exact .inr ⟨c.1, c.2.1, c.2.2.1, c.2.2.2, rfl⟩
    · cases h
theorem so_gtU : SO (rGtU K) gtU := fun x y z h S H vx vy al rx ry Q q => by
  rcases gtU_eq h with ⟨i, j, rfl, rfl, rfl⟩ | ⟨c1, c2, c3, c4, rfl⟩
  · cases rx; cases ry
    exact .inl ⟨i, j, rfl, rfl, q _ H (Ex.refl H) (.bl _)⟩
  · refine .inr ⟨x, y, (rx.ex hid_le).dp (nodict c1), (ry.ex hid_le).dp (nodict c2), c1, c3, ?_, q _ H (Ex.refl H) (.bl _)⟩
    rintro rfl
    exact nomatch c4
end Uv

namespace Uv
open PySem PySem.Spec PyProof.Rows L2
open Evl (Ex)
abbrev Tri (h : Heap) (T : Addr) (a b c : Value) : Prop := h.get? T = some { cls := .type "tuple", data := .seq #[a, b, c] }
structure Z3 (h : Heap) (n l1 l2 l3 : Nat) (k : Nat) : Prop where
  z : IsZip h (n + 5) (n + 3) (n + 4) .none
  ti : Tri h (n + 3) (.ref n) (.ref (n + 1)) (.ref (n + 2))
  to : ∃ a b c, Tri h (n + 4) a b c
  t1 : h.IsTupleIter n l1 k
  t2 : h.IsTupleIter (n + 1) l2 k
  t3 : h.IsTupleIter (n + 2) l3 k
section
variable {prog : Program} {w : World} {A : Around} {E : Value → Shared → Prop} {s : Shared}
end
section
variable {prog : Program} {w : World} {A : Around} {E : Value → Shared → Prop} {s : Shared}
end
variable [kk : KK]
def zipD3 : List PD → List PD → List PD → List PD
  | x :: xs, y :: ys, z :: zs => .tuple [x, y, z] :: zipD3 xs ys zs
  | _, _, _ => []
def zip3P : List PD → Option (List PD)
  | [.tuple xs, .tuple ys, .tuple zs] => some (zipD3 xs ys zs)
  | _ => none
section
variable {S : Hs} {H : Hp}
end
section
variable {ts : TA}
end
end Uv

namespace Uv
open PySem PySem.Spec PyProof.Rows L2
open Evl (Ex)
theorem PE.mono {X : Cx} {e : Expr} {t u : TE} (h : PE X e t) (m : ∀ σ H Q, u σ H Q → t σ H Q) : PE X e u := ⟨fun pins s σ H Q I q => h.run pins s σ H Q I (m σ H Q q)⟩
section
variable {X : Cx} {ta : TE} {a : Expr} {p p2 q pos : Pos}
end
variable [kk : KK]
end Uv

namespace Uv
open PySem PySem.Spec PyProof.Rows L2
open Evl (Ex)
theorem u1 {k : Nat} {A : Around} (r : Room k A) : A.units + 1 < cLine := by have := r.un; omega
variable [kk : KK]
def hasD (l : List (Int × PD)) (n : Int) : Bool := l.any fun kv => decide (kv.1 = n)
def getD (l : List (Int × PD)) (n : Int) : Option PD := (l.find? fun kv => decide (kv.1 = n)).map (·.2)
def putD (l : List (Int × PD)) (n : Int) (d : PD) : List (Int × PD) := if hasD l n = true then l.map (fun kv => if kv.1 = n then (kv.1, d) else kv) else l ++ [(n, d)]
def dicAt (ρ : Env) (i : Nat) : Option (List (Int × PD)) := match ρ[i]? with
  | some (.dic l) => some l
  | _ => none
theorem Kvs.has {G : Hp} : ∀ {ks : List (Key × V)} {l : List (Int × PD)} (n : Int), Kvs G ks l → (ks.any fun kv => decide (kv.1 = .inl n)) = hasD l n
  | _, _, _, .nil => rfl
  | _, _, n, .cons (k := k) r c => by
    rw [List.any_cons, c.has n]
    show (decide ((Sum.inl k : Key) = .inl n) || _) = (decide (k = n) || _)
    congr 1
    exact Bool.eq_iff_iff.mpr (by simp)
theorem Kvs.repl {G : Hp} {v : V} {d : PD} (rv : Rp G v d) (n : Int) : ∀ {ks : List (Key × V)} {l : List (Int × PD)}, Kvs G ks l → Kvs G (ks.map fun kv => if kv.1 = .inl n then (kv.1, v) else kv) (l.map fun kv => if kv.1 = n then (kv.1, d) else kv)
  | _, _, .nil => .nil
  | _, _, .cons (k := k) r c => by
    rw [List.map_cons, List.map_cons]
    by_cases e : k = n
    · subst e
      rw [if_pos rfl, if_pos rfl]
      exact .cons rv (c.repl rv k)
    · rw [if_neg (fun z => e (Sum.inl.inj z)), if_neg e]
      exact .cons r (c.repl rv n)
theorem Kvs.snoc {G : Hp} {v : V} {d : PD} (rv : Rp G v d) (n : Int) : ∀ {ks : List (Key × V)} {l : List (Int × PD)}, Kvs G ks l → Kvs G (ks ++ [(.inl n, v)]) (l ++ [(n, d)])
  | _, _, .nil => .cons rv .nil
  | _, _, .cons r c => .cons r (c.snoc rv n)
theorem Kvs.put {G : Hp} {v : V} {d : PD} {ks : List (Key × V)} {l : List (Int × PD)} (c : Kvs G ks l) (rv : Rp G v d) (n : Int) : Kvs G (putK ks (.inl n) v) (putD l n d) := by
  unfold putK putD
  rw [c.has n]
  by_cases h : hasD l n = true
  · rw [if_pos h, if_pos h]; exact c.repl rv n
  · rw [if_neg h, if_neg h]; exact c.snoc rv n
theorem Kvs.get {G : Hp} : ∀ {ks : List (Key × V)} {l : List (Int × PD)} {n : Int} {d : PD}, Kvs G ks l → getD l n = some d → ∃ v, valV ks (.inl n) = some v ∧ Rp G v d
  | _, _, _, _, .nil, h => nomatch h
  | _, _, n, d, .cons (k := k) (v := v) (d := d') (l := l) r c, h => by
    by_cases e : k = n
    · subst e
      have h : getD ((k, d') :: _) k = some d := h
      unfold getD at h
      rw [List.find?_cons] at h
      simp at h
      subst h
      exact ⟨v, valV_pos rfl, r⟩
    · have h2 : getD l n = some d := by
        unfold getD at h ⊢
        rw [List.find?_cons] at h
        simpa [e] using h
      obtain ⟨u, h3, h4⟩ := c.get h2
      exact ⟨u, by rw [valV_neg (fun z => e (Sum.inl.inj z))]; exact h3, h4⟩
theorem Kvs.len {G : Hp} : ∀ {ks : List (Key × V)} {l : List (Int × PD)}, Kvs G ks l → ks.length = l.length
  | _, _, .nil => rfl
  | _, _, .cons _ c => by rw [List.length_cons, List.length_cons, c.len]
section
variable {pn : Option V} {F : Hs} {T : Trs} {H : Hp} {σ : L2.St} {ρ : Env}
end
def sDNew (i : Nat) : XS := fun ρ => if i < ρ.length then some (.nxt (ρ.set i (.dic []))) else none
def wDin (i : Nat) (k : XE) : XW := fun ρ => ((k (mk ρ)).bind isI).bind fun n => (dicAt ρ i).bind fun l => some (.bool (hasD l n), ρ)
def wDnot (i : Nat) (k : XE) : XW := fun ρ => ((k (mk ρ)).bind isI).bind fun n => (dicAt ρ i).bind fun l => some (.bool (!hasD l n), ρ)
def wDget (i : Nat) (k : XE) : XW := fun ρ => ((k (mk ρ)).bind isI).bind fun n => (dicAt ρ i).bind fun l => (getD l n).bind fun d => some (d, ρ)
def sDput (i : Nat) (k : XE) (a : XW) : XS := fun ρ => (a ρ).bind fun x => ((k (mk x.2)).bind isI).bind fun n => (dicAt x.2 i).bind fun l => if l.length < 100000 then some (.nxt (x.2.set i (.dic (putD l n x.1)))) else none
section
variable {tk te : TE} {k : XE} {w : XW}
end
end Uv

namespace Uv
open PySem PySem.Spec PyProof.Rows L2
open Evl (Ex)
variable [kk : KK]
def flatC : List Cel → Bool
  | [] => true
  | .dat d :: r => flat d && flatC r
  | .sub ds :: r => flats ds && flatC r
theorem Cels.flat {G G' H : Hp} (e : ∀ x o u, G x = some (.frz o u) → G' x = some (.frz o u)) : ∀ {vs : List V} {cs : List Cel} {B : List Addr}, flatC cs = true → Cels G H vs cs B → Cels G' H vs cs B
  | _, _, _, _, .nil => .nil
  | _, _, _, f, .dat r c => by
    rw [flatC, Bool.and_eq_true] at f
    exact .dat (Rp.flat e r f.1) (c.flat e f.2)
  | _, _, _, f, .sub hb r c => by
    rw [flatC, Bool.and_eq_true] at f
    exact .sub hb (RpAll.flat e r f.1) (c.flat e f.2)
theorem Own.flat {G G' H : Hp} (e : ∀ x o u, G x = some (.frz o u) → G' x = some (.frz o u)) {v : V} {cs : List Cel} {A : List Addr} (f : flatC cs = true) (o : Own G H v cs A) : Own G' H v cs A := by
  obtain ⟨a, vs, B, rfl, ha, c, rfl⟩ := o
  exact ⟨a, vs, B, rfl, ha, c.flat e f, rfl⟩
end Uv

namespace Uv
open PySem PySem.Spec PyProof.Rows L2
open Evl (Ex)
variable [kk : KK]
end Uv

namespace Uv
open PySem PySem.Spec PyProof.Rows L2
open Evl (Ex)
variable [kk : KK]
theorem Kvs.length {G : Hp} : ∀ {ks : List (Key × V)} {l : List (Int × PD)}, Kvs G ks l → ks.length = l.length
  | _, _, .nil => rfl
  | _, _, .cons _ c => by rw [List.length_cons, List.length_cons, c.length]
theorem Kvs.flat {G G' : Hp} (e : ∀ x o u, G x = some (.frz o u) → G' x = some (.frz o u)) : ∀ {ks : List (Key × V)} {l : List (Int × PD)}, Kvs G ks l → (∀ p ∈ l, Uv.flat p.2 = true) → Kvs G' ks l
  | _, _, .nil, _ => .nil
  | _, _, .cons r c, h => .cons (r.flat e (h _ (List.mem_cons_self ..))) (c.flat e fun p hp => h p (List.mem_cons_of_mem _ hp))
end Uv

namespace Uv
open PySem PySem.Spec PyProof.Rows L2
open Evl (Ex)
section
variable {X : Cx}
end
end Uv

namespace Uv
open PySem PySem.Spec PyProof.Rows L2
open Evl (Ex)
variable [kk : KK]
def fzO (i : Nat) : Out → Out
  | .nxt ρ => .nxt (fzE ρ i)
  | .brk ρ => .brk (fzE ρ i)
  | .cnt ρ => .cnt (fzE ρ i)
  | o => o
def sEn (i : Nat) (y : XS) : XS := fun ρ => (y ρ).bind fun o => some (fzO i o)
end Uv

namespace Uv
open PySem PySem.Spec PyProof.Rows L2
open Evl (Ex)
variable [kk : KK]
end Uv

namespace Uv
open PySem PySem.Spec PyProof.Rows L2
open Evl (Ex)
variable [kk : KK]
def vA (ρ : Env) (r : List PD) : VE := (vw ρ).set 4 (some (.list r))
structure AlsD (σ : L2.St) (H : Hp) : Prop where
  ex : ∃ a vs c, σ[0]? = some (some (.ref a)) ∧ H a = some (.lst vs) ∧ vs[2]? = some (.ref c) ∧ σ[4]? = some (some (.ref c))
section
variable {pn : Option V} {F : Hs} {T : Trs} {H H' : Hp} {σ : L2.St} {ρ : Env}
theorem AlsD.mv (e : Ex H H') (h : AlsD σ H) : AlsD σ H' := by
  obtain ⟨a, vs, c, h1, h2, h4, h6⟩ := h.ex
  exact ⟨a, vs, c, h1, e _ _ h2, h4, h6⟩
theorem AlsD.set {i : Nat} {o : Option V} (h : AlsD σ H) (h0 : i ≠ 0) (h4' : i ≠ 4) : AlsD (σ.set i o) H := by
  obtain ⟨a, vs, c, h1, h2, h4, h6⟩ := h.ex
  exact ⟨a, vs, c, by rw [List.getElem?_set_ne h0]; exact h1, h2, h4, by rw [List.getElem?_set_ne h4']; exact h6⟩
theorem StOk.subs (st : StOk pn F T H σ ρ) {i n : Nat} {cs : List Cel} {ds : List PD} (hi : ρ[i]? = some (.own cs)) (hn : cs[n]? = some (.sub ds)) : ∃ a vs b, σ[i]? = some (some (.ref a)) ∧ H a = some (.lst vs) ∧ vs[n]? = some (.ref b) ∧ Rp (hid F H) (.ref b) (.list ds) := by
  obtain ⟨a, vs, b, ws, g1, g2, g3, g4, g5, g6, f⟩ := st.writeSub (ds' := ds) hi hn
  refine ⟨a, vs, b, g1, g2, g3, ?_⟩
  have v1 : (Uv.vw ρ)[i]? = some (some (PyData.list (cs.map Cel.pd))) := by
    unfold Uv.vw
    rw [List.getElem?_map, hi]
    rfl
  obtain ⟨v, e1, r⟩ := st.vw.2 i _ v1
  rw [g1] at e1
  cases e1
  cases r with
  | lst h ra =>
    have h := hid_le _ _ h
    rw [g2] at h
    cases h
    obtain ⟨u, hu, ru⟩ := ra.get (i := n) (by rw [List.getElem?_map, hn]; rfl)
    rw [g3] at hu
    cases hu
    exact ru
theorem AlsD.en (st : StOk pn F T H σ ρ) (al : AlsD σ H) {r : List PD} {cs : List Cel} (hi : ρ[0]? = some (.own cs)) (h2 : cs[2]? = some (.sub r)) : En (hid F H) σ (vA ρ r) := by
  obtain ⟨a, vs, d, g1, g2, g4, g6⟩ := al.ex
  obtain ⟨a2, vs2, b2, j1, j2, j3, j4⟩ := st.subs hi h2
  rw [g1] at j1
  cases j1
  rw [g2] at j2
  cases j2
  rw [g4] at j3
  cases j3
  refine ⟨by unfold vA; simpa using st.vw.1, fun i x hx => ?_⟩
  unfold vA at hx
  by_cases c4 : i = 4
  · subst c4
    by_cases l : 4 < (Uv.vw ρ).length
    · rw [List.getElem?_set_self l] at hx
      cases hx
      exact ⟨_, g6, j4⟩
    · rw [List.getElem?_eq_none (by simp; omega)] at hx
      cases hx
  · rw [List.getElem?_set_ne (fun z => c4 z.symm)] at hx
    exact st.vw.2 i x hx
end

def iAt (x : XE) (v : VE) : Option Int := (x v).bind isI
def dkC (c : PD) (r : List PD) (n b : Int) : List Cel := [.dat c, .dat (.int n), .sub r, .dat (.int b)]
def eD (c : PD) (r : List PD) (n b : Int) (m : PD) (t0 b0 : Int) (z6 z7 : Sl) : Env := [.own (dkC c r n b), .dat m, .dat c, .dat (.int t0), .un, .dat (.int b0), z6, z7]
def sDraw (xs xt : XE) (xc : XT) (xd xv xb xf : XE) : XS
  | [.own [.dat c, .dat (.int n), .sub r, .dat (.int b)], .dat m, .un, .un, .un, .un, .un, .un] =>
    (iAt xs (vA (eD c r n b m n b .un .un) r)).bind fun s =>
    (iAt xt (vA (eD c r n b m n b (.dat (.int s)) .un) r)).bind fun t1 =>
    (xc (vA (eD c r t1 b m n b (.dat (.int s)) .un) r)).bind fun k =>
    if k = true then
      (iAt xd (vA (eD c r t1 b m n b (.dat (.int s)) .un) r)).bind fun d =>
      (iAt xv (vA (eD c r t1 b m n b (.dat (.int s)) (.dat (.int d))) r)).bind fun v =>
      (ixN r.length s).bind fun j => some (.ret (.int d) (eD c (r.set j (.int v)) t1 b m n b (.dat (.int s)) (.dat (.int d))))
    else
      (iAt xb (vA (eD c r t1 b m n b (.dat (.int s)) .un) r)).bind fun v =>
      (iAt xf (vA (eD c r t1 v m n b (.dat (.int s)) .un) r)).bind fun z => some (.ret (.int z) (eD c r t1 v m n b (.dat (.int s)) .un))
  | _ => none
section
variable {pn : Option V} {F : Hs} {T : Trs} {H H' : Hp} {σ : L2.St} {c : PD} {r : List PD} {n b t0 b0 : Int} {m : PD} {z6 z7 : Sl}
end
end Uv

namespace Uv
open PySem PySem.Spec PyProof.Rows L2
open Evl (Ex)
variable [kk : KK]
end Uv

namespace Uv
open PySem PySem.Spec PyProof.Rows L2
open Evl (Ex)
variable [kk : KK]
abbrev XWP := Env → Option (Option Int × Env)
def wpNo : XWP := fun ρ => some (none, ρ)
def wpPt (w : XW) : XWP := fun ρ => (w ρ).bind fun x => (isI x.1).bind fun i => some (some i, x.2)
def wSl (a : XW) (lo hi : XWP) : XW := fun ρ => (a ρ).bind fun x => (lo x.2).bind fun l => (hi l.2).bind fun u => (slP x.1 l.1 u.1).bind fun d => some (d, u.2)
end Uv

namespace Uv
open PySem PySem.Spec PyProof.Rows L2
open Evl (Ex)
variable [kk : KK]
end Uv

namespace Uv
open PySem PySem.Spec PyProof.Rows L2
open Evl (Ex)
structure Z2 (h : Heap) (n l1 l2 : Nat) (k : Nat) : Prop where
  z : IsZip h (n + 4) (n + 2) (n + 3) .none
  ti : IsPair h (n + 2) (.ref n) (.ref (n + 1))
  to : ∃ a b, IsPair h (n + 3) a b
  t1 : h.IsTupleIter n l1 k
  t2 : h.IsListIter (n + 1) l2 k
section
variable {prog : Program} {w : World} {A : Around} {E : Value → Shared → Prop} {s : Shared}
end
section
variable {prog : Program} {w : World} {A : Around} {E : Value → Shared → Prop} {s : Shared}
end
variable [kk : KK]
section
variable {S : Hs} {H : Hp}
end
section
variable {ts : TA}
end
end Uv

namespace Uv
open PySem PySem.Spec PyProof.Rows L2
open Evl (Ex)
variable [kk : KK]
end Uv

namespace Uv
open PySem PySem.Spec PyProof.Rows L2
open Evl (Ex)
structure ZL2 (h : Heap) (n l1 l2 : Nat) (k : Nat) : Prop where
  z : IsZip h (n + 4) (n + 2) (n + 3) .none
  ti : IsPair h (n + 2) (.ref n) (.ref (n + 1))
  to : ∃ a b, IsPair h (n + 3) a b
  t1 : h.IsListIter n l1 k
  t2 : h.IsTupleIter (n + 1) l2 k
section
variable {prog : Program} {w : World} {A : Around} {E : Value → Shared → Prop} {s : Shared}
end
section
variable {prog : Program} {w : World} {A : Around} {E : Value → Shared → Prop} {s : Shared}
end
variable [kk : KK]
section
variable {S : Hs} {H : Hp}
end
section
variable {ts : TA}
end
end Uv

namespace Uv
open PySem PySem.Spec PyProof.Rows L2
open Evl (Ex)
section
variable {X : Cx}
end
variable [kk : KK]
end Uv

namespace Uv
open PySem PySem.Spec PyProof.Rows L2
open Evl (Ex)
variable [kk : KK]
end Uv

namespace Uv
open PySem PySem.Spec PyProof.Rows L2
open Evl (Ex)
variable [kk : KK]
end Uv

namespace Uv
open PySem PySem.Spec PyProof.Rows L2
open Evl (Ex)
variable [kk : KK]
end Uv

namespace Uv
open PySem PySem.Spec PyProof.Rows L2
open Evl (Ex)
variable [kk : KK]
end Uv

namespace Uv
open PySem PySem.Spec PyProof.Rows L2
open Evl (Ex)
def excD (n : Nat) : PD := .dict [(.bool true, .int (n : Int))]
def isExc : PD → Option Nat
  | .dict [(.bool true, .int i)] => some i.toNat
  | _ => none
section
variable {P : Program} {w : World} {K : PySem.W.Frag} {mg : Str → Option Value} {base : Heap}
structure FnX (P : Program) (w : World) (K : PySem.W.Frag) (mg : Str → Option Value) (base : Heap) (k : Nat) (f : Addr) (fd : FuncData) (ps : List Str) (sp : Sp) : Prop where
  len : ∀ vs H Q E, sp vs H Q E → vs.length = ps.length
  run : ∀ (A : Around) (outer : List PySem.Env) (s : Shared) (H : Hp) (args : Args) (us : List Value) (vs : List V) (Q : VK) (E : XK), A.guards = some [] → Room k A → Env0 P w K mg base A outer s H → BindsTo s fd args (ps.zip us) → Vals vs us → sp vs H Q E →
    codeAny (model P w) A (.call (.ref f) args) (CR (L2.CX P w) outer P w H s Q E) s
structure CalX (P : Program) (w : World) (K : PySem.W.Frag) (mg : Str → Option Value) (base : Heap) (k : Nat) (x : Str) (sp : Sp) : Prop where
  ex : ∃ (f : Addr) (fd : FuncData) (ps : List Str), FnX P w K mg base k f fd ps sp ∧ mg x = some (.ref f) ∧ PySem.W.keepIn K (.ref f) = true ∧ Binds K fd ps []
theorem pe_gx {X : Cx} {j k : Nat} {x : Str} {sp : Sp} {p pos : Pos} {e : Expr} {es : List Expr} {t : TA} {W : WX} (c : CalX X.prog X.w X.K X.mg X.base k x sp) (hr : Room j X.A) (hk : k ≤ j) (hG : X.A.guards = some []) (hg : Gl X x) (tk : Takes X W) (ha : PA X (e :: es) t)
    (hdb : (x == ("__debug__" : Str)) = false := by decide) (he : starEach (e :: es) X.env = (false, eval e X.env) :: starEach es X.env := by rfl) (hpl : (backTo pos (starEach es X.env)).any (·.1) = false := by rfl) :
    PE X (.Call (.Name x p) (e :: es) [] pos) (tCallS sp (WE W) t) := by
  obtain ⟨f, fd, ps, F, hm, kp, b⟩ := c.ex
  refine ⟨fun pins s σ H Q I h => wpAny_Call_Name_kw (ld_glob I hg hm ?_ hdb)⟩
  refine PySem.W.callWith_K (h₀ := X.base) I.ok.mod.kin kp (thn (ha.run pos pins s σ H _ I h) fun us s1 hh => ?_) he hpl
  obtain ⟨vs, H1, I1, r, q⟩ := hh
  have hl : us.length = ps.length := by rw [← r.length]; exact F.len _ _ _ _ q
  have bd := b s1 us I1.kIn (by rw [List.append_nil]; exact hl)
  rw [List.append_nil] at bd
  refine ⟨I1.kIn, wpAny_call (codeAny_mono (F.run X.A X.stack s1 H1 ⟨us, []⟩ us vs Q (WE W σ) hG (hr.mono hk) I1.env0 bd r q) fun rr s' hq => ?_)⟩
  match rr, hq with
  | .error e, hq => exact passAt tk σ pins H1 s1 e s' I1 hq
  | .ok (.ret u), hq => exact I1.after hq
  | .ok .next, hq => exact hq.elim
  | .ok .brk, hq => exact hq.elim
  | .ok .cont, hq => exact hq.elim
theorem fn_x {x : Str} {st : Stmt} {f : Addr} {fd : FuncData} {N ps : List Str} {k : Nat} {sp : Sp} (F : Fun K x x st f fd) (S : FnScope N ps (defScope st)) (len : ∀ vs H Q E, sp vs H Q E → vs.length = ps.length)
    (hb : ∀ (cdv : Value) (A : Around) (outer : List PySem.Env) (s : Shared) (H : Hp) (E : XK), (A.deeper (envOfC x (defScope st) s.heap.objs.size f cdv)).guards = some [] → Room k (A.deeper (envOfC x (defScope st) s.heap.objs.size f cdv)) →
      ∃ t, PSs (cxOf (L2.CX P w) P w K mg base N x (defScope st) f cdv A outer s H E) (defBody st) t ∧ ∀ vs Q, sp vs H Q E → t { nx := fun _ H' => Q .non H', rt := Q } (L2.start N vs) H) : FnX P w K mg base (k + 1) f fd ps sp := by
  obtain ⟨oc, od, kV, doc, pm, an, cdv, ct, osl, rfl, lk, hcd⟩ := F.ex
  refine ⟨len, fun A outer s H args us vs Q E hG hr e0 hbd r hsp => ?_⟩
  obtain ⟨t, ht, hq⟩ := hb cdv A outer s H E hG (hr.deeper _)
  have keep : ∀ b o, base.get? b = some o → s.heap.get? b = some o := fun b o e => (e0.bs b o e).1
  have KX : K.In s.heap := e0.mod.kin.keeps keep
  have lim : s.heap.NoLimit := e0.mod.nolimit.keeps keep
  refine codeAny_call_function hr.depth (KX _ _ lk) rfl S.co S.gen rfl (PySem.W.codeRec_of KX hcd) (hbd _ _ _ _ ?_)
  refine wpAny_newFunctionEnv_cells S.kind (fun y hy => ?_) fun env he s1 ic => ?_
  · rcases S.par y.1 (List.of_mem_zip hy).1 with q | q
    · exact .inl q
    · exact .inr ⟨q, PySem.W.cellsFrom_some _ _ _ (.inl q)⟩
  · subst he
    have I : Inv (cxOf (L2.CX P w) P w K mg base N x (defScope st) f cdv A outer s H E) [] (L2.start N vs) H s1 := inv_start S hr.hd e0 (len _ _ _ _ hsp) r ic
    refine ⟨lim.keeps ic.toInCall.keep, codeAny_func (wpAny_mono (ht.run [] s1 (L2.start N vs) H _ I (hq vs Q hsp)) (fun fl s' hs => ?_) fun e s' hs => hs)⟩
    match fl, hs with
    | .ret u, ⟨v, σ', H', J, rv, q⟩ => exact ⟨v, H', J.os, J.bare, J.base, J.hok, rv, q⟩
    | .next, ⟨σ', H', J, q⟩ => exact ⟨.non, H', J.os, J.bare, J.base, J.hok, rfl, q⟩
    | .brk, ⟨_, _, _, q⟩ => exact q.elim
    | .cont, ⟨_, _, _, q⟩ => exact q.elim
theorem cal_x {x : Str} {st : Stmt} {N ps : List Str} {k : Nat} {sp : Sp} (F : Dfn K mg x st ps) (S : FnScope N ps (defScope st)) (len : ∀ vs H Q E, sp vs H Q E → vs.length = ps.length)
    (hb : ∀ (f : Addr) (cdv : Value) (A : Around) (outer : List PySem.Env) (s : Shared) (H : Hp) (E : XK), (A.deeper (envOfC x (defScope st) s.heap.objs.size f cdv)).guards = some [] → Room k (A.deeper (envOfC x (defScope st) s.heap.objs.size f cdv)) →
      ∃ t, PSs (cxOf (L2.CX P w) P w K mg base N x (defScope st) f cdv A outer s H E) (defBody st) t ∧ ∀ vs Q, sp vs H Q E → t { nx := fun _ H' => Q .non H', rt := Q } (L2.start N vs) H) : CalX P w K mg base (k + 1) x sp := by
  obtain ⟨f, fd, F, hm, b⟩ := F.ex
  exact ⟨f, fd, ps, fn_x F S len (hb f), hm, F.kp, b⟩
theorem pmk_own0 {X : Cx} {C : Addr} {bmB : List Value} {B newId initId : String} {x : Str} {p pos : Pos} (F : ExcBaseFacts B newId initId bmB) (q : PySem.W.excIn X.K C bmB newId = true) (gC : X.mg x = some (.ref C))
    (kC : PySem.W.keepIn X.K (.ref C) = true) (r : Raises X (.ref C)) (hg : Gl X x) (hdb : (x == ("__debug__" : Str)) = false := by decide) :
    PMk X (.Call (.Name x p) [] [] pos) (fun _ H Q => Q (.ref C) none H) := by
  intro pins s σ H Q I h
  refine wpAny_Call_Name_kw (ld_glob I hg gC ?_ hdb)
  refine PySem.W.callWith_K0 I.kIn kC ?_
  obtain ⟨bm, N, nm, qn, bs, hdct, sn, sub, ab, col, dd, k0, k1, k2, k3, k5, mN, hC, hN, hni, T⟩ := exc_obj I.kIn q
  refine wpAny_call_exc_subT F T hC hN hni (fun h' e hm => ?_) (by show 0 ≤ _; exact Nat.zero_le _)
  exact mk_of I hm r h (I.hok.gone hm.new)
end
theorem takes_no {X : Cx} : Takes X (fun _ _ _ _ => False) := fun _ _ x => by
  obtain ⟨_, _, _, _, _, _, _, _, _, _, _, _, _, _, _, _, z⟩ := x
  exact z.elim
def clsL (Cs : List Addr) (n : Nat) : Value := match Cs[n]? with
  | some C => .ref C
  | none => .none
variable [kk : KK]
theorem rp_noexc {H : Hp} {v : V} {d : PD} (r : Rp H v d) : isExc d = none := by
  cases r with
  | dct h l e ra =>
    rename_i ks xs ds ps
    subst e
    cases ks with
    | nil => rfl
    | cons k ks => cases ds <;> rfl
  | _ => rfl
def OutX (W : WX) (cl : Nat → Value) (pn : Option V) (F : Hs) (T : Trs) (H : Hp) (D : Ends) (o : Out) : Prop :=
  (∀ n ρ d, o = .ret d ρ → isExc d = some n → ∀ σ T' H', StOk pn F T' H' σ ρ → Stp F T H T' H' → W (cl n) none σ H') ∧ ((∀ d ρ, o = .ret d ρ → isExc d = none) → OutOk pn F T H D o)
def SSX (W : WX) (cl : Nat → Value) (ts : TS) (x : XS) : Prop := ∀ pn F T H σ ρ o D, StOk pn F T H σ ρ → x ρ = some o → OutX W cl pn F T H D o → ts D σ H
def sRaise (n : Nat) : XS := fun ρ => some (.ret (excD n) ρ)
section
variable {W : WX} {cl : Nat → Value} {t u : TS} {x y : XS} {ct : TT} {c : XWT}
theorem ssx_of (h : SS t x) : SSX W cl t x := fun pn F T H σ ρ o D st e q => h pn F T H σ ρ o D st e <| by
  by_cases z : ∀ d ρ, o = .ret d ρ → isExc d = none
  · exact q.2 z
  · cases o with
    | ret d ρ' =>
      intro v σ T' H' st s rv
      exact absurd (fun d2 ρ2 e2 => by cases e2; exact rp_noexc rv) z
    | _ => exact absurd (fun _ _ e => nomatch e) z
theorem ssx_raise {n : Nat} : SSX W cl (fun _ σ H => W (cl n) none σ H) (sRaise n) := fun pn F T H σ ρ o D st e q => by
  cases e
  exact q.1 n ρ _ rfl rfl σ T H st Stp.refl
theorem OutX.step {pn : Option V} {F : Hs} {T T1 : Trs} {H H1 : Hp} {D : Ends} (s : Stp F T H T1 H1) {o : Out} (h : OutX W cl pn F T H D o) : OutX W cl pn F T1 H1 D o :=
  ⟨fun n ρ d e i σ T' H' st s' => h.1 n ρ d e i σ T' H' st (s.trans s'), fun z => (h.2 z).step s⟩
theorem ssx_seq (hx : SSX W cl t x) (hy : SSX W cl u y) : SSX W cl (tSeq t u) (sSeq x y) := fun pn F T H σ ρ o D st e q => by
  obtain ⟨o1, h1, e⟩ := bind_some e
  cases o1 with
  | nxt ρ1 => exact hx pn F T H σ ρ _ { D with nx := u D } st h1 ⟨fun _ _ _ z => (nomatch z), fun _ σ2 T2 H2 st2 s2 => hy pn F T2 H2 σ2 ρ1 o D st2 e (q.step s2)⟩
  | ret d ρ1 => cases e; exact hx pn F T H σ ρ _ { D with nx := u D } st h1 ⟨q.1, fun z => q.2 z⟩
  | retO d ρ1 => cases e; exact hx pn F T H σ ρ _ { D with nx := u D } st h1 ⟨q.1, fun z => q.2 z⟩
  | brk ρ1 => cases e; exact hx pn F T H σ ρ _ { D with nx := u D } st h1 ⟨q.1, fun z => q.2 z⟩
  | cnt ρ1 => cases e; exact hx pn F T H σ ρ _ { D with nx := u D } st h1 ⟨q.1, fun z => q.2 z⟩
theorem ssx_if (hc : SWT ct c) (hx : SSX W cl t x) (hy : SSX W cl u y) : SSX W cl (tIfS ct t u) (sIf c x y) := fun pn F T H σ ρ o D st e q => by
  obtain ⟨⟨k, ρ1⟩, h1, e⟩ := bind_some e
  refine hc pn F T H σ ρ k ρ1 st h1 _ fun T1 H1 st1 s1 => ?_
  cases k with
  | true => exact hx pn F T1 H1 σ ρ1 o D st1 e (q.step s1)
  | false => exact hy pn F T1 H1 σ ρ1 o D st1 e (q.step s1)
end
def spX (cl : Nat → Value) (f : List PD → Option PD) : Sp := fun vs H Q E => ∃ S ds d, Al S H ∧ RpAll (hid S H) vs ds ∧ f ds = some d ∧ (∀ n, isExc d = some n → ∀ H2, Ex H H2 → E (cl n) none H2) ∧ (isExc d = none → ∀ v H2, Ex H H2 → Rp (hid S H2) v d → Q v H2)
theorem len_X {cl : Nat → Value} {n k : Nat} {X : XS} {vs : List V} {H : Hp} {Q : VK} {E : XK} (h : spX cl (runP n k X) vs H Q E) : vs.length = n := by
  obtain ⟨S, ds, d, _, ra, h, _⟩ := h
  unfold runP at h
  by_cases hn : ds.length = n
  · rw [ra.length]; exact hn
  · rw [if_neg hn] at h; cases h
theorem go_X {cl : Nat → Value} {t : TS} {X : XS} {N : List Str} {vs : List V} {H : Hp} {Q : VK} {E : XK} {n k : Nat} (hX : SSX (fun cls d _ H => E cls d H) cl t X) (hN : N.length = n + k) (hs : spX cl (runP n k X) vs H Q E) : t { nx := fun _ H' => Q .non H', rt := Q } (L2.start N vs) H := by
  obtain ⟨S, ds, d, al, ra, h, qx, q⟩ := hs
  unfold runP at h
  by_cases hn : ds.length = n
  · rw [if_pos hn] at h
    obtain ⟨o, h1, h⟩ := bind_some h
    have ex : ∀ {T' : Trs} {H' : Hp}, Stp S (fun _ => []) H T' H' → Ex H H' := fun {T' H'} s x o hx => by
      by_cases c : S x
      · rw [s.fr x c]; exact hx
      · exact hid_le _ _ (s.vis x o (by rw [hid_out (fun z => z.elim c fun ⟨_, z⟩ => nomatch z)]; exact hx))
    refine hX none S _ H _ _ o _ (st0 al ra hn hN) h1 ⟨fun n ρ d' e i σ T' H' st s => ?_, fun z => ?_⟩
    · subst e
      cases h
      exact qx n i H' (ex s)
    · cases o with
      | ret d' ρ' => cases h; exact fun v σ T' H' st' s' rv => q (z _ _ rfl) v H' (ex s') (rv.ex (hid_sub fun x hx => .inl hx))
      | nxt ρ' => cases h; exact fun σ T' H' st' s' => q rfl .non H' (ex s') .non
      | retO _ _ => cases h
      | brk _ => cases h
      | cnt _ => cases h
  · rw [if_neg hn] at h; cases h
end Uv

namespace Uv
open PySem PySem.Spec PyProof.Rows L2
open Evl (Ex)
def rIsET (K : PySem.W.Frag) (D a : Addr) : List V → Hp → VK → Prop := fun xs H Q => ∃ (tp : Addr) (Cs : List Addr) (b : Bool), xs = [.ref a, .ref tp] ∧ H tp = some (.tup (Cs.map V.ref)) ∧ PySem.W.kitAny K (.ref D) (Cs.map Value.ref) = some b ∧ Q (.bl b) H
theorem vals_refsE : ∀ {Cs : List Addr} {us : List Value}, Vals (Cs.map V.ref) us → us = Cs.map Value.ref
  | [], _, .nil => rfl
  | C :: Cs, u :: us, .cons h r => by
    have : u = Value.ref C := h
    rw [this, vals_refsE r]
    rfl
theorem kit_ref {K : PySem.W.Frag} {t : Value} {C : Addr} {b : Bool} (hd : PySem.W.hasDictIn K C = true) (ht : PySem.W.typeIn K (.ref C) = some (.type "type")) (h : PySem.W.subIn K t (.ref C) = some b) (hs : t = .ref C → b = true) : PySem.W.kitOne K t (.ref C) = some b := by
  obtain ⟨cd, hc, _⟩ := PySem.W.any_some hd
  unfold PySem.W.kitOne
  by_cases z : (t == Value.ref C) = true
  · rw [if_pos z, hs (by simpa using z)]
  · rw [if_neg z]
    unfold PySem.W.kitCls
    have e2 : ((PySem.W.clsIn K C).isSome && PySem.W.typeIn K (.ref C) == some (.type "type")) = true := by rw [hc, ht] <;> rfl
    show (if ((PySem.W.clsIn K C).isSome && PySem.W.typeIn K (.ref C) == some (.type "type")) = true then PySem.W.subIn K t (.ref C) else none) = some b
    rw [if_pos e2, h]
theorem kit_VE {K : PySem.W.Frag} {C : Addr} {b : Bool} (h : PySem.W.subIn K (.ref C) (.type "ValueError") = some b) : PySem.W.kitOne K (.ref C) (.type "ValueError") = some b := by
  unfold PySem.W.kitOne
  rw [if_neg (by simp)]
  show (if PySem.W.kitMeta "ValueError" = true then PySem.W.subIn K (.ref C) (.type "ValueError") else none) = some b
  rw [if_pos (by decide +kernel), h]
def onlyT (D : Addr) (t : Addr → TS) : Addr → Value → Option Addr → TS := fun a cls d D' σ H => (cls = .ref D ∧ d = none) ∧ t a D' σ H
theorem pss_only {X : Cx} {D a : Addr} {cls : Value} {d : Option Addr} {b : List Stmt} {t : Addr → TS} (h : cls = .ref D → d = none → PSs X b (t a)) : PSs X b (onlyT D t a cls d) := ⟨fun pins s σ H D' I ⟨⟨e1, e2⟩, q⟩ => (h e1 e2).run pins s σ H D' I q⟩
variable [kk : KK]
end Uv

namespace Uv
open PySem PySem.Spec PyProof.Rows L2
open Evl (Ex)
variable [kk : KK]
end Uv

namespace Uv
open PySem PySem.Spec PyProof.Rows L2
open Evl (Ex)
theorem call_isP {X : Cx} {a D : Addr} {oe : Obj} (hp : (a, oe) ∈ X.pn) (C : ExcC X.K D) (hz : Zc (.ref D) none oe) (hf : ∃ vs, oe.data = .fields vs) : CallR X (.builtin "isinstance") (rIsE X.K D a) := by
  intro pins s σ H xs us Q I r h
  obtain ⟨c, cv, b, rfl, hcv, e, q⟩ := h
  cases r with
  | cons rx rr =>
    cases rr with
    | cons rt rr =>
      cases rr
      cases rx
      have ec := hcv _ rt
      subst ec
      obtain ⟨hget, _⟩ := I.pin (a, oe) (List.mem_append.mpr (.inl hp))
      obtain ⟨vs, hv⟩ := hf
      have J : PySem.W.InstAt s.heap a oe D none := by
        obtain ⟨oc, od, oda, osl⟩ := oe
        obtain ⟨h1, h2⟩ := hz
        dsimp only at h1 h2 hv
        subst h1 h2 hv
        exact ⟨hget, rfl, rfl, trivial⟩
      exact PySem.W.kia_one (PySem.W.handS_kitx_exc C.hg C.hk C.hs C.hd C.ha C.hn C.ht C.hm) I.kIn J e (fun z => nomatch z) fun tk => ⟨.bl b, H, I.kept (t' := tk) fun _ _ z => z, rfl, q⟩
theorem call_isPT {X : Cx} {a D : Addr} {oe : Obj} (hp : (a, oe) ∈ X.pn) (C : ExcC X.K D) (hz : Zc (.ref D) none oe) (hf : ∃ vs, oe.data = .fields vs) : CallR X (.builtin "isinstance") (rIsET X.K D a) := by
  intro pins s σ H xs us Q I r h
  obtain ⟨tp, Cs, b, rfl, hT, e, q⟩ := h
  cases r with
  | cons rx rr =>
    cases rr with
    | cons rt rr =>
      cases rr
      cases rx
      cases rt
      obtain ⟨hget, _⟩ := I.pin (a, oe) (List.mem_append.mpr (.inl hp))
      obtain ⟨vs, hv⟩ := hf
      have J : PySem.W.InstAt s.heap a oe D none := by
        obtain ⟨oc, od, oda, osl⟩ := oe
        obtain ⟨h1, h2⟩ := hz
        dsimp only at h1 h2 hv
        subst h1 h2 hv
        exact ⟨hget, rfl, rfl, trivial⟩
      obtain ⟨_, its, rv, o, h1, h2, n, h3⟩ := (show ObjOk X.prog X.w H s.heap tp (.tup (Cs.map V.ref)) from I.hok tp _ hT)
      have e3 := vals_refsE rv
      subst e3
      obtain ⟨oc, od, dt, sl⟩ := o
      simp only at h2 h3
      subst h2 h3
      exact PySem.W.kia_tup (PySem.W.handS_kitx_exc C.hg C.hk C.hs C.hd C.ha C.hn C.ht C.hm) I.kIn J h1 e (fun z => nomatch z) fun tk => ⟨.bl b, H, I.kept (t' := tk) fun _ _ z => z, rfl, q⟩
section
variable {P : Program} {w : World} {K : PySem.W.Frag} {mg : Str → Option Value} {base : Heap}
structure FnE (P : Program) (w : World) (K : PySem.W.Frag) (mg : Str → Option Value) (base : Heap) (k : Nat) (f : Addr) (fd : FuncData) (p : Str) (D : Addr) (b : Bool) : Prop where
  run : ∀ (A : Around) (outer : List PySem.Env) (s : Shared) (H : Hp) (args : Args) (a : Addr) (oe : Obj) (Q : VK) (E : XK), L2H.RoomH k A → L2H.PinOk outer H s (a, oe) → Zc (.ref D) none oe → (∃ vs, oe.data = .fields vs) → Env0 P w K mg base A outer s H → BindsTo s fd args [(p, .ref a)] → (∀ H', Ex H H' → Q (.bl b) H') →
    codeAny (model P w) A (.call (.ref f) args) (CR CX0 outer P w H s Q E) s
structure CalE (P : Program) (w : World) (K : PySem.W.Frag) (mg : Str → Option Value) (base : Heap) (k : Nat) (x : Str) (D : Addr) (b : Bool) : Prop where
  ex : ∃ (f : Addr) (fd : FuncData) (p : Str), FnE P w K mg base k f fd p D b ∧ mg x = some (.ref f) ∧ PySem.W.keepIn K (.ref f) = true ∧ Binds K fd [p] []
theorem cal_e {x p : Str} {st : Stmt} {N : List Str} {k : Nat} {D : Addr} {b : Bool} (F : Dfn K mg x st [p]) (S : FnScope N [p] (defScope st))
    (hb : ∀ (f : Addr) (cdv : Value) (A : Around) (outer : List PySem.Env) (s : Shared) (H : Hp) (E : XK) (a : Addr) (oe : Obj), Zc (.ref D) none oe → (∃ vs, oe.data = .fields vs) →
      ∃ t, PSs (L2H.cxH CX0 P w K mg base N x (defScope st) f cdv A outer s H E (a, oe)) (defBody st) t ∧ ∀ Q : VK, (∀ H', Ex H H' → Q (.bl b) H') → t { nx := fun _ H' => Q .non H', rt := Q } (L2.start N [.ref a]) H) : CalE P w K mg base (k + 1) x D b := by
  obtain ⟨f, fd, F, hm, bd⟩ := F.ex
  refine ⟨f, fd, p, ⟨fun A outer s H args a oe Q E hr hpin hz hf e0 hbd hq => ?_⟩, hm, F.kp, bd⟩
  obtain ⟨oc, od, kV, doc, pm, an, cdv, ct, osl, rfl, lk, hcd⟩ := F.ex
  obtain ⟨t, ht, hQ⟩ := hb f cdv A outer s H E a oe hz hf
  have keep : ∀ b o, base.get? b = some o → s.heap.get? b = some o := fun b o e => (e0.bs b o e).1
  have KX : K.In s.heap := e0.mod.kin.keeps keep
  have lim : s.heap.NoLimit := e0.mod.nolimit.keeps keep
  refine codeAny_call_function hr.depth (KX _ _ lk) rfl S.co S.gen rfl (PySem.W.codeRec_of KX hcd) (hbd _ _ _ _ ?_)
  refine wpAny_newFunctionEnv_cells S.kind (fun y hy => ?_) fun env he s1 ic => ?_
  · have hy : y ∈ [p].zip [Value.ref a] := hy
    rcases S.par y.1 (List.of_mem_zip hy).1 with q | q
    · exact .inl q
    · exact .inr ⟨q, PySem.W.cellsFrom_some _ _ _ (.inl q)⟩
  · subst he
    have I : Inv (L2H.cxH CX0 P w K mg base N x (defScope st) f cdv A outer s H E (a, oe)) [] (L2.start N [.ref a]) H s1 := L2H.inv_startH (us := [.ref a]) (vs := [.ref a]) S hpin e0 rfl (.cons rfl .nil) ic
    refine ⟨lim.keeps ic.toInCall.keep, codeAny_func (wpAny_mono (ht.run [] s1 _ H _ I (hQ Q hq)) (fun fl s' hs => ?_) fun e s' hs => hs)⟩
    match fl, hs with
    | .ret u, ⟨v, σ', H', J, rv, q⟩ => exact ⟨v, H', J.os, J.bare, J.base, J.hok, rv, q⟩
    | .next, ⟨σ', H', J, q⟩ => exact ⟨.non, H', J.os, J.bare, J.base, J.hok, rfl, q⟩
    | .brk, ⟨_, _, _, q⟩ => exact q.elim
    | .cont, ⟨_, _, _, q⟩ => exact q.elim
def tCallE (a : Addr) (b : Bool) (t : TA) : TE := fun σ H Q => t σ H fun vs H1 => vs = [.ref a] ∧ ∀ H', Ex H1 H' → Q (.bl b) H'
theorem pe_gE {X : Cx} {j k : Nat} {x : Str} {q pos : Pos} {e : Expr} {t : TA} {a D : Addr} {oe : Obj} {pn : List (Addr × Obj)} {b : Bool} (c : CalE X.prog X.w X.K X.mg X.base k x D b) (hr : Room j X.A) (hk : k ≤ j) (hg : Gl X x) (hz : Zc (.ref D) none oe) (hf : ∃ vs, oe.data = .fields vs) (ha : PA (X.suite a ((a, oe) :: pn)) [e] t)
    (hdb : (x == ("__debug__" : Str)) = false := by decide) (he : starEach [e] X.env = (false, eval e X.env) :: starEach [] X.env := by rfl) (hpl : (backTo pos (starEach [] X.env)).any (·.1) = false := by rfl) :
    PE (X.suite a ((a, oe) :: pn)) (.Call (.Name x q) [e] [] pos) (tCallE a b t) := by
  obtain ⟨f, fd, p, F, hm, kp, bd⟩ := c.ex
  refine ⟨fun pins s σ H Q I h => wpAny_Call_Name_kw (ld_glob I hg hm ?_ hdb)⟩
  refine PySem.W.callWith_K (h₀ := X.base) I.ok.mod.kin kp (thn (ha.run pos pins s σ H _ I h) fun us s1 ⟨vs, H1, I1, r, ev, q⟩ => ⟨I1.kIn, ?_⟩) he hpl
  subst ev
  obtain rfl := Vals.ref1 r
  have bb := bd s1 [.ref a] I1.kIn rfl
  obtain ⟨P1, P2, P3, P4, P5⟩ := I1.pin (a, oe) (List.mem_append.mpr (.inl List.mem_cons_self))
  have hpin : L2H.PinOk X.stack H1 s1 (a, oe) := ⟨P1, P2, fun hm => (List.mem_cons.mp (I1.stkSub a hm)).elim P3 P4, P5⟩
  refine wpAny_call (codeAny_mono (F.run _ X.stack s1 H1 ⟨[.ref a], []⟩ a oe Q E0 ⟨(hr.mono hk).dp, (hr.mono hk).un⟩ hpin hz hf I1.env0 bb q) fun r s' hq => ?_)
  match r, hq with
  | .error _, hq => exact hq.elim
  | .ok (.ret u), hq => exact I1.after hq
  | .ok .next, hq => exact hq.elim
  | .ok .brk, hq => exact hq.elim
  | .ok .cont, hq => exact hq.elim
end
end Uv

namespace Uv
open PySem PySem.Spec PyProof.Rows L2
open Evl (Ex)
def tFullE (K : PySem.W.Frag) (D C1 C2 C3 a : Addr) : TS :=
  tRet (tAndV (tCB (rIsE K D a) (tCons (tVar 0) (tCons (tC (.ty "ValueError")) tNil))) (tAndV (tCB (rIsE K D a) (tCons (tVar 0) (tCons (tC (.ref D)) tNil))) (tNotV (tCB (rIsET K D a) (tCons (tVar 0) (tCons (tTup (tCons (tC (.ref C1)) (tCons (tC (.ref C2)) (tCons (tC (.ref C3)) tNil)))) tNil))))))
theorem tFullE_ok {K : PySem.W.Frag} {D C1 C2 C3 a : Addr} {D' : Ends} {σ : L2.St} {H : Hp} (h : σ[0]? = some (some (.ref a)))
    (k1 : PySem.W.kitOne K (.ref D) (.ref D) = some true) (k2 : PySem.W.kitOne K (.ref D) (.type "ValueError") = some true) (k3 : PySem.W.kitAny K (.ref D) [.ref C1, .ref C2, .ref C3] = some false) (q : ∀ H', Ex H H' → D'.rt (.bl true) H') : tFullE K D C1 C2 C3 a D' σ H := by
  refine ⟨.ref a, h, .ty "ValueError", .type "ValueError", true, rfl, fun u r => r, k2, true, rfl, ?_⟩
  rw [if_pos rfl]
  refine ⟨.ref a, h, .ref D, .ref D, true, rfl, fun u r => r, k1, true, rfl, ?_⟩
  rw [if_pos rfl]
  refine ⟨.ref a, h, (by show 3 ≤ sizeLine; rw [sizeLine_eq]; omega), fun p hp => ⟨p, [C1, C2, C3], false, rfl, upd_same, k3, false, rfl, ?_⟩⟩
  exact q _ (Ex.new hp)
theorem ex_free0 {H H1 : Hp} {p : Addr} (e : Ex H H1) (hp : H1 p = none) : H p = none := by
  cases q : H p with
  | none => rfl
  | some o => rw [e _ _ q] at hp; cases hp
def suite59 (K : PySem.W.Frag) (i j : Nat) (a : Addr) : TS :=
  tAsg (tLst (tCons (tOp (rIx K) (tLst (tCons (tC (.str "other")) (tCons (tC (.str "full")) tNil))) (tCB rIntQ (tCons (tCallE a true (tCons (tVar i) tNil)) tNil))) tNil)) (gName j)
theorem suite59_ok {K : PySem.W.Frag} {i j : Nat} {a : Addr} {D' : Ends} {σ : L2.St} {H : Hp} (h : σ[i]? = some (some (.ref a)))
    (q : ∀ p H', Ex H H' → H p = none → H' p = some (.lst [.str "full"]) → D'.nx (σ.set j (some (.ref p))) H') : suite59 K i j a D' σ H := by
  refine ⟨(by show 2 ≤ sizeLine; rw [sizeLine_eq]; omega), fun l hl => ⟨.ref a, h, rfl, fun H1 e1 => .inr ⟨true, rfl, .inl ⟨l, [.str "other", .str "full"], 1, .str "full", rfl, rfl, .inl (.inl (e1 _ _ upd_same)), rfl, ?_⟩⟩⟩⟩
  refine ⟨(by show 1 ≤ sizeLine; rw [sizeLine_eq]; omega), fun p hp => q p _ (((Ex.new hl).trans e1).trans (Ex.new hp)) ?_ upd_same⟩
  exact ex_free0 ((Ex.new hl).trans e1) hp
variable [kk : KK]
section
variable {W : WX} {cl : Nat → Value}
def sDropX (f : List PD → Option PD) (as : XA) : XS := fun ρ => (as (mk ρ)).bind fun xs => (f xs).bind fun d => match isExc d with
  | none => some (.nxt ρ)
  | some n => some (.ret (excD n) ρ)
theorem ssx_dropX {f : List PD → Option PD} {ts : TA} {as : XA} (hs : SA ts as) : SSX W cl (tDrop (tCallS (spX cl f) (WE W) ts)) (sDropX f as) := fun pn F T H σ ρ o D st e q => by
  obtain ⟨xs, h1, e⟩ := bind_some e
  obtain ⟨d, h2, e⟩ := bind_some e
  refine hs _ _ h1 (SF F T) σ H st.als st.mkd _ fun vs H1 e1 rv => ⟨SF F T, xs, d, st.als.ex e1, rv, h2, fun n i H2 e2 => ?_, fun i v H2 e2 r2 => ?_⟩
  · rw [i] at e
    have e : some (Out.ret (excD n) ρ) = some o := e
    cases e
    exact q.1 n ρ _ rfl rfl σ T H2 ((st.ex e1).ex e2) ((Stp.ex st.al e1).trans (Stp.ex (st.ex e1).al e2))
  · rw [i] at e
    have e : some (Out.nxt ρ) = some o := e
    cases e
    exact q.2 (fun _ _ z => nomatch z) σ T H2 ((st.ex e1).ex e2) ((Stp.ex st.al e1).trans (Stp.ex (st.ex e1).al e2))
end
def sTryB (f : List PD → Option PD) (as : XA) (cs : List Nat) (v : Str) (i j m : Nat) : XS := fun ρ => if ρ.length = m then (as (mk ρ)).bind fun xs => (f xs).bind fun d => match isExc d with
  | none => some (.nxt (ρ.set j (.dat d)))
  | some n => if n ∈ cs then some (.nxt ((ρ.set i .un).set j (.dat (.list [.str v])))) else none else none
def tTryB (K : PySem.W.Frag) (cl : Nat → Value) (f : List PD → Option PD) (ts : TA) (c : Value) (i j : Nat) (tsu : Addr → Value → Option Addr → TS) : TS := fun D σ H => tAsg (tCallS (spX cl f) (WE (wAs K c i tsu (fun _ _ _ _ => False) D)) ts) (gName j) D σ H
theorem ss_tryB {cl : Nat → Value} {f : List PD → Option PD} {ts : TA} {as : XA} {c : Value} {i j m : Nat} {tsu : Addr → Value → Option Addr → TS} {cs : List Nat} {x : Str} (hs : SA ts as) (hc : ∀ n ∈ cs, PySem.W.exmOne K (cl n) c = some true)
    (hy : ∀ (a : Addr) (n : Nat), n ∈ cs → ∀ (D' : Ends) (σ : L2.St) (H : Hp), i < σ.length → (∀ p H', Ex H H' → H p = none → H' p = some (.lst [.str x]) → D'.nx ((σ.set i (some (.ref a))).set j (some (.ref p))) H') → tsu a (cl n) none D' (σ.set i (some (.ref a))) H) (im : i < m) (i0 : i ≠ 0) (j0 : j ≠ 0) (ij : i ≠ j) : SS (tTryB K cl f ts c i j tsu) (sTryB f as cs x i j m) := fun pn F T H σ ρ o D st e q => by
  by_cases lm : ρ.length = m
  case neg =>
    have e : (if ρ.length = m then _ else none) = some o := e
    rw [if_neg lm] at e
    cases e
  have e : (if ρ.length = m then _ else none) = some o := e
  rw [if_pos lm] at e
  have lm : σ.length = m := st.len.trans lm
  obtain ⟨xs, h1, e⟩ := bind_some e
  obtain ⟨d, h2, e⟩ := bind_some e
  refine hs _ _ h1 (SF F T) σ H st.als st.mkd _ fun vs H1 e1 rv => ⟨SF F T, xs, d, st.als.ex e1, rv, h2, fun n k H2 e2 => ?_, fun k v H2 e2 r2 => ?_⟩
  · rw [k] at e
    have e : (if n ∈ cs then some (Out.nxt ((ρ.set i .un).set j (.dat (.list [.str x])))) else none) = some o := e
    by_cases m' : n ∈ cs
    · rw [if_pos m'] at e
      cases e
      refine ⟨true, hc n m', fun _ a _ => hy a n m' _ σ H2 (by omega) fun p H' e3 hp hp' => ?_, fun z => nomatch z⟩
      have st2 := (st.ex e1).ex e2
      have st3 := st2.ex e3
      obtain ⟨st4, s4⟩ := st3.drop (i := i) (o := none) (s := .un) i0 rfl
      have rp : Rp (hid (SF F (setT T i [])) H') (.ref p) (.list [.str x]) := .lst (by rw [hid_out]; exact hp'; exact st2.als.new hp ∘ fun z => SF_setT_nil p z) (.cons (.str x) .nil)
      obtain ⟨st5, s5⟩ := st4.set (i := j) j0 rp
      have es : (((σ.set i (some (.ref a))).set j (some (.ref p))).set i none) = (σ.set i none).set j (some (.ref p)) := by
        rw [List.set_comm _ _ (Ne.symm ij), List.set_set]
      show D.nx (((σ.set i (some (.ref a))).set j (some (.ref p))).set i none) H'
      rw [es]
      exact q _ _ H' st5 ((((Stp.ex st.al e1).trans (Stp.ex (st.ex e1).al e2)).trans (Stp.ex st2.al e3)).trans (s4.trans s5))
    · rw [if_neg m'] at e
      cases e
  · rw [k] at e
    have e : some (Out.nxt (ρ.set j (.dat d))) = some o := e
    cases e
    have st2 := (st.ex e1).ex e2
    obtain ⟨st5, s5⟩ := st2.set (i := j) j0 r2
    exact q _ _ H2 st5 (((Stp.ex st.al e1).trans (Stp.ex (st.ex e1).al e2)).trans s5)
theorem ps_tryB {X : Cx} {x n : Str} {c : Value} {i j : Nat} {cl : Nat → Value} {g : List PD → Option PD} {t : TA} {np pos pos' : Pos} {b₀ b₁ : Stmt} {suite : List Stmt} {tsu : Addr → Value → Option Addr → TS}
    (hs : X.stack = X.env :: X.outer) (hf : X.env.frame = some X.env.locals) (hN : X.N.Nodup) (hi : X.N[i]? = some n) (hln : X.env.kindOf n = some .local) (hc : Names X x c) (tk : Takes X fun _ _ _ _ => False)
    (hb : ∀ (W : WX) (pn : List (Addr × Obj)) (xe : Value → Shared → Prop), Takes (X.tr pn xe) W → PS (X.tr pn xe) b₀ (tAsg (tCallS (spX cl g) (WE W) t) (gName j)))
    (hsu : ∀ (a : Addr) (oe : Obj) (cls : Value) (d : Option Addr) (pn : List (Addr × Obj)), Zc cls d oe → (∃ vs, oe.data = .fields vs) → PSs (X.suite a ((a, oe) :: pn)) (b₁ :: suite) (tsu a cls d)) :
    PS X (.Try [b₀] [.ExceptHandler (some (.Name x np)) (some n) (b₁ :: suite) pos'] [] [] pos) (tTryB X.K cl g t c i j tsu) :=
  ps_try_as (tb := fun W => tAsg (tCallS (spX cl g) (WE W) t) (gName j)) hs hf hN hi hln hc tk (fun W pn xe tk _ => pss_one (hb W pn xe tk)) hsu
end Uv

namespace Uv
open PySem PySem.Spec PyProof.Rows L2
def Tag {α : Type} (x : α) : Type := Unit
def tag {α : Type} (x : α) : Tag x := ()
def wp {α : Type} (o : Option α) {Q : α → Prop} (_ : Tag Q) : Prop := ∃ a, o = some a ∧ Q a
@[simp] theorem wp_some {α : Type} {a : α} {Q : α → Prop} : wp (some a) (tag Q) = Q a := propext ⟨fun ⟨b, e, q⟩ => by cases e; exact q, fun q => ⟨a, rfl, q⟩⟩
@[simp] theorem wp_none {α : Type} {Q : α → Prop} : wp none (tag Q) = False := propext ⟨fun ⟨b, e, q⟩ => (nomatch e), fun q => q.elim⟩
@[simp] theorem wp_bind {α β : Type} {o : Option α} {f : α → Option β} {Q : β → Prop} : wp (o.bind f) (tag Q) = wp o (tag fun a => wp (f a) (tag Q)) := propext (by
  cases o with
  | none => simp
  | some a => simp)
theorem wp_mono {α : Type} {o : Option α} {Q R : α → Prop} (h : wp o (tag Q)) (hq : ∀ a, Q a → R a) : wp o (tag R) := let ⟨a, e, q⟩ := h; ⟨a, e, hq a q⟩
theorem wp_eq {α : Type} {o : Option α} {a : α} : wp o (tag fun x => x = a) ↔ o = some a := ⟨fun ⟨b, e, q⟩ => by rw [e, q], fun e => ⟨a, e, rfl⟩⟩
def alt {α : Type} (b : Bool) {x y : Option α} (_ : Tag x) (_ : Tag y) : Option α := if b = true then x else y
@[simp] theorem alt_t {α : Type} {x y : Option α} : alt true (tag x) (tag y) = x := (rfl)
@[simp] theorem alt_f {α : Type} {x y : Option α} : alt false (tag x) (tag y) = y := (rfl)
theorem wp_alt {α : Type} {b : Bool} {x y : Option α} {Q : α → Prop} (h1 : b = true → wp x (tag Q)) (h2 : b = false → wp y (tag Q)) : wp (alt b (tag x) (tag y)) (tag Q) := by cases b; exact h2 rfl; exact h1 rfl
theorem wp_altd {α : Type} {c : Prop} [Decidable c] {x y : Option α} {Q : α → Prop} (h1 : c → wp x (tag Q)) (h2 : ¬ c → wp y (tag Q)) : wp (alt (decide c) (tag x) (tag y)) (tag Q) := wp_alt (fun h => h1 (of_decide_eq_true h)) (fun h => h2 (of_decide_eq_false h))
def orO (b : Bool) (x : Option Bool) : Option Bool := if b = true then some true else x
def andO (b : Bool) (x : Option Bool) : Option Bool := if b = true then x else some false
def orV (b : Bool) (x : Option PD) : Option PD := if b = true then some (.bool true) else x
def andV (b : Bool) (x : Option PD) : Option PD := if b = true then x else some (.bool false)
@[simp] theorem orO_s {b c : Bool} : orO b (some c) = some (b || c) := by cases b <;> rfl
@[simp] theorem andO_s {b c : Bool} : andO b (some c) = some (b && c) := by cases b <;> rfl
@[simp] theorem orV_s {b c : Bool} : orV b (some (.bool c)) = some (.bool (b || c)) := by cases b <;> rfl
@[simp] theorem andV_s {b c : Bool} : andV b (some (.bool c)) = some (.bool (b && c)) := by cases b <;> rfl
@[simp] theorem orO_t {x : Option Bool} : orO true x = some true := (rfl)
@[simp] theorem orO_f {x : Option Bool} : orO false x = x := (rfl)
@[simp] theorem andO_t {x : Option Bool} : andO true x = x := (rfl)
@[simp] theorem andO_f {x : Option Bool} : andO false x = some false := (rfl)
@[simp] theorem orV_t {x : Option PD} : orV true x = some (.bool true) := (rfl)
@[simp] theorem orV_f {x : Option PD} : orV false x = x := (rfl)
@[simp] theorem andV_t {x : Option PD} : andV true x = x := (rfl)
@[simp] theorem andV_f {x : Option PD} : andV false x = some (.bool false) := (rfl)
noncomputable def grd {α : Type} (c : Prop) (x : Option α) : Option α := open Classical in if c then x else none
theorem grd_ite {α : Type} {c : Prop} [Decidable c] {x : Option α} : (if c then x else none) = grd c x := by
  unfold grd
  by_cases h : c
  · rw [if_pos h, if_pos h]
  · rw [if_neg h, if_neg h]
theorem grd_pos {α : Type} {c : Prop} {x : Option α} (h : c) : grd c x = x := if_pos h
theorem grd_iff {α : Type} {c c' : Prop} {x : Option α} (h : c ↔ c') : grd c x = grd c' x := by rw [propext h]
@[simp] theorem grd_true {α : Type} {x : Option α} : grd True x = x := grd_pos trivial
@[simp] theorem wp_grd {α : Type} {c : Prop} {x : Option α} {Q : α → Prop} : wp (grd c x) (tag Q) = (c ∧ wp x (tag Q)) := by
  by_cases h : c
  · rw [grd_pos h]; simp [h]
  · unfold grd; rw [if_neg h]; simp [h]
@[simp] theorem bind_some' {α β : Type} {x : α} {f : α → Option β} : (some x).bind f = f x := (rfl)
def seqK (y : XS) : Out → Option Out
  | .nxt ρ => y ρ
  | o => some o
@[simp] theorem q_sSeq {x y : XS} {ρ : Env} : sSeq x y ρ = (x ρ).bind (seqK y) := by
  unfold sSeq
  congr 1
@[simp] theorem seqK_nxt {y : XS} {ρ : Env} : seqK y (.nxt ρ) = y ρ := (rfl)
@[simp] theorem seqK_ret {y : XS} {d : PD} {ρ : Env} : seqK y (.ret d ρ) = some (.ret d ρ) := (rfl)
@[simp] theorem seqK_retO {y : XS} {d : List Cel} {ρ : Env} : seqK y (.retO d ρ) = some (.retO d ρ) := (rfl)
@[simp] theorem seqK_brk {y : XS} {ρ : Env} : seqK y (.brk ρ) = some (.brk ρ) := (rfl)
@[simp] theorem seqK_cnt {y : XS} {ρ : Env} : seqK y (.cnt ρ) = some (.cnt ρ) := (rfl)

structure In62 (j : Int) : Prop where
  lo : -(2 ^ 62) ≤ j
  hi : j < 2 ^ 62
structure In63 (j : Int) : Prop where
  lo : -(2 ^ 63) < j
  hi : j < 2 ^ 63
structure In63e (j : Int) : Prop where
  lo : -(2 ^ 63) ≤ j
  hi : j < 2 ^ 63
theorem in63e_nat {n : Nat} (h : n < 1000000000000) : In63e (n : Int) := ⟨by omega, by omega⟩
structure In64 (j : Int) : Prop where
  lo : -(2 ^ 64) < j
  hi : j < 2 ^ 64
theorem in62_nat {n : Nat} (h : n < 1000000000000) : In62 (n : Int) := ⟨by omega, by omega⟩
structure Dvr (j : Int) : Prop where
  lo : 0 < j
  hi : j < 2 ^ 64
@[simp] theorem in62_l0 : In62 0 = True := eq_true ⟨by decide, by decide⟩
@[simp] theorem in63_l0 : In63 0 = True := eq_true ⟨by decide, by decide⟩
@[simp] theorem in63e_l0 : In63e 0 = True := eq_true ⟨by decide, by decide⟩
@[simp] theorem in64_l0 : In64 0 = True := eq_true ⟨by decide, by decide⟩
@[simp] theorem in62_l1 : In62 1 = True := eq_true ⟨by decide, by decide⟩
@[simp] theorem in63_l1 : In63 1 = True := eq_true ⟨by decide, by decide⟩
@[simp] theorem in63e_l1 : In63e 1 = True := eq_true ⟨by decide, by decide⟩
@[simp] theorem in64_l1 : In64 1 = True := eq_true ⟨by decide, by decide⟩
@[simp] theorem dvr_l1 : Dvr 1 = True := eq_true ⟨by decide, by decide⟩
@[simp] theorem in62_l2 : In62 2 = True := eq_true ⟨by decide, by decide⟩
@[simp] theorem in63_l2 : In63 2 = True := eq_true ⟨by decide, by decide⟩
@[simp] theorem in63e_l2 : In63e 2 = True := eq_true ⟨by decide, by decide⟩
@[simp] theorem in64_l2 : In64 2 = True := eq_true ⟨by decide, by decide⟩
@[simp] theorem dvr_l2 : Dvr 2 = True := eq_true ⟨by decide, by decide⟩
@[simp] theorem in62_l3 : In62 3 = True := eq_true ⟨by decide, by decide⟩
@[simp] theorem in63_l3 : In63 3 = True := eq_true ⟨by decide, by decide⟩
@[simp] theorem in63e_l3 : In63e 3 = True := eq_true ⟨by decide, by decide⟩
@[simp] theorem in64_l3 : In64 3 = True := eq_true ⟨by decide, by decide⟩
@[simp] theorem dvr_l3 : Dvr 3 = True := eq_true ⟨by decide, by decide⟩
@[simp] theorem in62_l4 : In62 4 = True := eq_true ⟨by decide, by decide⟩
@[simp] theorem in63_l4 : In63 4 = True := eq_true ⟨by decide, by decide⟩
@[simp] theorem in63e_l4 : In63e 4 = True := eq_true ⟨by decide, by decide⟩
@[simp] theorem in64_l4 : In64 4 = True := eq_true ⟨by decide, by decide⟩
@[simp] theorem dvr_l4 : Dvr 4 = True := eq_true ⟨by decide, by decide⟩
@[simp] theorem in62_l5 : In62 5 = True := eq_true ⟨by decide, by decide⟩
@[simp] theorem in63_l5 : In63 5 = True := eq_true ⟨by decide, by decide⟩
@[simp] theorem in63e_l5 : In63e 5 = True := eq_true ⟨by decide, by decide⟩
@[simp] theorem in64_l5 : In64 5 = True := eq_true ⟨by decide, by decide⟩
@[simp] theorem dvr_l5 : Dvr 5 = True := eq_true ⟨by decide, by decide⟩
@[simp] theorem in62_l6 : In62 6 = True := eq_true ⟨by decide, by decide⟩
@[simp] theorem in63_l6 : In63 6 = True := eq_true ⟨by decide, by decide⟩
@[simp] theorem in63e_l6 : In63e 6 = True := eq_true ⟨by decide, by decide⟩
@[simp] theorem in64_l6 : In64 6 = True := eq_true ⟨by decide, by decide⟩
@[simp] theorem dvr_l6 : Dvr 6 = True := eq_true ⟨by decide, by decide⟩
@[simp] theorem in62_l7 : In62 7 = True := eq_true ⟨by decide, by decide⟩
@[simp] theorem in63_l7 : In63 7 = True := eq_true ⟨by decide, by decide⟩
@[simp] theorem in63e_l7 : In63e 7 = True := eq_true ⟨by decide, by decide⟩
@[simp] theorem in64_l7 : In64 7 = True := eq_true ⟨by decide, by decide⟩
@[simp] theorem dvr_l7 : Dvr 7 = True := eq_true ⟨by decide, by decide⟩
@[simp] theorem in62_l8 : In62 8 = True := eq_true ⟨by decide, by decide⟩
@[simp] theorem in63_l8 : In63 8 = True := eq_true ⟨by decide, by decide⟩
@[simp] theorem in63e_l8 : In63e 8 = True := eq_true ⟨by decide, by decide⟩
@[simp] theorem in64_l8 : In64 8 = True := eq_true ⟨by decide, by decide⟩
@[simp] theorem dvr_l8 : Dvr 8 = True := eq_true ⟨by decide, by decide⟩
@[simp] theorem in62_l9 : In62 9 = True := eq_true ⟨by decide, by decide⟩
@[simp] theorem in63_l9 : In63 9 = True := eq_true ⟨by decide, by decide⟩
@[simp] theorem in63e_l9 : In63e 9 = True := eq_true ⟨by decide, by decide⟩
@[simp] theorem in64_l9 : In64 9 = True := eq_true ⟨by decide, by decide⟩
@[simp] theorem dvr_l9 : Dvr 9 = True := eq_true ⟨by decide, by decide⟩
@[simp] theorem in62_l10 : In62 10 = True := eq_true ⟨by decide, by decide⟩
@[simp] theorem in63_l10 : In63 10 = True := eq_true ⟨by decide, by decide⟩
@[simp] theorem in63e_l10 : In63e 10 = True := eq_true ⟨by decide, by decide⟩
@[simp] theorem in64_l10 : In64 10 = True := eq_true ⟨by decide, by decide⟩
@[simp] theorem dvr_l10 : Dvr 10 = True := eq_true ⟨by decide, by decide⟩
@[simp] theorem in62_l11 : In62 11 = True := eq_true ⟨by decide, by decide⟩
@[simp] theorem in63_l11 : In63 11 = True := eq_true ⟨by decide, by decide⟩
@[simp] theorem in63e_l11 : In63e 11 = True := eq_true ⟨by decide, by decide⟩
@[simp] theorem in64_l11 : In64 11 = True := eq_true ⟨by decide, by decide⟩
@[simp] theorem dvr_l11 : Dvr 11 = True := eq_true ⟨by decide, by decide⟩
@[simp] theorem in62_l12 : In62 12 = True := eq_true ⟨by decide, by decide⟩
@[simp] theorem in63_l12 : In63 12 = True := eq_true ⟨by decide, by decide⟩
@[simp] theorem in63e_l12 : In63e 12 = True := eq_true ⟨by decide, by decide⟩
@[simp] theorem in64_l12 : In64 12 = True := eq_true ⟨by decide, by decide⟩
@[simp] theorem dvr_l12 : Dvr 12 = True := eq_true ⟨by decide, by decide⟩
@[simp] theorem in62_l13 : In62 13 = True := eq_true ⟨by decide, by decide⟩
@[simp] theorem in63_l13 : In63 13 = True := eq_true ⟨by decide, by decide⟩
@[simp] theorem in63e_l13 : In63e 13 = True := eq_true ⟨by decide, by decide⟩
@[simp] theorem in64_l13 : In64 13 = True := eq_true ⟨by decide, by decide⟩
@[simp] theorem dvr_l13 : Dvr 13 = True := eq_true ⟨by decide, by decide⟩
@[simp] theorem in62_l14 : In62 14 = True := eq_true ⟨by decide, by decide⟩
@[simp] theorem in63_l14 : In63 14 = True := eq_true ⟨by decide, by decide⟩
@[simp] theorem in63e_l14 : In63e 14 = True := eq_true ⟨by decide, by decide⟩
@[simp] theorem in64_l14 : In64 14 = True := eq_true ⟨by decide, by decide⟩
@[simp] theorem dvr_l14 : Dvr 14 = True := eq_true ⟨by decide, by decide⟩
@[simp] theorem in62_l15 : In62 15 = True := eq_true ⟨by decide, by decide⟩
@[simp] theorem in63_l15 : In63 15 = True := eq_true ⟨by decide, by decide⟩
@[simp] theorem in63e_l15 : In63e 15 = True := eq_true ⟨by decide, by decide⟩
@[simp] theorem in64_l15 : In64 15 = True := eq_true ⟨by decide, by decide⟩
@[simp] theorem dvr_l15 : Dvr 15 = True := eq_true ⟨by decide, by decide⟩
@[simp] theorem in62_l16 : In62 16 = True := eq_true ⟨by decide, by decide⟩
@[simp] theorem in63_l16 : In63 16 = True := eq_true ⟨by decide, by decide⟩
@[simp] theorem in63e_l16 : In63e 16 = True := eq_true ⟨by decide, by decide⟩
@[simp] theorem in64_l16 : In64 16 = True := eq_true ⟨by decide, by decide⟩
@[simp] theorem dvr_l16 : Dvr 16 = True := eq_true ⟨by decide, by decide⟩
@[simp] theorem in62_l17 : In62 17 = True := eq_true ⟨by decide, by decide⟩
@[simp] theorem in63_l17 : In63 17 = True := eq_true ⟨by decide, by decide⟩
@[simp] theorem in63e_l17 : In63e 17 = True := eq_true ⟨by decide, by decide⟩
@[simp] theorem in64_l17 : In64 17 = True := eq_true ⟨by decide, by decide⟩
@[simp] theorem dvr_l17 : Dvr 17 = True := eq_true ⟨by decide, by decide⟩
@[simp] theorem in62_l18 : In62 18 = True := eq_true ⟨by decide, by decide⟩
@[simp] theorem in63_l18 : In63 18 = True := eq_true ⟨by decide, by decide⟩
@[simp] theorem in63e_l18 : In63e 18 = True := eq_true ⟨by decide, by decide⟩
@[simp] theorem in64_l18 : In64 18 = True := eq_true ⟨by decide, by decide⟩
@[simp] theorem dvr_l18 : Dvr 18 = True := eq_true ⟨by decide, by decide⟩
@[simp] theorem in62_l19 : In62 19 = True := eq_true ⟨by decide, by decide⟩
@[simp] theorem in63_l19 : In63 19 = True := eq_true ⟨by decide, by decide⟩
@[simp] theorem in63e_l19 : In63e 19 = True := eq_true ⟨by decide, by decide⟩
@[simp] theorem in64_l19 : In64 19 = True := eq_true ⟨by decide, by decide⟩
@[simp] theorem dvr_l19 : Dvr 19 = True := eq_true ⟨by decide, by decide⟩
@[simp] theorem in62_l20 : In62 20 = True := eq_true ⟨by decide, by decide⟩
@[simp] theorem in63_l20 : In63 20 = True := eq_true ⟨by decide, by decide⟩
@[simp] theorem in63e_l20 : In63e 20 = True := eq_true ⟨by decide, by decide⟩
@[simp] theorem in64_l20 : In64 20 = True := eq_true ⟨by decide, by decide⟩
@[simp] theorem dvr_l20 : Dvr 20 = True := eq_true ⟨by decide, by decide⟩
@[simp] theorem in62_l21 : In62 21 = True := eq_true ⟨by decide, by decide⟩
@[simp] theorem in63_l21 : In63 21 = True := eq_true ⟨by decide, by decide⟩
@[simp] theorem in63e_l21 : In63e 21 = True := eq_true ⟨by decide, by decide⟩
@[simp] theorem in64_l21 : In64 21 = True := eq_true ⟨by decide, by decide⟩
@[simp] theorem dvr_l21 : Dvr 21 = True := eq_true ⟨by decide, by decide⟩
@[simp] theorem in62_l22 : In62 22 = True := eq_true ⟨by decide, by decide⟩
@[simp] theorem in63_l22 : In63 22 = True := eq_true ⟨by decide, by decide⟩
@[simp] theorem in63e_l22 : In63e 22 = True := eq_true ⟨by decide, by decide⟩
@[simp] theorem in64_l22 : In64 22 = True := eq_true ⟨by decide, by decide⟩
@[simp] theorem dvr_l22 : Dvr 22 = True := eq_true ⟨by decide, by decide⟩
@[simp] theorem in62_l23 : In62 23 = True := eq_true ⟨by decide, by decide⟩
@[simp] theorem in63_l23 : In63 23 = True := eq_true ⟨by decide, by decide⟩
@[simp] theorem in63e_l23 : In63e 23 = True := eq_true ⟨by decide, by decide⟩
@[simp] theorem in64_l23 : In64 23 = True := eq_true ⟨by decide, by decide⟩
@[simp] theorem dvr_l23 : Dvr 23 = True := eq_true ⟨by decide, by decide⟩
@[simp] theorem in62_l24 : In62 24 = True := eq_true ⟨by decide, by decide⟩
@[simp] theorem in63_l24 : In63 24 = True := eq_true ⟨by decide, by decide⟩
@[simp] theorem in63e_l24 : In63e 24 = True := eq_true ⟨by decide, by decide⟩
@[simp] theorem in64_l24 : In64 24 = True := eq_true ⟨by decide, by decide⟩
@[simp] theorem dvr_l24 : Dvr 24 = True := eq_true ⟨by decide, by decide⟩
@[simp] theorem in62_l25 : In62 25 = True := eq_true ⟨by decide, by decide⟩
@[simp] theorem in63_l25 : In63 25 = True := eq_true ⟨by decide, by decide⟩
@[simp] theorem in63e_l25 : In63e 25 = True := eq_true ⟨by decide, by decide⟩
@[simp] theorem in64_l25 : In64 25 = True := eq_true ⟨by decide, by decide⟩
@[simp] theorem dvr_l25 : Dvr 25 = True := eq_true ⟨by decide, by decide⟩
@[simp] theorem in62_l26 : In62 26 = True := eq_true ⟨by decide, by decide⟩
@[simp] theorem in63_l26 : In63 26 = True := eq_true ⟨by decide, by decide⟩
@[simp] theorem in63e_l26 : In63e 26 = True := eq_true ⟨by decide, by decide⟩
@[simp] theorem in64_l26 : In64 26 = True := eq_true ⟨by decide, by decide⟩
@[simp] theorem dvr_l26 : Dvr 26 = True := eq_true ⟨by decide, by decide⟩
@[simp] theorem in62_l27 : In62 27 = True := eq_true ⟨by decide, by decide⟩
@[simp] theorem in63_l27 : In63 27 = True := eq_true ⟨by decide, by decide⟩
@[simp] theorem in63e_l27 : In63e 27 = True := eq_true ⟨by decide, by decide⟩
@[simp] theorem in64_l27 : In64 27 = True := eq_true ⟨by decide, by decide⟩
@[simp] theorem dvr_l27 : Dvr 27 = True := eq_true ⟨by decide, by decide⟩
@[simp] theorem in62_l28 : In62 28 = True := eq_true ⟨by decide, by decide⟩
@[simp] theorem in63_l28 : In63 28 = True := eq_true ⟨by decide, by decide⟩
@[simp] theorem in63e_l28 : In63e 28 = True := eq_true ⟨by decide, by decide⟩
@[simp] theorem in64_l28 : In64 28 = True := eq_true ⟨by decide, by decide⟩
@[simp] theorem dvr_l28 : Dvr 28 = True := eq_true ⟨by decide, by decide⟩
@[simp] theorem in62_l29 : In62 29 = True := eq_true ⟨by decide, by decide⟩
@[simp] theorem in63_l29 : In63 29 = True := eq_true ⟨by decide, by decide⟩
@[simp] theorem in63e_l29 : In63e 29 = True := eq_true ⟨by decide, by decide⟩
@[simp] theorem in64_l29 : In64 29 = True := eq_true ⟨by decide, by decide⟩
@[simp] theorem dvr_l29 : Dvr 29 = True := eq_true ⟨by decide, by decide⟩
@[simp] theorem in62_l30 : In62 30 = True := eq_true ⟨by decide, by decide⟩
@[simp] theorem in63_l30 : In63 30 = True := eq_true ⟨by decide, by decide⟩
@[simp] theorem in63e_l30 : In63e 30 = True := eq_true ⟨by decide, by decide⟩
@[simp] theorem in64_l30 : In64 30 = True := eq_true ⟨by decide, by decide⟩
@[simp] theorem dvr_l30 : Dvr 30 = True := eq_true ⟨by decide, by decide⟩
@[simp] theorem in62_l31 : In62 31 = True := eq_true ⟨by decide, by decide⟩
@[simp] theorem in63_l31 : In63 31 = True := eq_true ⟨by decide, by decide⟩
@[simp] theorem in63e_l31 : In63e 31 = True := eq_true ⟨by decide, by decide⟩
@[simp] theorem in64_l31 : In64 31 = True := eq_true ⟨by decide, by decide⟩
@[simp] theorem dvr_l31 : Dvr 31 = True := eq_true ⟨by decide, by decide⟩
@[simp] theorem in62_l32 : In62 32 = True := eq_true ⟨by decide, by decide⟩
@[simp] theorem in63_l32 : In63 32 = True := eq_true ⟨by decide, by decide⟩
@[simp] theorem in63e_l32 : In63e 32 = True := eq_true ⟨by decide, by decide⟩
@[simp] theorem in64_l32 : In64 32 = True := eq_true ⟨by decide, by decide⟩
@[simp] theorem dvr_l32 : Dvr 32 = True := eq_true ⟨by decide, by decide⟩
@[simp] theorem in62_l33 : In62 33 = True := eq_true ⟨by decide, by decide⟩
@[simp] theorem in63_l33 : In63 33 = True := eq_true ⟨by decide, by decide⟩
@[simp] theorem in63e_l33 : In63e 33 = True := eq_true ⟨by decide, by decide⟩
@[simp] theorem in64_l33 : In64 33 = True := eq_true ⟨by decide, by decide⟩
@[simp] theorem dvr_l33 : Dvr 33 = True := eq_true ⟨by decide, by decide⟩
@[simp] theorem in62_l34 : In62 34 = True := eq_true ⟨by decide, by decide⟩
@[simp] theorem in63_l34 : In63 34 = True := eq_true ⟨by decide, by decide⟩
@[simp] theorem in63e_l34 : In63e 34 = True := eq_true ⟨by decide, by decide⟩
@[simp] theorem in64_l34 : In64 34 = True := eq_true ⟨by decide, by decide⟩
@[simp] theorem dvr_l34 : Dvr 34 = True := eq_true ⟨by decide, by decide⟩
@[simp] theorem in62_l35 : In62 35 = True := eq_true ⟨by decide, by decide⟩
@[simp] theorem in63_l35 : In63 35 = True := eq_true ⟨by decide, by decide⟩
@[simp] theorem in63e_l35 : In63e 35 = True := eq_true ⟨by decide, by decide⟩
@[simp] theorem in64_l35 : In64 35 = True := eq_true ⟨by decide, by decide⟩
@[simp] theorem dvr_l35 : Dvr 35 = True := eq_true ⟨by decide, by decide⟩
@[simp] theorem in62_l36 : In62 36 = True := eq_true ⟨by decide, by decide⟩
@[simp] theorem in63_l36 : In63 36 = True := eq_true ⟨by decide, by decide⟩
@[simp] theorem in63e_l36 : In63e 36 = True := eq_true ⟨by decide, by decide⟩
@[simp] theorem in64_l36 : In64 36 = True := eq_true ⟨by decide, by decide⟩
@[simp] theorem dvr_l36 : Dvr 36 = True := eq_true ⟨by decide, by decide⟩
@[simp] theorem in62_l37 : In62 37 = True := eq_true ⟨by decide, by decide⟩
@[simp] theorem in63_l37 : In63 37 = True := eq_true ⟨by decide, by decide⟩
@[simp] theorem in63e_l37 : In63e 37 = True := eq_true ⟨by decide, by decide⟩
@[simp] theorem in64_l37 : In64 37 = True := eq_true ⟨by decide, by decide⟩
@[simp] theorem dvr_l37 : Dvr 37 = True := eq_true ⟨by decide, by decide⟩
@[simp] theorem in62_l38 : In62 38 = True := eq_true ⟨by decide, by decide⟩
@[simp] theorem in63_l38 : In63 38 = True := eq_true ⟨by decide, by decide⟩
@[simp] theorem in63e_l38 : In63e 38 = True := eq_true ⟨by decide, by decide⟩
@[simp] theorem in64_l38 : In64 38 = True := eq_true ⟨by decide, by decide⟩
@[simp] theorem dvr_l38 : Dvr 38 = True := eq_true ⟨by decide, by decide⟩
@[simp] theorem in62_l39 : In62 39 = True := eq_true ⟨by decide, by decide⟩
@[simp] theorem in63_l39 : In63 39 = True := eq_true ⟨by decide, by decide⟩
@[simp] theorem in63e_l39 : In63e 39 = True := eq_true ⟨by decide, by decide⟩
@[simp] theorem in64_l39 : In64 39 = True := eq_true ⟨by decide, by decide⟩
@[simp] theorem dvr_l39 : Dvr 39 = True := eq_true ⟨by decide, by decide⟩
@[simp] theorem in62_l40 : In62 40 = True := eq_true ⟨by decide, by decide⟩
@[simp] theorem in63_l40 : In63 40 = True := eq_true ⟨by decide, by decide⟩
@[simp] theorem in63e_l40 : In63e 40 = True := eq_true ⟨by decide, by decide⟩
@[simp] theorem in64_l40 : In64 40 = True := eq_true ⟨by decide, by decide⟩
@[simp] theorem dvr_l40 : Dvr 40 = True := eq_true ⟨by decide, by decide⟩
@[simp] theorem in62_l41 : In62 41 = True := eq_true ⟨by decide, by decide⟩
@[simp] theorem in63_l41 : In63 41 = True := eq_true ⟨by decide, by decide⟩
@[simp] theorem in63e_l41 : In63e 41 = True := eq_true ⟨by decide, by decide⟩
@[simp] theorem in64_l41 : In64 41 = True := eq_true ⟨by decide, by decide⟩
@[simp] theorem dvr_l41 : Dvr 41 = True := eq_true ⟨by decide, by decide⟩
@[simp] theorem in62_l42 : In62 42 = True := eq_true ⟨by decide, by decide⟩
@[simp] theorem in63_l42 : In63 42 = True := eq_true ⟨by decide, by decide⟩
@[simp] theorem in63e_l42 : In63e 42 = True := eq_true ⟨by decide, by decide⟩
@[simp] theorem in64_l42 : In64 42 = True := eq_true ⟨by decide, by decide⟩
@[simp] theorem dvr_l42 : Dvr 42 = True := eq_true ⟨by decide, by decide⟩
@[simp] theorem in62_l43 : In62 43 = True := eq_true ⟨by decide, by decide⟩
@[simp] theorem in63_l43 : In63 43 = True := eq_true ⟨by decide, by decide⟩
@[simp] theorem in63e_l43 : In63e 43 = True := eq_true ⟨by decide, by decide⟩
@[simp] theorem in64_l43 : In64 43 = True := eq_true ⟨by decide, by decide⟩
@[simp] theorem dvr_l43 : Dvr 43 = True := eq_true ⟨by decide, by decide⟩
@[simp] theorem in62_l44 : In62 44 = True := eq_true ⟨by decide, by decide⟩
@[simp] theorem in63_l44 : In63 44 = True := eq_true ⟨by decide, by decide⟩
@[simp] theorem in63e_l44 : In63e 44 = True := eq_true ⟨by decide, by decide⟩
@[simp] theorem in64_l44 : In64 44 = True := eq_true ⟨by decide, by decide⟩
@[simp] theorem dvr_l44 : Dvr 44 = True := eq_true ⟨by decide, by decide⟩
@[simp] theorem in62_l45 : In62 45 = True := eq_true ⟨by decide, by decide⟩
@[simp] theorem in63_l45 : In63 45 = True := eq_true ⟨by decide, by decide⟩
@[simp] theorem in63e_l45 : In63e 45 = True := eq_true ⟨by decide, by decide⟩
@[simp] theorem in64_l45 : In64 45 = True := eq_true ⟨by decide, by decide⟩
@[simp] theorem dvr_l45 : Dvr 45 = True := eq_true ⟨by decide, by decide⟩
@[simp] theorem in62_l46 : In62 46 = True := eq_true ⟨by decide, by decide⟩
@[simp] theorem in63_l46 : In63 46 = True := eq_true ⟨by decide, by decide⟩
@[simp] theorem in63e_l46 : In63e 46 = True := eq_true ⟨by decide, by decide⟩
@[simp] theorem in64_l46 : In64 46 = True := eq_true ⟨by decide, by decide⟩
@[simp] theorem dvr_l46 : Dvr 46 = True := eq_true ⟨by decide, by decide⟩
@[simp] theorem in62_l47 : In62 47 = True := eq_true ⟨by decide, by decide⟩
@[simp] theorem in63_l47 : In63 47 = True := eq_true ⟨by decide, by decide⟩
@[simp] theorem in63e_l47 : In63e 47 = True := eq_true ⟨by decide, by decide⟩
@[simp] theorem in64_l47 : In64 47 = True := eq_true ⟨by decide, by decide⟩
@[simp] theorem dvr_l47 : Dvr 47 = True := eq_true ⟨by decide, by decide⟩
@[simp] theorem in62_l48 : In62 48 = True := eq_true ⟨by decide, by decide⟩
@[simp] theorem in63_l48 : In63 48 = True := eq_true ⟨by decide, by decide⟩
@[simp] theorem in63e_l48 : In63e 48 = True := eq_true ⟨by decide, by decide⟩
@[simp] theorem in64_l48 : In64 48 = True := eq_true ⟨by decide, by decide⟩
@[simp] theorem dvr_l48 : Dvr 48 = True := eq_true ⟨by decide, by decide⟩
@[simp] theorem in62_l49 : In62 49 = True := eq_true ⟨by decide, by decide⟩
@[simp] theorem in63_l49 : In63 49 = True := eq_true ⟨by decide, by decide⟩
@[simp] theorem in63e_l49 : In63e 49 = True := eq_true ⟨by decide, by decide⟩
@[simp] theorem in64_l49 : In64 49 = True := eq_true ⟨by decide, by decide⟩
@[simp] theorem dvr_l49 : Dvr 49 = True := eq_true ⟨by decide, by decide⟩
@[simp] theorem in62_l50 : In62 50 = True := eq_true ⟨by decide, by decide⟩
@[simp] theorem in63_l50 : In63 50 = True := eq_true ⟨by decide, by decide⟩
@[simp] theorem in63e_l50 : In63e 50 = True := eq_true ⟨by decide, by decide⟩
@[simp] theorem in64_l50 : In64 50 = True := eq_true ⟨by decide, by decide⟩
@[simp] theorem dvr_l50 : Dvr 50 = True := eq_true ⟨by decide, by decide⟩
@[simp] theorem in62_l51 : In62 51 = True := eq_true ⟨by decide, by decide⟩
@[simp] theorem in63_l51 : In63 51 = True := eq_true ⟨by decide, by decide⟩
@[simp] theorem in63e_l51 : In63e 51 = True := eq_true ⟨by decide, by decide⟩
@[simp] theorem in64_l51 : In64 51 = True := eq_true ⟨by decide, by decide⟩
@[simp] theorem dvr_l51 : Dvr 51 = True := eq_true ⟨by decide, by decide⟩
@[simp] theorem in62_l52 : In62 52 = True := eq_true ⟨by decide, by decide⟩
@[simp] theorem in63_l52 : In63 52 = True := eq_true ⟨by decide, by decide⟩
@[simp] theorem in63e_l52 : In63e 52 = True := eq_true ⟨by decide, by decide⟩
@[simp] theorem in64_l52 : In64 52 = True := eq_true ⟨by decide, by decide⟩
@[simp] theorem dvr_l52 : Dvr 52 = True := eq_true ⟨by decide, by decide⟩
@[simp] theorem in62_l53 : In62 53 = True := eq_true ⟨by decide, by decide⟩
@[simp] theorem in63_l53 : In63 53 = True := eq_true ⟨by decide, by decide⟩
@[simp] theorem in63e_l53 : In63e 53 = True := eq_true ⟨by decide, by decide⟩
@[simp] theorem in64_l53 : In64 53 = True := eq_true ⟨by decide, by decide⟩
@[simp] theorem dvr_l53 : Dvr 53 = True := eq_true ⟨by decide, by decide⟩
@[simp] theorem in62_l54 : In62 54 = True := eq_true ⟨by decide, by decide⟩
@[simp] theorem in63_l54 : In63 54 = True := eq_true ⟨by decide, by decide⟩
@[simp] theorem in63e_l54 : In63e 54 = True := eq_true ⟨by decide, by decide⟩
@[simp] theorem in64_l54 : In64 54 = True := eq_true ⟨by decide, by decide⟩
@[simp] theorem dvr_l54 : Dvr 54 = True := eq_true ⟨by decide, by decide⟩
@[simp] theorem in62_l55 : In62 55 = True := eq_true ⟨by decide, by decide⟩
@[simp] theorem in63_l55 : In63 55 = True := eq_true ⟨by decide, by decide⟩
@[simp] theorem in63e_l55 : In63e 55 = True := eq_true ⟨by decide, by decide⟩
@[simp] theorem in64_l55 : In64 55 = True := eq_true ⟨by decide, by decide⟩
@[simp] theorem dvr_l55 : Dvr 55 = True := eq_true ⟨by decide, by decide⟩
@[simp] theorem in62_l56 : In62 56 = True := eq_true ⟨by decide, by decide⟩
@[simp] theorem in63_l56 : In63 56 = True := eq_true ⟨by decide, by decide⟩
@[simp] theorem in63e_l56 : In63e 56 = True := eq_true ⟨by decide, by decide⟩
@[simp] theorem in64_l56 : In64 56 = True := eq_true ⟨by decide, by decide⟩
@[simp] theorem dvr_l56 : Dvr 56 = True := eq_true ⟨by decide, by decide⟩
@[simp] theorem in62_l57 : In62 57 = True := eq_true ⟨by decide, by decide⟩
@[simp] theorem in63_l57 : In63 57 = True := eq_true ⟨by decide, by decide⟩
@[simp] theorem in63e_l57 : In63e 57 = True := eq_true ⟨by decide, by decide⟩
@[simp] theorem in64_l57 : In64 57 = True := eq_true ⟨by decide, by decide⟩
@[simp] theorem dvr_l57 : Dvr 57 = True := eq_true ⟨by decide, by decide⟩
@[simp] theorem in62_l58 : In62 58 = True := eq_true ⟨by decide, by decide⟩
@[simp] theorem in63_l58 : In63 58 = True := eq_true ⟨by decide, by decide⟩
@[simp] theorem in63e_l58 : In63e 58 = True := eq_true ⟨by decide, by decide⟩
@[simp] theorem in64_l58 : In64 58 = True := eq_true ⟨by decide, by decide⟩
@[simp] theorem dvr_l58 : Dvr 58 = True := eq_true ⟨by decide, by decide⟩
@[simp] theorem in62_l59 : In62 59 = True := eq_true ⟨by decide, by decide⟩
@[simp] theorem in63_l59 : In63 59 = True := eq_true ⟨by decide, by decide⟩
@[simp] theorem in63e_l59 : In63e 59 = True := eq_true ⟨by decide, by decide⟩
@[simp] theorem in64_l59 : In64 59 = True := eq_true ⟨by decide, by decide⟩
@[simp] theorem dvr_l59 : Dvr 59 = True := eq_true ⟨by decide, by decide⟩
@[simp] theorem in62_l60 : In62 60 = True := eq_true ⟨by decide, by decide⟩
@[simp] theorem in63_l60 : In63 60 = True := eq_true ⟨by decide, by decide⟩
@[simp] theorem in63e_l60 : In63e 60 = True := eq_true ⟨by decide, by decide⟩
@[simp] theorem in64_l60 : In64 60 = True := eq_true ⟨by decide, by decide⟩
@[simp] theorem dvr_l60 : Dvr 60 = True := eq_true ⟨by decide, by decide⟩
@[simp] theorem in62_l61 : In62 61 = True := eq_true ⟨by decide, by decide⟩
@[simp] theorem in63_l61 : In63 61 = True := eq_true ⟨by decide, by decide⟩
@[simp] theorem in63e_l61 : In63e 61 = True := eq_true ⟨by decide, by decide⟩
@[simp] theorem in64_l61 : In64 61 = True := eq_true ⟨by decide, by decide⟩
@[simp] theorem dvr_l61 : Dvr 61 = True := eq_true ⟨by decide, by decide⟩
@[simp] theorem in62_l62 : In62 62 = True := eq_true ⟨by decide, by decide⟩
@[simp] theorem in63_l62 : In63 62 = True := eq_true ⟨by decide, by decide⟩
@[simp] theorem in63e_l62 : In63e 62 = True := eq_true ⟨by decide, by decide⟩
@[simp] theorem in64_l62 : In64 62 = True := eq_true ⟨by decide, by decide⟩
@[simp] theorem dvr_l62 : Dvr 62 = True := eq_true ⟨by decide, by decide⟩
@[simp] theorem in62_l63 : In62 63 = True := eq_true ⟨by decide, by decide⟩
@[simp] theorem in63_l63 : In63 63 = True := eq_true ⟨by decide, by decide⟩
@[simp] theorem in63e_l63 : In63e 63 = True := eq_true ⟨by decide, by decide⟩
@[simp] theorem in64_l63 : In64 63 = True := eq_true ⟨by decide, by decide⟩
@[simp] theorem dvr_l63 : Dvr 63 = True := eq_true ⟨by decide, by decide⟩
@[simp] theorem in62_l64 : In62 64 = True := eq_true ⟨by decide, by decide⟩
@[simp] theorem in63_l64 : In63 64 = True := eq_true ⟨by decide, by decide⟩
@[simp] theorem in63e_l64 : In63e 64 = True := eq_true ⟨by decide, by decide⟩
@[simp] theorem in64_l64 : In64 64 = True := eq_true ⟨by decide, by decide⟩
@[simp] theorem dvr_l64 : Dvr 64 = True := eq_true ⟨by decide, by decide⟩
@[simp] theorem in62_l70 : In62 70 = True := eq_true ⟨by decide, by decide⟩
@[simp] theorem in63_l70 : In63 70 = True := eq_true ⟨by decide, by decide⟩
@[simp] theorem in63e_l70 : In63e 70 = True := eq_true ⟨by decide, by decide⟩
@[simp] theorem in64_l70 : In64 70 = True := eq_true ⟨by decide, by decide⟩
@[simp] theorem dvr_l70 : Dvr 70 = True := eq_true ⟨by decide, by decide⟩
@[simp] theorem in62_l200 : In62 200 = True := eq_true ⟨by decide, by decide⟩
@[simp] theorem in63_l200 : In63 200 = True := eq_true ⟨by decide, by decide⟩
@[simp] theorem in63e_l200 : In63e 200 = True := eq_true ⟨by decide, by decide⟩
@[simp] theorem in64_l200 : In64 200 = True := eq_true ⟨by decide, by decide⟩
@[simp] theorem dvr_l200 : Dvr 200 = True := eq_true ⟨by decide, by decide⟩
@[simp] theorem in62_l300 : In62 300 = True := eq_true ⟨by decide, by decide⟩
@[simp] theorem in63_l300 : In63 300 = True := eq_true ⟨by decide, by decide⟩
@[simp] theorem in63e_l300 : In63e 300 = True := eq_true ⟨by decide, by decide⟩
@[simp] theorem in64_l300 : In64 300 = True := eq_true ⟨by decide, by decide⟩
@[simp] theorem dvr_l300 : Dvr 300 = True := eq_true ⟨by decide, by decide⟩
@[simp] theorem in62_l400 : In62 400 = True := eq_true ⟨by decide, by decide⟩
@[simp] theorem in63_l400 : In63 400 = True := eq_true ⟨by decide, by decide⟩
@[simp] theorem in63e_l400 : In63e 400 = True := eq_true ⟨by decide, by decide⟩
@[simp] theorem in64_l400 : In64 400 = True := eq_true ⟨by decide, by decide⟩
@[simp] theorem dvr_l400 : Dvr 400 = True := eq_true ⟨by decide, by decide⟩
@[simp] theorem in62_l600 : In62 600 = True := eq_true ⟨by decide, by decide⟩
@[simp] theorem in63_l600 : In63 600 = True := eq_true ⟨by decide, by decide⟩
@[simp] theorem in63e_l600 : In63e 600 = True := eq_true ⟨by decide, by decide⟩
@[simp] theorem in64_l600 : In64 600 = True := eq_true ⟨by decide, by decide⟩
@[simp] theorem dvr_l600 : Dvr 600 = True := eq_true ⟨by decide, by decide⟩
@[simp] theorem in62_l700 : In62 700 = True := eq_true ⟨by decide, by decide⟩
@[simp] theorem in63_l700 : In63 700 = True := eq_true ⟨by decide, by decide⟩
@[simp] theorem in63e_l700 : In63e 700 = True := eq_true ⟨by decide, by decide⟩
@[simp] theorem in64_l700 : In64 700 = True := eq_true ⟨by decide, by decide⟩
@[simp] theorem dvr_l700 : Dvr 700 = True := eq_true ⟨by decide, by decide⟩
@[simp] theorem in62_l729 : In62 729 = True := eq_true ⟨by decide, by decide⟩
@[simp] theorem in63_l729 : In63 729 = True := eq_true ⟨by decide, by decide⟩
@[simp] theorem in63e_l729 : In63e 729 = True := eq_true ⟨by decide, by decide⟩
@[simp] theorem in64_l729 : In64 729 = True := eq_true ⟨by decide, by decide⟩
@[simp] theorem dvr_l729 : Dvr 729 = True := eq_true ⟨by decide, by decide⟩
@[simp] theorem in62_l924 : In62 924 = True := eq_true ⟨by decide, by decide⟩
@[simp] theorem in63_l924 : In63 924 = True := eq_true ⟨by decide, by decide⟩
@[simp] theorem in63e_l924 : In63e 924 = True := eq_true ⟨by decide, by decide⟩
@[simp] theorem in64_l924 : In64 924 = True := eq_true ⟨by decide, by decide⟩
@[simp] theorem dvr_l924 : Dvr 924 = True := eq_true ⟨by decide, by decide⟩
@[simp] theorem in62_l1000 : In62 1000 = True := eq_true ⟨by decide, by decide⟩
@[simp] theorem in63_l1000 : In63 1000 = True := eq_true ⟨by decide, by decide⟩
@[simp] theorem in63e_l1000 : In63e 1000 = True := eq_true ⟨by decide, by decide⟩
@[simp] theorem in64_l1000 : In64 1000 = True := eq_true ⟨by decide, by decide⟩
@[simp] theorem dvr_l1000 : Dvr 1000 = True := eq_true ⟨by decide, by decide⟩
@[simp] theorem in62_l3000 : In62 3000 = True := eq_true ⟨by decide, by decide⟩
@[simp] theorem in63_l3000 : In63 3000 = True := eq_true ⟨by decide, by decide⟩
@[simp] theorem in63e_l3000 : In63e 3000 = True := eq_true ⟨by decide, by decide⟩
@[simp] theorem in64_l3000 : In64 3000 = True := eq_true ⟨by decide, by decide⟩
@[simp] theorem dvr_l3000 : Dvr 3000 = True := eq_true ⟨by decide, by decide⟩
@[simp] theorem in62_l4096 : In62 4096 = True := eq_true ⟨by decide, by decide⟩
@[simp] theorem in63_l4096 : In63 4096 = True := eq_true ⟨by decide, by decide⟩
@[simp] theorem in63e_l4096 : In63e 4096 = True := eq_true ⟨by decide, by decide⟩
@[simp] theorem in64_l4096 : In64 4096 = True := eq_true ⟨by decide, by decide⟩
@[simp] theorem dvr_l4096 : Dvr 4096 = True := eq_true ⟨by decide, by decide⟩
@[simp] theorem in62_l7919 : In62 7919 = True := eq_true ⟨by decide, by decide⟩
@[simp] theorem in63_l7919 : In63 7919 = True := eq_true ⟨by decide, by decide⟩
@[simp] theorem in63e_l7919 : In63e 7919 = True := eq_true ⟨by decide, by decide⟩
@[simp] theorem in64_l7919 : In64 7919 = True := eq_true ⟨by decide, by decide⟩
@[simp] theorem dvr_l7919 : Dvr 7919 = True := eq_true ⟨by decide, by decide⟩
@[simp] theorem in62_l10007 : In62 10007 = True := eq_true ⟨by decide, by decide⟩
@[simp] theorem in63_l10007 : In63 10007 = True := eq_true ⟨by decide, by decide⟩
@[simp] theorem in63e_l10007 : In63e 10007 = True := eq_true ⟨by decide, by decide⟩
@[simp] theorem in64_l10007 : In64 10007 = True := eq_true ⟨by decide, by decide⟩
@[simp] theorem dvr_l10007 : Dvr 10007 = True := eq_true ⟨by decide, by decide⟩
@[simp] theorem in62_l30011 : In62 30011 = True := eq_true ⟨by decide, by decide⟩
@[simp] theorem in63_l30011 : In63 30011 = True := eq_true ⟨by decide, by decide⟩
@[simp] theorem in63e_l30011 : In63e 30011 = True := eq_true ⟨by decide, by decide⟩
@[simp] theorem in64_l30011 : In64 30011 = True := eq_true ⟨by decide, by decide⟩
@[simp] theorem dvr_l30011 : Dvr 30011 = True := eq_true ⟨by decide, by decide⟩
@[simp] theorem in62_l40503 : In62 40503 = True := eq_true ⟨by decide, by decide⟩
@[simp] theorem in63_l40503 : In63 40503 = True := eq_true ⟨by decide, by decide⟩
@[simp] theorem in63e_l40503 : In63e 40503 = True := eq_true ⟨by decide, by decide⟩
@[simp] theorem in64_l40503 : In64 40503 = True := eq_true ⟨by decide, by decide⟩
@[simp] theorem dvr_l40503 : Dvr 40503 = True := eq_true ⟨by decide, by decide⟩
@[simp] theorem in62_l40692 : In62 40692 = True := eq_true ⟨by decide, by decide⟩
@[simp] theorem in63_l40692 : In63 40692 = True := eq_true ⟨by decide, by decide⟩
@[simp] theorem in63e_l40692 : In63e 40692 = True := eq_true ⟨by decide, by decide⟩
@[simp] theorem in64_l40692 : In64 40692 = True := eq_true ⟨by decide, by decide⟩
@[simp] theorem dvr_l40692 : Dvr 40692 = True := eq_true ⟨by decide, by decide⟩
@[simp] theorem in62_l48271 : In62 48271 = True := eq_true ⟨by decide, by decide⟩
@[simp] theorem in63_l48271 : In63 48271 = True := eq_true ⟨by decide, by decide⟩
@[simp] theorem in63e_l48271 : In63e 48271 = True := eq_true ⟨by decide, by decide⟩
@[simp] theorem in64_l48271 : In64 48271 = True := eq_true ⟨by decide, by decide⟩
@[simp] theorem dvr_l48271 : Dvr 48271 = True := eq_true ⟨by decide, by decide⟩
@[simp] theorem in62_l69621 : In62 69621 = True := eq_true ⟨by decide, by decide⟩
@[simp] theorem in63_l69621 : In63 69621 = True := eq_true ⟨by decide, by decide⟩
@[simp] theorem in63e_l69621 : In63e 69621 = True := eq_true ⟨by decide, by decide⟩
@[simp] theorem in64_l69621 : In64 69621 = True := eq_true ⟨by decide, by decide⟩
@[simp] theorem dvr_l69621 : Dvr 69621 = True := eq_true ⟨by decide, by decide⟩
@[simp] theorem in62_l1000000 : In62 1000000 = True := eq_true ⟨by decide, by decide⟩
@[simp] theorem in63_l1000000 : In63 1000000 = True := eq_true ⟨by decide, by decide⟩
@[simp] theorem in63e_l1000000 : In63e 1000000 = True := eq_true ⟨by decide, by decide⟩
@[simp] theorem in64_l1000000 : In64 1000000 = True := eq_true ⟨by decide, by decide⟩
@[simp] theorem dvr_l1000000 : Dvr 1000000 = True := eq_true ⟨by decide, by decide⟩
@[simp] theorem in62_l1000003 : In62 1000003 = True := eq_true ⟨by decide, by decide⟩
@[simp] theorem in63_l1000003 : In63 1000003 = True := eq_true ⟨by decide, by decide⟩
@[simp] theorem in63e_l1000003 : In63e 1000003 = True := eq_true ⟨by decide, by decide⟩
@[simp] theorem in64_l1000003 : In64 1000003 = True := eq_true ⟨by decide, by decide⟩
@[simp] theorem dvr_l1000003 : Dvr 1000003 = True := eq_true ⟨by decide, by decide⟩
@[simp] theorem in62_l2147483587 : In62 2147483587 = True := eq_true ⟨by decide, by decide⟩
@[simp] theorem in63_l2147483587 : In63 2147483587 = True := eq_true ⟨by decide, by decide⟩
@[simp] theorem in63e_l2147483587 : In63e 2147483587 = True := eq_true ⟨by decide, by decide⟩
@[simp] theorem in64_l2147483587 : In64 2147483587 = True := eq_true ⟨by decide, by decide⟩
@[simp] theorem dvr_l2147483587 : Dvr 2147483587 = True := eq_true ⟨by decide, by decide⟩
@[simp] theorem in62_l2147483629 : In62 2147483629 = True := eq_true ⟨by decide, by decide⟩
@[simp] theorem in63_l2147483629 : In63 2147483629 = True := eq_true ⟨by decide, by decide⟩
@[simp] theorem in63e_l2147483629 : In63e 2147483629 = True := eq_true ⟨by decide, by decide⟩
@[simp] theorem in64_l2147483629 : In64 2147483629 = True := eq_true ⟨by decide, by decide⟩
@[simp] theorem dvr_l2147483629 : Dvr 2147483629 = True := eq_true ⟨by decide, by decide⟩
@[simp] theorem in62_l2147483647 : In62 2147483647 = True := eq_true ⟨by decide, by decide⟩
@[simp] theorem in63_l2147483647 : In63 2147483647 = True := eq_true ⟨by decide, by decide⟩
@[simp] theorem in63e_l2147483647 : In63e 2147483647 = True := eq_true ⟨by decide, by decide⟩
@[simp] theorem in64_l2147483647 : In64 2147483647 = True := eq_true ⟨by decide, by decide⟩
@[simp] theorem dvr_l2147483647 : Dvr 2147483647 = True := eq_true ⟨by decide, by decide⟩
@[simp] theorem in62_l100000000000 : In62 100000000000 = True := eq_true ⟨by decide, by decide⟩
@[simp] theorem in63_l100000000000 : In63 100000000000 = True := eq_true ⟨by decide, by decide⟩
@[simp] theorem in63e_l100000000000 : In63e 100000000000 = True := eq_true ⟨by decide, by decide⟩
@[simp] theorem in64_l100000000000 : In64 100000000000 = True := eq_true ⟨by decide, by decide⟩
@[simp] theorem dvr_l100000000000 : Dvr 100000000000 = True := eq_true ⟨by decide, by decide⟩
@[simp] theorem in62_l1000000000000 : In62 1000000000000 = True := eq_true ⟨by decide, by decide⟩
@[simp] theorem in63_l1000000000000 : In63 1000000000000 = True := eq_true ⟨by decide, by decide⟩
@[simp] theorem in63e_l1000000000000 : In63e 1000000000000 = True := eq_true ⟨by decide, by decide⟩
@[simp] theorem in64_l1000000000000 : In64 1000000000000 = True := eq_true ⟨by decide, by decide⟩
@[simp] theorem dvr_l1000000000000 : Dvr 1000000000000 = True := eq_true ⟨by decide, by decide⟩
@[simp] theorem in62_l10000000000000 : In62 10000000000000 = True := eq_true ⟨by decide, by decide⟩
@[simp] theorem in63_l10000000000000 : In63 10000000000000 = True := eq_true ⟨by decide, by decide⟩
@[simp] theorem in63e_l10000000000000 : In63e 10000000000000 = True := eq_true ⟨by decide, by decide⟩
@[simp] theorem in64_l10000000000000 : In64 10000000000000 = True := eq_true ⟨by decide, by decide⟩
@[simp] theorem dvr_l10000000000000 : Dvr 10000000000000 = True := eq_true ⟨by decide, by decide⟩
@[simp] theorem in62_l100000000000000 : In62 100000000000000 = True := eq_true ⟨by decide, by decide⟩
@[simp] theorem in63_l100000000000000 : In63 100000000000000 = True := eq_true ⟨by decide, by decide⟩
@[simp] theorem in63e_l100000000000000 : In63e 100000000000000 = True := eq_true ⟨by decide, by decide⟩
@[simp] theorem in64_l100000000000000 : In64 100000000000000 = True := eq_true ⟨by decide, by decide⟩
@[simp] theorem dvr_l100000000000000 : Dvr 100000000000000 = True := eq_true ⟨by decide, by decide⟩
@[simp] theorem in62_l1000000000000000 : In62 1000000000000000 = True := eq_true ⟨by decide, by decide⟩
@[simp] theorem in63_l1000000000000000 : In63 1000000000000000 = True := eq_true ⟨by decide, by decide⟩
@[simp] theorem in63e_l1000000000000000 : In63e 1000000000000000 = True := eq_true ⟨by decide, by decide⟩
@[simp] theorem in64_l1000000000000000 : In64 1000000000000000 = True := eq_true ⟨by decide, by decide⟩
@[simp] theorem dvr_l1000000000000000 : Dvr 1000000000000000 = True := eq_true ⟨by decide, by decide⟩
@[simp] theorem in62_l1000000000000000000 : In62 1000000000000000000 = True := eq_true ⟨by decide, by decide⟩
@[simp] theorem in63_l1000000000000000000 : In63 1000000000000000000 = True := eq_true ⟨by decide, by decide⟩
@[simp] theorem in63e_l1000000000000000000 : In63e 1000000000000000000 = True := eq_true ⟨by decide, by decide⟩
@[simp] theorem in64_l1000000000000000000 : In64 1000000000000000000 = True := eq_true ⟨by decide, by decide⟩
@[simp] theorem dvr_l1000000000000000000 : Dvr 1000000000000000000 = True := eq_true ⟨by decide, by decide⟩
def dats (ds : List PD) : List Cel := ds.map Cel.dat
@[simp] theorem dats_nil : dats [] = [] := (rfl)
@[simp] theorem dats_pd {ds : List PD} : (dats ds).map Cel.pd = ds := by unfold dats; rw [List.map_map, show Cel.pd ∘ Cel.dat = id from rfl, List.map_id]
@[simp] theorem dats_len {ds : List PD} : (dats ds).length = ds.length := by unfold dats; exact List.length_map ..
@[simp] theorem dats_app {ds es : List PD} : dats ds ++ dats es = dats (ds ++ es) := by unfold dats; exact List.map_append.symm
@[simp] theorem dats_app1 {ds : List PD} {d : PD} : dats ds ++ [Cel.dat d] = dats (ds ++ [d]) := by unfold dats; rw [List.map_append]; rfl
@[simp] theorem dats_set {ds : List PD} {d : PD} {i : Nat} : (dats ds).set i (Cel.dat d) = dats (ds.set i d) := by unfold dats; rw [List.map_set]
@[simp] theorem dats_erase {ds : List PD} {i : Nat} : (dats ds).eraseIdx i = dats (ds.eraseIdx i) := by
  unfold dats
  induction ds generalizing i with
  | nil => rfl
  | cons x xs ih => cases i with
    | zero => rfl
    | succ i => simp [ih]
@[simp] theorem dats_take {ds : List PD} {i : Nat} : (dats ds).take i = dats (ds.take i) := by unfold dats; rw [List.map_take]
@[simp] theorem dats_drop {ds : List PD} {i : Nat} : (dats ds).drop i = dats (ds.drop i) := by unfold dats; rw [List.map_drop]
theorem datAt_dats {ds : List PD} {i : Nat} : datAt (dats ds) i = ds[i]? := by
  unfold datAt dats
  rw [List.getElem?_map]
  cases ds[i]? <;> rfl
theorem datAt_map {α : Type} {f : α → PD} {l : List α} {j : Nat} (h : j < l.length) : datAt (dats (l.map f)) j = some (f l[j]) := by rw [datAt_dats, List.getElem?_map, List.getElem?_eq_getElem h]; rfl
abbrev natD (n : Nat) : PD := .int (n : Nat)
abbrev kk0 : KK := ⟨[]⟩
section
variable {ρ : Env} {v : VE}
@[simp] theorem q_mk_nil : mk [] = [] := (rfl)
@[simp] theorem q_mk_cons {s : Sl} {r : Env} : mk (s :: r) = s.mk :: mk r := (rfl)
@[simp] theorem q_vw_nil : vw [] = [] := (rfl)
@[simp] theorem q_vw_cons {s : Sl} {r : Env} : vw (s :: r) = s.vw :: vw r := (rfl)
@[simp] theorem q_mk_dat {d : PD} : (Sl.dat d).mk = some d := (rfl)
@[simp] theorem q_mk_un : Sl.un.mk = none := (rfl)
@[simp] theorem q_mk_own {cs : List Cel} : (Sl.own cs).mk = none := (rfl)
@[simp] theorem q_vw_dat {d : PD} : (Sl.dat d).vw = some d := (rfl)
@[simp] theorem q_vw_un : Sl.un.vw = none := (rfl)
@[simp] theorem q_vw_own {cs : List Cel} : (Sl.own cs).vw = some (.list (cs.map Cel.pd)) := (rfl)
@[simp] theorem q_pd_dat {d : PD} : (Cel.dat d).pd = d := (rfl)
@[simp] theorem q_pd_sub {ds : List PD} : (Cel.sub ds).pd = .list ds := (rfl)
@[simp] theorem q_var {i : Nat} : xVar i v = (v[i]?).bind id := (rfl)
@[simp] theorem q_c {d : PD} : xC d v = some d := (rfl)
@[simp] theorem q_op {f : PD → PD → Option PD} {a b : XE} : xOp f a b v = (a v).bind fun x => (b v).bind fun y => f x y := (rfl)
@[simp] theorem q_un {f : PD → Option PD} {a : XE} : xUn f a v = (a v).bind f := (rfl)
@[simp] theorem q_nil : xNil v = some [] := (rfl)
@[simp] theorem q_cons {a : XE} {as : XA} : xCons a as v = (a v).bind fun x => (as v).bind fun xs => some (x :: xs) := (rfl)
@[simp] theorem q_tup {as : XA} : xTup as v = (as v).bind fun ds => grd (ds.length ≤ 100000) (some (.tuple ds)) := by
  unfold xTup
  simp only [grd_ite]
@[simp] theorem q_lst {as : XA} : xLst as v = (as v).bind fun ds => grd (ds.length ≤ 100000) (some (.list ds)) := by
  unfold xLst
  simp only [grd_ite]
@[simp] theorem q_cb {f : List PD → Option PD} {as : XA} : xCB f as v = (as v).bind f := (rfl)
@[simp] theorem q_isB {b : Bool} : isB (.bool b) = some b := (rfl)
@[simp] theorem q_B {a : XE} : xB a v = (a v).bind isB := (rfl)
@[simp] theorem q_tand {a b : XT} : xTAnd a b v = (a v).bind fun c => andO c (b v) := (rfl)
@[simp] theorem q_tor {a b : XT} : xTOr a b v = (a v).bind fun c => orO c (b v) := (rfl)
@[simp] theorem q_tnot {a : XT} : xTNot a v = (a v).bind fun c => some (!c) := (rfl)
@[simp] theorem q_yes : xYes v = some true := (rfl)
@[simp] theorem q_and {a b : XE} : xAnd a b v = ((a v).bind isB).bind fun c => andV c (b v) := (rfl)
@[simp] theorem q_or {a b : XE} : xOr a b v = ((a v).bind isB).bind fun c => orV c (b v) := (rfl)
@[simp] theorem q_not {a : XE} : xNot a v = ((a v).bind isB).bind fun c => some (.bool (!c)) := (rfl)
@[simp] theorem q_if {c : XT} {a b : XE} : xIf c a b v = (c v).bind fun k => alt k (tag (a v)) (tag (b v)) := (rfl)
@[simp] theorem q_chain {f g : PD → PD → Option PD} {a b c : XE} : xChain f g a b c v = (a v).bind fun x => (b v).bind fun y => ((f x y).bind isB).bind fun k => andV k ((c v).bind fun z => g y z) := (rfl)
@[simp] theorem q_isi {t : Ty} {a : XE} : xIsi t a v = (a v).bind fun d => grd (full d = false) (some (.bool (isTy t d))) := by
  unfold xIsi
  congr 1
  funext d
  rw [← grd_ite]
  cases full d <;> rfl
@[simp] theorem q_nop : xNoPart v = some none := (rfl)
@[simp] theorem q_part {a : XE} : xPart a v = (a v).bind fun d => match d with | .int i => some (some i) | _ => none := (rfl)
@[simp] theorem q_sl {a : XE} {lo hi : XO} : xSl a lo hi v = (a v).bind fun d => (lo v).bind fun l => (hi v).bind fun h => slP d l h := (rfl)
@[simp] theorem q_idx {a b : XE} : xIdx a b v = (a v).bind fun x => (b v).bind fun y => idxP x y := (rfl)
@[simp] theorem q_on1 {f : PD → Option PD} {x : PD} : on1 f [x] = f x := (rfl)
@[simp] theorem q_on2 {f : PD → PD → Option PD} {x y : PD} : on2 f [x, y] = f x y := (rfl)
@[simp] theorem q_xiE {a : XE} : xiE a v = (a v).bind seqP := (rfl)
@[simp] theorem q_xiA {f : List PD → Option (List PD)} {as : XA} : xiA f as v = (as v).bind f := (rfl)
@[simp] theorem q_lc {src : XI} {g : XGV} {t : XT} {e : XE} {vs : List Nat} : xLc src g t e vs v = (src v).bind fun xs => grd (xs.length ≤ 40000) ((lcGo g t e (clear v vs) xs).bind fun ds => some (.list ds)) := by
  unfold xLc
  simp only [grd_ite]
@[simp] theorem q_clear_nil : clear v [] = v := (rfl)
@[simp] theorem q_clear_cons {i : Nat} {vs : List Nat} : clear v (i :: vs) = (clear v vs).set i none := (rfl)
@[simp] theorem q_gvName {i : Nat} {x : PD} : gvName i x v = some (v.set i (some x)) := (rfl)
@[simp] theorem q_gvNil : gvNil [] v = some v := (rfl)
@[simp] theorem q_gvCons {g : XGV} {gs : XGVs} {x : PD} {xs : List PD} : gvCons g gs (x :: xs) v = (g x v).bind fun v1 => gs xs v1 := (rfl)
@[simp] theorem q_gvTup {n : Nat} {gs : XGVs} {x : PD} : gvTup n gs x v = (seqP x).bind fun ds => grd (ds.length = n) (gs ds v) := by
  unfold gvTup
  simp only [grd_ite]
@[simp] theorem q_add_i {i j : Int} : addP (.int i) (.int j) = some (.int (i + j)) := (rfl)
@[simp] theorem q_add_l {xs ys : List PD} : addP (.list xs) (.list ys) = grd (xs.length + ys.length ≤ 100000) (some (.list (xs ++ ys))) := by
  unfold addP
  simp only [grd_ite]
@[simp] theorem q_add_t {xs ys : List PD} : addP (.tuple xs) (.tuple ys) = grd (xs.length + ys.length ≤ 100000) (some (.tuple (xs ++ ys))) := by
  unfold addP
  simp only [grd_ite]
@[simp] theorem q_sub {i j : Int} : subP (.int i) (.int j) = some (.int (i - j)) := (rfl)
@[simp] theorem q_div {i j : Int} : divP (.int i) (.int j) = grd (Dvr j) (some (.int (i / j))) := by
  unfold divP
  simp only [grd_ite]
  exact grd_iff ⟨fun h => ⟨h.1, h.2⟩, fun h => ⟨h.lo, h.hi⟩⟩
@[simp] theorem q_mod {i j : Int} : modP (.int i) (.int j) = grd (0 < j) (some (.int (i % j))) := by
  unfold modP
  simp only [grd_ite]
  rfl
@[simp] theorem q_pow {i j : Int} : powP (.int i) (.int j) = grd (0 ≤ j ∧ j ≤ 1000 ∧ In63 i) (some (.int (i ^ j.toNat))) := by
  unfold powP
  simp only [grd_ite]
  exact grd_iff ⟨fun h => ⟨h.1, h.2.1, h.2.2.1, h.2.2.2⟩, fun h => ⟨h.1, h.2.1, h.2.2.lo, h.2.2.hi⟩⟩
@[simp] theorem q_mul {i j : Int} : mulP (.int i) (.int j) = grd (In64 i ∨ In64 j) (some (.int (i * j))) := by
  unfold mulP
  simp only [grd_ite]
  exact grd_iff ⟨fun h => h.elim (fun h => .inl ⟨h.1, h.2⟩) fun h => .inr ⟨h.1, h.2⟩, fun h => h.elim (fun h => .inl ⟨h.lo, h.hi⟩) fun h => .inr ⟨h.lo, h.hi⟩⟩
@[simp] theorem q_lt {i j : Int} : ltP (.int i) (.int j) = some (.bool (decide (i < j))) := (rfl)
@[simp] theorem q_le {i j : Int} : leP (.int i) (.int j) = some (.bool (decide (i ≤ j))) := (rfl)
@[simp] theorem q_gtU {i j : Int} : gtU (.int i) (.int j) = some (.bool (decide (j < i))) := (rfl)
@[simp] theorem q_gt {i j : Int} : gtP (.int i) (.int j) = some (.bool (decide (j < i))) := (rfl)
@[simp] theorem q_ge {i j : Int} : geP (.int i) (.int j) = some (.bool (decide (j ≤ i))) := (rfl)
@[simp] theorem q_neg {i : Int} : negP (.int i) = some (.int (-i)) := (rfl)
@[simp] theorem q_eq_i {i j : Int} : eqP (.int i) (.int j) = some (.bool (i == j)) := (rfl)
@[simp] theorem q_ne_i {i j : Int} : neP (.int i) (.int j) = some (.bool (!(i == j))) := (rfl)
@[simp] theorem q_is {x : PD} : isU x .none = some (.bool (isNone x)) := by cases x <;> rfl
@[simp] theorem q_isnt {x : PD} : isntU x .none = some (.bool (!isNone x)) := by cases x <;> rfl
@[simp] theorem q_isb {b c : Bool} : isU (.bool b) (.bool c) = some (.bool (b == c)) := (rfl)
@[simp] theorem q_isntb {b c : Bool} : isntU (.bool b) (.bool c) = some (.bool (b != c)) := (rfl)
@[simp] theorem q_isNone_n : isNone .none = true := (rfl)
@[simp] theorem q_isNone_i {i : Int} : isNone (.int i) = false := (rfl)
@[simp] theorem q_isNone_t {ds : List PD} : isNone (.tuple ds) = false := (rfl)
@[simp] theorem q_ix_t {ds : List PD} {i : Int} : ixP (.tuple ds) (.int i) = atI ds i := (rfl)
@[simp] theorem q_ix_l {ds : List PD} {i : Int} : ixP (.list ds) (.int i) = atI ds i := (rfl)
@[simp] theorem q_ix_s {ds : List PD} {i : Int} : ixP (scrD ds) (.int i) = atI ds i := (rfl)
@[simp] theorem q_sl_t {ds : List PD} {lo hi : Option Int} : slP (.tuple ds) lo hi = some (.tuple (cutD ds lo hi)) := (rfl)
@[simp] theorem q_sl_l {ds : List PD} {lo hi : Option Int} : slP (.list ds) lo hi = some (.list (cutD ds lo hi)) := (rfl)
@[simp] theorem q_sl_s {ds : List PD} {lo hi : Option Int} : slP (scrD ds) lo hi = some (.list (cutD ds lo hi)) := (rfl)
@[simp] theorem q_seq_t {ds : List PD} : seqP (.tuple ds) = some ds := (rfl)
@[simp] theorem q_seq_l {ds : List PD} : seqP (.list ds) = some ds := (rfl)
@[simp] theorem q_seq_s {ds : List PD} : seqP (scrD ds) = some ds := (rfl)
@[simp] theorem q_len_t {ds : List PD} : lenP (.tuple ds) = some (natD ds.length) := (rfl)
@[simp] theorem q_len_l {ds : List PD} : lenP (.list ds) = some (natD ds.length) := (rfl)
@[simp] theorem q_len_s {ds : List PD} : lenP (scrD ds) = some (natD ds.length) := (rfl)
@[simp] theorem q_tupP_l {ds : List PD} : tupP (.list ds) = some (.tuple ds) := (rfl)
@[simp] theorem q_tupP_t {ds : List PD} : tupP (.tuple ds) = some (.tuple ds) := (rfl)
@[simp] theorem q_listP_l {ds : List PD} : listP (.list ds) = some (.list ds) := (rfl)
@[simp] theorem q_listP_t {ds : List PD} : listP (.tuple ds) = some (.list ds) := (rfl)
@[simp] theorem q_absP {i : Int} : absP (.int i) = some (.int (if i < 0 then -i else i)) := (rfl)
@[simp] theorem q_enum_t {ds : List PD} : enumP [.tuple ds] = some (pairsD ds) := (rfl)
@[simp] theorem q_enum_l {ds : List PD} : enumP [.list ds] = some (pairsD ds) := (rfl)
@[simp] theorem q_zip_t {ds es : List PD} : zipP [.tuple ds, .tuple es] = some (zipD ds es) := (rfl)
@[simp] theorem q_zip_l {ds es : List PD} : zipP [.list ds, .list es] = some (zipD ds es) := (rfl)
@[simp] theorem q_rng {j : Int} : rngP [.int j] = grd (In62 j) (some ((List.range j.toNat).map natD)) := by
  have e : (List.range j.toNat).map (fun k => PyData.int (0 + (k : Nat))) = (List.range j.toNat).map natD := by
    apply List.map_congr_left
    intro k _
    rw [Int.zero_add]
  unfold rngP
  dsimp only
  rw [e, grd_ite]
  exact grd_iff ⟨fun h => ⟨h.1, h.2⟩, fun h => ⟨h.lo, h.hi⟩⟩
@[simp] theorem q_full_n : full .none = false := (rfl)
@[simp] theorem q_full_b {b : Bool} : full (.bool b) = false := (rfl)
@[simp] theorem q_full_i {i : Int} : full (.int i) = false := (rfl)
@[simp] theorem q_full_s {x : Str} : full (.str x) = false := (rfl)
@[simp] theorem q_full_l {ds : List PD} : full (.list ds) = false := (rfl)
@[simp] theorem q_full_t {ds : List PD} : full (.tuple ds) = false := (rfl)
@[simp] theorem q_full_d : full (.dict []) = false := (rfl)
@[simp] theorem q_full_d1 {k : Str} {d : PD} {r : List (PD × PD)} : full (.dict ((.str k, d) :: r)) = false := (rfl)
@[simp] theorem q_xD1 {k : Str} {a : XE} {v : VE} : xD1 k a v = (a v).bind fun d => some (.dict [(.str k, d)]) := (rfl)
@[simp] theorem q_flat_n : flat .none = true := by simp [flat]
@[simp] theorem q_flat_b {b : Bool} : flat (.bool b) = true := by simp [flat]
@[simp] theorem q_flat_i {i : Int} : flat (.int i) = true := by simp [flat]
@[simp] theorem q_flat_s {x : Str} : flat (.str x) = true := by simp [flat]
@[simp] theorem q_flat_t {ds : List PD} : flat (.tuple ds) = flats ds := by simp [flat]
@[simp] theorem q_flats_nil : flats [] = true := by simp [flats]
@[simp] theorem q_flats_cons {d : PD} {ds : List PD} : flats (d :: ds) = (flat d && flats ds) := by simp [flats]
@[simp] theorem q_wM {x : XE} : wM x ρ = (x (mk ρ)).bind fun d => some (d, ρ) := (rfl)
@[simp] theorem q_wV {x : XE} : wV x ρ = (x (vw ρ)).bind fun d => grd (flat d = true) (some (d, ρ)) := by
  unfold wV
  simp only [grd_ite]
@[simp] theorem q_wMT {x : XT} : wMT x ρ = (x (mk ρ)).bind fun d => some (d, ρ) := (rfl)
@[simp] theorem q_wVT {x : XT} : wVT x ρ = (x (vw ρ)).bind fun d => some (d, ρ) := (rfl)
@[simp] theorem q_wNil : wNil ρ = some ([], ρ) := (rfl)
@[simp] theorem q_wCons {a : XW} {as : XWA} : wCons a as ρ = (a ρ).bind fun x => (as x.2).bind fun xs => some (x.1 :: xs.1, xs.2) := (rfl)
@[simp] theorem q_wOp {f : PD → PD → Option PD} {a b : XW} : wOp f a b ρ = (a ρ).bind fun x => (b x.2).bind fun y => (f x.1 y.1).bind fun z => some (z, y.2) := (rfl)
@[simp] theorem q_wTup {as : XWA} : wTup as ρ = (as ρ).bind fun x => grd (x.1.length ≤ 100000) (some (.tuple x.1, x.2)) := by
  unfold wTup
  simp only [grd_ite]
@[simp] theorem q_wLst {as : XWA} : wLst as ρ = (as ρ).bind fun x => grd (x.1.length ≤ 100000) (some (.list x.1, x.2)) := by
  unfold wLst
  simp only [grd_ite]
@[simp] theorem q_wCB {f : List PD → Option PD} {as : XWA} : wCB f as ρ = (as ρ).bind fun x => (f x.1).bind fun z => some (z, x.2) := (rfl)
@[simp] theorem q_wB {a : XW} : wB a ρ = (a ρ).bind fun x => (isB x.1).bind fun b => some (b, x.2) := (rfl)
@[simp] theorem q_wIf {c : XWT} {a b : XW} : wIf c a b ρ = (c ρ).bind fun k => alt k.1 (tag (a k.2)) (tag (b k.2)) := (rfl)
@[simp] theorem q_wCallK {i : Nat} {g : List Cel → List PD → Option (PD × List Cel)} {as : XWA} : wCallK i g as ρ = (ownAt ρ i).bind fun _ => (as ρ).bind fun x => (ownAt x.2 i).bind fun cs => (g cs x.1).bind fun y => some (y.1, x.2.set i (.own y.2)) := (rfl)
@[simp] theorem q_ownAt0 {cs : List Cel} {r : Env} : ownAt (.own cs :: r) 0 = some cs := (rfl)
@[simp] theorem q_ownAtS {s : Sl} {r : Env} {i : Nat} : ownAt (s :: r) (i + 1) = ownAt r i := (rfl)
@[simp] theorem q_wFz {o : XWO} : wFz o ρ = (o ρ).bind fun x => some (.list (x.1.map Cel.pd), x.2) := (rfl)
@[simp] theorem q_wOM {x : XE} : wOM x ρ = ((x (mk ρ)).bind asList).bind fun ds => some (dats ds, ρ) := (rfl)
@[simp] theorem q_wOV {x : XE} : wOV x ρ = ((x (vw ρ)).bind asList).bind fun ds => grd (flats ds = true) (some (dats ds, ρ)) := by
  unfold wOV
  simp only [grd_ite]
  rfl
@[simp] theorem q_asList {ds : List PD} : asList (.list ds) = some ds := (rfl)
@[simp] theorem q_wOL {as : XWC} : wOL as ρ = (as ρ).bind fun x => grd (x.1.length ≤ 100000) (some x) := by
  unfold wOL
  simp only [grd_ite]
@[simp] theorem q_wcNil : wcNil ρ = some ([], ρ) := (rfl)
@[simp] theorem q_wcDat {a : XW} {as : XWC} : wcDat a as ρ = (a ρ).bind fun x => (as x.2).bind fun xs => some (.dat x.1 :: xs.1, xs.2) := (rfl)
@[simp] theorem q_wcSub {a : XWO} {as : XWC} : wcSub a as ρ = (a ρ).bind fun x => (allDat x.1).bind fun ds => (as x.2).bind fun xs => some (.sub ds :: xs.1, xs.2) := (rfl)
@[simp] theorem q_allDat {ds : List PD} : allDat (dats ds) = some ds := @allDat_map kk0 ds
@[simp] theorem q_allDat_nil : allDat [] = some [] := (rfl)
@[simp] theorem q_wCallD {f : List PD → Option (List Cel)} {as : XWA} : wCallD f as ρ = (as ρ).bind fun x => (f x.1).bind fun cs => some (cs, x.2) := (rfl)
@[simp] theorem q_wPop {i : Nat} {a : XW} : wPop i a ρ = (ownAt ρ i).bind fun _ => (a ρ).bind fun x => (isI x.1).bind fun k => (ownAt x.2 i).bind fun cs => grd (In63e k) ((ixN cs.length k).bind fun n => (datAt cs n).bind fun d => some (d, x.2.set i (.own (cs.eraseIdx n)))) := by
  unfold wPop
  simp only [grd_ite]
  congr 1; funext _; congr 1; funext x; congr 1; funext k; congr 1; funext cs
  exact grd_iff ⟨fun h => ⟨h.1, h.2⟩, fun h => ⟨h.lo, h.hi⟩⟩
@[simp] theorem q_isI {i : Int} : isI (.int i) = some i := (rfl)
@[simp] theorem q_wiE {a : XW} : wiE a ρ = (a ρ).bind fun x => (seqP x.1).bind fun xs => some (xs, x.2) := (rfl)
@[simp] theorem q_wiA {f : List PD → Option (List PD)} {as : XWA} : wiA f as ρ = (as ρ).bind fun x => (f x.1).bind fun xs => some (xs, x.2) := (rfl)
@[simp] theorem q_gName {i : Nat} {x : PD} : gName' i x ρ = some (ρ.set i (.dat x)) := (rfl)
@[simp] theorem q_gNil : gNil' [] ρ = some ρ := (rfl)
@[simp] theorem q_gCons {g : XG} {gs : XGs} {x : PD} {xs : List PD} : gCons' g gs (x :: xs) ρ = (g x ρ).bind fun v1 => gs xs v1 := (rfl)
@[simp] theorem q_gTup {n : Nat} {gs : XGs} {x : PD} : gTup' n gs x ρ = (seqP x).bind fun ds => grd (ds.length = n) (gs ds ρ) := by
  unfold gTup'
  simp only [grd_ite]
@[simp] theorem q_sNext : sNext ρ = some (.nxt ρ) := (rfl)
@[simp] theorem q_sRet {w : XW} : sRet w ρ = (w ρ).bind fun x => some (.ret x.1 x.2) := (rfl)
@[simp] theorem q_sRetO {w : XWO} : sRetO w ρ = (w ρ).bind fun x => some (.retO x.1 x.2) := (rfl)
@[simp] theorem q_sIf {c : XWT} {x y : XS} : sIf c x y ρ = (c ρ).bind fun k => alt k.1 (tag (x k.2)) (tag (y k.2)) := (rfl)
@[simp] theorem q_sAsg {g : XG} {w : XW} : sAsg g w ρ = (w ρ).bind fun x => (g x.1 x.2).bind fun ρ1 => some (.nxt ρ1) := (rfl)
@[simp] theorem q_sOwn {i : Nat} {w : XWO} : sOwn i w ρ = (w ρ).bind fun x => grd (i < x.2.length) (some (.nxt (x.2.set i (.own x.1)))) := by
  unfold sOwn
  simp only [grd_ite]
@[simp] theorem q_sDrop {w : XW} : sDrop w ρ = (w ρ).bind fun x => some (.nxt x.2) := (rfl)
@[simp] theorem q_toSl_d {d : PD} : toSl (.dat d) = .dat d := (rfl)
@[simp] theorem q_toSl_s {ds : List PD} : toSl (.sub ds) = .own (dats ds) := (rfl)
@[simp] theorem q_two {c e : Cel} : two [c, e] = some (c, e) := (rfl)
@[simp] theorem q_sPar {i j : Nat} {as : XWC} : sPar i j as ρ = (as ρ).bind fun x => (two x.1).bind fun c => grd (i < x.2.length ∧ j < x.2.length) (some (.nxt ((x.2.set i (toSl c.1)).set j (toSl c.2)))) := by
  unfold sPar
  simp only [grd_ite]
@[simp] theorem q_sApp {i : Nat} {a : XW} : sApp i a ρ = (ownAt ρ i).bind fun _ => (a ρ).bind fun x => (ownAt x.2 i).bind fun cs => grd (cs.length < 100000) (some (.nxt (x.2.set i (.own (cs ++ [.dat x.1]))))) := by
  unfold sApp
  simp only [grd_ite]
@[simp] theorem q_sSet {i : Nat} {k : XE} {a : XW} : sSet i k a ρ = (a ρ).bind fun x => (ownAt x.2 i).bind fun cs => ((k (vw x.2)).bind isI).bind fun k => (ixN cs.length k).bind fun n => (datAt cs n).bind fun _ => some (.nxt (x.2.set i (.own (cs.set n (.dat x.1))))) := (rfl)
@[simp] theorem q_sSetS {i : Nat} {k j : XE} {a : XW} : sSetS i k j a ρ = (a ρ).bind fun x => (ownAt x.2 i).bind fun cs => ((k (vw x.2)).bind isI).bind fun k => (ixN cs.length k).bind fun n => (subAt cs n).bind fun ds => ((j (vw x.2)).bind isI).bind fun j => (ixN ds.length j).bind fun m => some (.nxt (x.2.set i (.own (cs.set n (.sub (ds.set m x.1)))))) := (rfl)
@[simp] theorem q_sFz {i : Nat} {y : XS} : sFz i y ρ = y (fzE ρ i) := (rfl)
@[simp] theorem q_fz0 {cs : List Cel} {r : Env} : fzE (.own cs :: r) 0 = .dat (.list (cs.map Cel.pd)) :: r := (rfl)
@[simp] theorem q_fzS {s : Sl} {r : Env} {i : Nat} : fzE (s :: r) (i + 1) = s :: fzE r i := by
  unfold fzE
  rw [List.getElem?_cons_succ]
  cases h : r[i]? with
  | none => rfl
  | some q => cases q <;> rfl
@[simp] theorem q_sFor {src : XWI} {g : XG} {b : XS} : sFor src g b ρ = (src ρ).bind fun x => forGo g b x.1 x.2 := (rfl)
end
end Uv

namespace Uv
open PySem PySem.Spec PyProof.Rows L2
section
variable {ρ : Env} {v : VE}
@[simp] theorem q_wUn {f : PD → Option PD} {a : XW} : wUn f a ρ = (a ρ).bind fun x => (f x.1).bind fun z => some (z, x.2) := (rfl)
@[simp] theorem q_wTAnd {a b : XWT} : wTAnd a b ρ = (a ρ).bind fun c => alt c.1 (tag (b c.2)) (tag (some (false, c.2))) := (rfl)
@[simp] theorem q_wTOr {a b : XWT} : wTOr a b ρ = (a ρ).bind fun c => alt c.1 (tag (some (true, c.2))) (tag (b c.2)) := (rfl)
@[simp] theorem q_wTNot {a : XWT} : wTNot a ρ = (a ρ).bind fun c => some (!c.1, c.2) := (rfl)
@[simp] theorem q_wAnd {a b : XW} : wAnd a b ρ = (wB a ρ).bind fun c => alt c.1 (tag (b c.2)) (tag (some (.bool false, c.2))) := (rfl)
@[simp] theorem q_wOr {a b : XW} : wOr a b ρ = (wB a ρ).bind fun c => alt c.1 (tag (some (.bool true, c.2))) (tag (b c.2)) := (rfl)
@[simp] theorem q_wNot {a : XW} : wNot a ρ = (wB a ρ).bind fun c => some (.bool (!c.1), c.2) := (rfl)
@[simp] theorem q_sExt {i : Nat} {a : XW} : sExt i a ρ = (ownAt ρ i).bind fun _ => (a ρ).bind fun x => (asList x.1).bind fun ds => (ownAt x.2 i).bind fun cs => grd (cs.length + ds.length ≤ 100000) (some (.nxt (x.2.set i (.own (cs ++ dats ds))))) := by
  unfold sExt
  simp only [grd_ite]
  rfl
@[simp] theorem q_sIns {i : Nat} {as : XWA} : sIns i as ρ = (ownAt ρ i).bind fun _ => (as ρ).bind fun x => (insA x.1).bind fun kd => (ownAt x.2 i).bind fun cs => grd (cs.length < 100000 ∧ 0 ≤ kd.1 ∧ In63e kd.1) (some (.nxt (x.2.set i (.own (cs.take kd.1.toNat ++ [.dat kd.2] ++ cs.drop kd.1.toNat))))) := by
  unfold sIns
  simp only [grd_ite]
  congr 1; funext _; congr 1; funext x; congr 1; funext k; congr 1; funext cs
  exact grd_iff ⟨fun h => ⟨h.1, h.2.1, by have := h.2.1; omega, h.2.2⟩, fun h => ⟨h.1, h.2.1, h.2.2.hi⟩⟩
@[simp] theorem q_insA {i : Int} {d : PD} : insA [.int i, d] = some (i, d) := (rfl)
@[simp] theorem q_sPopS {i : Nat} {k j : XE} : sPopS i k j ρ = (ownAt ρ i).bind fun cs => ((k (vw ρ)).bind isI).bind fun k => (ixN cs.length k).bind fun n => (subAt cs n).bind fun ds => ((j (vw ρ)).bind isI).bind fun j => grd (In63e j) ((ixN ds.length j).bind fun m => some (.nxt (ρ.set i (.own (cs.set n (.sub (ds.eraseIdx m))))))) := by
  unfold sPopS
  simp only [grd_ite]
  congr 1; funext cs; congr 1; funext k; congr 1; funext n; congr 1; funext ds; congr 1; funext j
  exact grd_iff ⟨fun h => ⟨h.1, h.2⟩, fun h => ⟨h.lo, h.hi⟩⟩
def unAt (ρ : Env) (i : Nat) (x : Option Out) : Option Out := match ρ[i]? with
  | some .un => x
  | _ => none
@[simp] theorem unAt_0 {r : Env} {x : Option Out} : unAt (.un :: r) 0 x = x := (rfl)
@[simp] theorem unAt_S {s : Sl} {r : Env} {i : Nat} {x : Option Out} : unAt (s :: r) (i + 1) x = unAt r i x := (rfl)
@[simp] theorem q_sAppS {i : Nat} {k : XE} {a : XW} : sAppS i k a ρ = (ownAt ρ i).bind fun cs => ((k (vw ρ)).bind isI).bind fun kk => (ixN cs.length kk).bind fun n => (subAt cs n).bind fun ds => (a (ρ.set i .un)).bind fun x => unAt x.2 i (grd (ds.length < 100000) (some (.nxt (x.2.set i (.own (cs.set n (.sub (ds ++ [x.1])))))))) := by
  unfold sAppS
  simp only [grd_ite]
  rfl
@[simp] theorem q_sRetN : sRetN ρ = some (.ret .none ρ) := (rfl)
@[simp] theorem q_sCont : sCont ρ = some (.cnt ρ) := (rfl)
@[simp] theorem q_sBreak : sBreak ρ = some (.brk ρ) := (rfl)
@[simp] theorem q_sWhile {n : Nat} {c : XWT} {b : XS} : sWhile n c b ρ = whGo c b n ρ := (rfl)
@[simp] theorem q_wLc {src : XWI} {g : XG} {t : XWT} {e : XW} {vs : List Nat} : wLc src g t e vs ρ = (src ρ).bind fun x => grd (x.1.length ≤ 40000) ((wlGo g t e vs x.1 x.2).bind fun r => some (dats r.1, backE x.2 r.2 vs)) := by
  unfold wLc
  simp only [grd_ite]
  rfl
@[simp] theorem q_backE_nil {ρ1 : Env} : backE ρ1 ρ [] = ρ := (rfl)
@[simp] theorem q_backE_cons {ρ1 : Env} {i : Nat} {vs : List Nat} : backE ρ1 ρ (i :: vs) = (backE ρ1 ρ vs).set i (keepD ρ1[i]?) := (rfl)
@[simp] theorem q_keepD_d {d : PD} : keepD (some (.dat d)) = .dat d := (rfl)
@[simp] theorem q_keepD_u : keepD (some .un) = .un := (rfl)
@[simp] theorem q_keepD_o {cs : List Cel} : keepD (some (.own cs)) = .un := (rfl)
@[simp] theorem q_clearE_nil : clearE ρ [] = ρ := (rfl)
@[simp] theorem q_clearE_cons {i : Nat} {vs : List Nat} : clearE ρ (i :: vs) = (clearE ρ vs).set i .un := (rfl)
def endP {Q : PD → Prop} (_ : Tag Q) : Out → Prop
  | .ret d _ => Q d
  | .nxt _ => Q .none
  | _ => False
def endW {Q : PD × List Cel → Prop} (_ : Tag Q) : Out → Prop
  | .ret d ρ => wp (ownAt ρ 0) (tag fun cs => Q (d, cs))
  | .nxt ρ => wp (ownAt ρ 0) (tag fun cs => Q (.none, cs))
  | _ => False
def endD' {Q : List Cel → Prop} (_ : Tag Q) : Out → Prop
  | .retO cs _ => Q cs
  | _ => False
section
variable {QP : PD → Prop} {QW : PD × List Cel → Prop} {QD : List Cel → Prop} {d : PD} {cs : List Cel}
@[simp] theorem endP_ret : endP (tag QP) (.ret d ρ) = QP d := (rfl)
@[simp] theorem endP_nxt : endP (tag QP) (.nxt ρ) = QP .none := (rfl)
@[simp] theorem endW_ret : endW (tag QW) (.ret d ρ) = wp (ownAt ρ 0) (tag fun cs => QW (d, cs)) := (rfl)
@[simp] theorem endW_nxt : endW (tag QW) (.nxt ρ) = wp (ownAt ρ 0) (tag fun cs => QW (.none, cs)) := (rfl)
@[simp] theorem endD_ret : endD' (tag QD) (.retO cs ρ) = QD cs := (rfl)
end
theorem wp_runP {n k : Nat} {X : XS} {ds : List PD} {Q : PD → Prop} (hn : ds.length = n) (h : wp (X (ds.map Sl.dat ++ List.replicate k Sl.un)) (tag (endP (tag Q)))) : wp (runP n k X ds) (tag Q) := by
  obtain ⟨o, e, h⟩ := h
  unfold runP
  rw [if_pos hn, e]
  cases o with
  | ret d ρ => exact ⟨_, rfl, h⟩
  | nxt ρ => exact ⟨_, rfl, h⟩
  | _ => exact h.elim
theorem wp_runW {n k : Nat} {X : XS} {cs : List Cel} {ds : List PD} {Q : PD × List Cel → Prop} (hn : ds.length = n) (h : wp (X (.own cs :: (ds.map Sl.dat ++ List.replicate k Sl.un))) (tag (endW (tag Q)))) : wp (runW n k X cs ds) (tag Q) := by
  obtain ⟨o, e, h⟩ := h
  unfold runW
  rw [if_pos hn, e]
  cases o with
  | ret d ρ =>
    obtain ⟨cs', e2, h2⟩ := h
    exact ⟨(d, cs'), by rw [Option.bind_some]; show (ownAt ρ 0).bind _ = _; rw [e2]; rfl, h2⟩
  | nxt ρ =>
    obtain ⟨cs', e2, h2⟩ := h
    exact ⟨(.none, cs'), by rw [Option.bind_some]; show (ownAt ρ 0).bind _ = _; rw [e2]; rfl, h2⟩
  | _ => exact h.elim
theorem wp_runD {n k : Nat} {X : XS} {ds : List PD} {Q : List Cel → Prop} (hn : ds.length = n) (h : wp (X (ds.map Sl.dat ++ List.replicate k Sl.un)) (tag (endD' (tag Q)))) : wp (runD n k X ds) (tag Q) := by
  obtain ⟨o, e, h⟩ := h
  unfold runD
  rw [if_pos hn, e]
  cases o with
  | retO d ρ => exact ⟨_, rfl, h⟩
  | _ => exact h.elim
theorem eq_of_wp {α : Type} {o : Option α} {a : α} (h : wp o (tag fun x => x = a)) : o = some a := wp_eq.mp h
structure Inv {J : Env → Prop} (t : Tag J) (ρ : Env) : Prop where
  of ::
  to : J ρ
def forK {J : Env → Prop} {Q : Out → Prop} (_ : Tag J) (_ : Tag Q) : Out → Prop
  | .nxt ρ => Inv (tag J) ρ
  | .cnt ρ => Inv (tag J) ρ
  | .brk ρ => Q (.nxt ρ)
  | .ret d ρ => Q (.ret d ρ)
  | .retO d ρ => Q (.retO d ρ)
section
variable {J : Env → Prop} {Q : Out → Prop} {d : PD} {cs : List Cel}
@[simp] theorem forK_nxt : forK (tag J) (tag Q) (.nxt ρ) = Inv (tag J) ρ := (rfl)
@[simp] theorem forK_cnt : forK (tag J) (tag Q) (.cnt ρ) = Inv (tag J) ρ := (rfl)
@[simp] theorem forK_brk : forK (tag J) (tag Q) (.brk ρ) = Q (.nxt ρ) := (rfl)
@[simp] theorem forK_ret : forK (tag J) (tag Q) (.ret d ρ) = Q (.ret d ρ) := (rfl)
@[simp] theorem forK_retO : forK (tag J) (tag Q) (.retO cs ρ) = Q (.retO cs ρ) := (rfl)
end
theorem wp_for {g : XG} {b : XS} {xs : List PD} {Q : Out → Prop} (I : Nat → Env → Prop) (h0 : I 0 ρ) (hs : ∀ (i : Nat) (h : i < xs.length) (ρ : Env), I i ρ → wp (g xs[i] ρ) (tag fun ρ1 => wp (b ρ1) (tag (forK (tag (I (i + 1))) (tag Q))))) (hq : ∀ ρ, I xs.length ρ → Q (.nxt ρ)) : wp (forGo g b xs ρ) (tag Q) := by
  induction xs generalizing ρ I with
  | nil => exact ⟨_, rfl, hq ρ h0⟩
  | cons x xs ih =>
    obtain ⟨ρ1, e1, o, e2, h2⟩ := hs 0 (Nat.succ_pos _) ρ h0
    have go : ∀ ρ2, I 1 ρ2 → wp (forGo g b xs ρ2) (tag Q) := fun ρ2 h3 => ih (fun i => I (i + 1)) h3 (fun i hi ρ hI => hs (i + 1) (Nat.succ_lt_succ hi) ρ hI) hq
    have e1 : g x ρ = some ρ1 := e1
    unfold forGo
    rw [e1, Option.bind_some, e2, Option.bind_some]
    cases o with
    | nxt ρ2 => exact go ρ2 h2.to
    | cnt ρ2 => exact go ρ2 h2.to
    | brk ρ2 => exact ⟨_, rfl, h2⟩
    | ret d ρ2 => exact ⟨_, rfl, h2⟩
    | retO d ρ2 => exact ⟨_, rfl, h2⟩
@[simp] theorem Inv_wp {g : Env → Option Out} {Q : Out → Prop} : Inv (tag fun ρ2 => wp (g ρ2) (tag Q)) ρ = wp (g ρ) (tag Q) := propext ⟨fun h => h.to, fun h => ⟨h⟩⟩
theorem wp_forM {α : Type} {g : XG} {b : XS} {l : List α} {enc : α → PD} {Q : Out → Prop} (I : Nat → Env → Prop) (h0 : I 0 ρ) (hs : ∀ (i : Nat) (h : i < l.length) (ρ : Env), I i ρ → wp (g (enc l[i]) ρ) (tag fun ρ1 => wp (b ρ1) (tag (forK (tag (I (i + 1))) (tag Q))))) (hq : ∀ ρ, I l.length ρ → Q (.nxt ρ)) : wp (forGo g b (l.map enc) ρ) (tag Q) :=
  wp_for I h0 (fun i h ρ hI => by
    rw [List.getElem_map]
    exact hs i (by simpa using h) ρ hI) (fun ρ h => hq ρ (by simpa using h))
theorem wp_forR {g : XG} {b : XS} {n : Nat} {Q : Out → Prop} (I : Nat → Env → Prop) (h0 : I 0 ρ) (hs : ∀ (i : Nat) (h : i < n) (ρ : Env), I i ρ → wp (g (natD i) ρ) (tag fun ρ1 => wp (b ρ1) (tag (forK (tag (I (i + 1))) (tag Q))))) (hq : ∀ ρ, I n ρ → Q (.nxt ρ)) : wp (forGo g b ((List.range n).map natD) ρ) (tag Q) :=
  wp_forM I h0 (fun i h ρ hI => by
    rw [List.getElem_range]
    exact hs i (by simpa using h) ρ hI) (fun ρ h => hq ρ (by simpa using h))
@[simp] theorem pairsD_len {xs : List PD} : (pairsD xs).length = xs.length := by unfold pairsD; simp
theorem wp_while {c : XWT} {b : XS} {n : Nat} {Q : Out → Prop} (I : Nat → Env → Prop) {k : Nat} (hk : k < n) (h0 : I k ρ) (hs : ∀ (k : Nat) (ρ : Env), I k ρ → wp (c ρ) (tag fun x => (x.1 = false → Q (.nxt x.2)) ∧ (x.1 = true → wp (b x.2) (tag (forK (tag fun ρ => ∃ j, j < k ∧ I j ρ) (tag Q)))))) : wp (whGo c b n ρ) (tag Q) := by
  induction n generalizing k ρ with
  | zero => omega
  | succ n ih =>
    obtain ⟨⟨t, ρ1⟩, e1, h1, h2⟩ := hs k ρ h0
    unfold whGo
    rw [e1, Option.bind_some]
    cases t with
    | false => exact ⟨_, rfl, h1 rfl⟩
    | true =>
      obtain ⟨o, e2, h3⟩ := h2 rfl
      have e2 : b ρ1 = some o := e2
      simp only [if_true, e2, Option.bind_some]
      cases o with
      | nxt ρ2 => obtain ⟨j, hj, hI⟩ := h3.to; exact ih (by omega) hI
      | cnt ρ2 => obtain ⟨j, hj, hI⟩ := h3.to; exact ih (by omega) hI
      | brk ρ2 => exact ⟨_, rfl, h3⟩
      | ret d ρ2 => exact ⟨_, rfl, h3⟩
      | retO d ρ2 => exact ⟨_, rfl, h3⟩
theorem wp_lc {α : Type} {g : XGV} {t : XT} {e : XE} {enc : α → PD} (p : α → Bool) (f : α → PD) {l : List α} {Q : List PD → Prop} (h : ∀ x ∈ l, wp (g (enc x) v) (tag fun v1 => wp (t v1) (tag fun b => b = p x ∧ (p x = true → wp (e v1) (tag fun d => d = f x))))) (hq : Q ((l.filter p).map f)) : wp (lcGo g t e v (l.map enc)) (tag Q) := by
  have main : ∀ l : List α, (∀ x ∈ l, wp (g (enc x) v) (tag fun v1 => wp (t v1) (tag fun b => b = p x ∧ (p x = true → wp (e v1) (tag fun d => d = f x))))) → lcGo g t e v (l.map enc) = some ((l.filter p).map f) := by
    intro l
    induction l with
    | nil => intro _; rfl
    | cons x xs ih =>
      intro h
      obtain ⟨v1, h1, b, h2, hb, h3⟩ := h x (List.mem_cons_self ..)
      subst hb
      have ih := ih fun y hy => h y (List.mem_cons_of_mem _ hy)
      rw [List.map_cons]
      unfold lcGo
      rw [h1, Option.bind_some, h2, Option.bind_some, ih]
      cases hp : p x with
      | true =>
        obtain ⟨d, h4, h5⟩ := h3 hp
        subst h5
        rw [if_pos rfl, h4, List.filter_cons, if_pos hp]
        rfl
      | false => rw [if_neg Bool.false_ne_true, List.filter_cons, if_neg (by rw [hp]; exact Bool.false_ne_true)]
  exact ⟨_, main l h, hq⟩
theorem wp_lcT {α : Type} {g : XGV} {e : XE} {enc : α → PD} (f : α → PD) {l : List α} {Q : List PD → Prop} (h : ∀ x ∈ l, wp (g (enc x) v) (tag fun v1 => wp (e v1) (tag fun d => d = f x))) (hq : Q (l.map f)) : wp (lcGo g xYes e v (l.map enc)) (tag Q) :=
  wp_lc (fun _ => true) f (fun x hx => wp_mono (h x hx) fun v1 h1 => ⟨true, rfl, rfl, fun _ => h1⟩) (by rw [List.filter_eq_self.mpr fun _ _ => rfl]; exact hq)
theorem wp_wl {g : XG} {t : XWT} {e : XW} {vs : List Nat} {xs : List PD} {Q : List PD × Env → Prop} (I : Nat → List PD → Env → Prop) (h0 : I 0 [] ρ) (hs : ∀ (i : Nat) (h : i < xs.length) (ds : List PD) (ρ : Env), I i ds ρ → wp (g xs[i] (clearE ρ vs)) (tag fun ρ1 => wp (t ρ1) (tag fun b => (b.1 = true → wp (e b.2) (tag fun d => Inv (tag (I (i + 1) (ds ++ [d.1]))) d.2)) ∧ (b.1 = false → Inv (tag (I (i + 1) ds)) b.2)))) (hq : ∀ ds ρ, I xs.length ds ρ → Q (ds, ρ)) : wp (wlGo g t e vs xs ρ) (tag Q) := by
  have main : ∀ (xs : List PD) (I : Nat → List PD → Env → Prop) (acc : List PD) (ρ : Env), I 0 acc ρ → (∀ (i : Nat) (h : i < xs.length) (ds : List PD) (ρ : Env), I i ds ρ → wp (g xs[i] (clearE ρ vs)) (tag fun ρ1 => wp (t ρ1) (tag fun b => (b.1 = true → wp (e b.2) (tag fun d => Inv (tag (I (i + 1) (ds ++ [d.1]))) d.2)) ∧ (b.1 = false → Inv (tag (I (i + 1) ds)) b.2)))) → ∃ ds ρ', wlGo g t e vs xs ρ = some (ds, ρ') ∧ I xs.length (acc ++ ds) ρ' := by
    intro xs
    induction xs with
    | nil => intro I acc ρ h0 _; exact ⟨[], ρ, rfl, by simpa using h0⟩
    | cons x xs ih =>
      intro I acc ρ h0 hs
      obtain ⟨ρ1, e1, ⟨b, ρ2⟩, e2, h1, h2⟩ := hs 0 (Nat.succ_pos _) acc ρ h0
      have e1 : g x (clearE ρ vs) = some ρ1 := e1
      unfold wlGo
      rw [e1, Option.bind_some, e2, Option.bind_some]
      cases b with
      | true =>
        obtain ⟨⟨d, ρ3⟩, e3, h3⟩ := h1 rfl
        obtain ⟨ds, ρ', e4, h4⟩ := ih (fun i => I (i + 1)) (acc ++ [d]) ρ3 h3.to fun i hi ds ρ hI => hs (i + 1) (Nat.succ_lt_succ hi) ds ρ hI
        refine ⟨d :: ds, ρ', ?_, by simpa using h4⟩
        have e3 : e ρ2 = some (d, ρ3) := e3
        simp only [if_true, e3, Option.bind_some, e4]
      | false =>
        obtain ⟨ds, ρ', e4, h4⟩ := ih (fun i => I (i + 1)) acc ρ2 (h2 rfl).to fun i hi ds ρ hI => hs (i + 1) (Nat.succ_lt_succ hi) ds ρ hI
        refine ⟨ds, ρ', ?_, by simpa using h4⟩
        simp [e4]
  obtain ⟨ds, ρ', e1, h1⟩ := main xs I [] ρ h0 hs
  exact ⟨_, e1, hq ds ρ' (by simpa using h1)⟩
theorem emod_nat {a b : Int} (hb : 0 < b) : ∃ j : Nat, (j : Int) < b ∧ a % b = (j : Int) := by
  have h1 := Int.emod_nonneg a (show b ≠ 0 by omega)
  have h2 := Int.emod_lt_of_pos a hb
  exact ⟨(a % b).toNat, by omega, by omega⟩
theorem atI_nat' {α : Type} {xs : List α} {k : Nat} : atI xs (k : Int) = xs[k]? := by
  unfold atI ixN
  by_cases h : k < xs.length
  · rw [if_pos (by omega), if_pos (by omega)]
    simp
  · rw [if_pos (by omega), if_neg (by omega)]
    simp
    omega
theorem atI_at {α : Type} {xs : List α} {k : Nat} (h : k < xs.length) : atI xs (k : Int) = some xs[k] := by rw [atI_nat', List.getElem?_eq_getElem h]
theorem atI_map {α β : Type} {f : α → β} {xs : List α} {k : Nat} (h : k < xs.length) : atI (xs.map f) (k : Int) = some (f xs[k]) := by rw [atI_nat', List.getElem?_map, List.getElem?_eq_getElem h]; rfl
theorem atI_int {α β : Type} {f : α → β} {xs : List α} {k : Int} (h0 : 0 ≤ k) (h : k.toNat < xs.length) : atI (xs.map f) k = some (f xs[k.toNat]) := by
  obtain ⟨j, rfl⟩ : ∃ j : Nat, k = (j : Int) := ⟨k.toNat, by omega⟩
  exact atI_map (by simpa using h)
@[simp] theorem atI_0 {α : Type} {x : α} {xs : List α} : atI (x :: xs) 0 = some x := by simpa using atI_nat' (xs := x :: xs) (k := 0)
@[simp] theorem atI_1 {α : Type} {x y : α} {xs : List α} : atI (x :: y :: xs) 1 = some y := by simpa using atI_nat' (xs := x :: y :: xs) (k := 1)
@[simp] theorem atI_2 {α : Type} {x y z : α} {xs : List α} : atI (x :: y :: z :: xs) 2 = some z := by simpa using atI_nat' (xs := x :: y :: z :: xs) (k := 2)
@[simp] theorem atI_3 {α : Type} {x y z u : α} {xs : List α} : atI (x :: y :: z :: u :: xs) 3 = some u := by simpa using atI_nat' (xs := x :: y :: z :: u :: xs) (k := 3)
@[simp] theorem ixN_20 : ixN 2 0 = some 0 := (rfl)
@[simp] theorem ixN_21 : ixN 2 1 = some 1 := (rfl)
@[simp] theorem ixN_30 : ixN 3 0 = some 0 := (rfl)
@[simp] theorem ixN_31 : ixN 3 1 = some 1 := (rfl)
@[simp] theorem ixN_32 : ixN 3 2 = some 2 := (rfl)
@[simp] theorem ixN_40 : ixN 4 0 = some 0 := (rfl)
@[simp] theorem ixN_41 : ixN 4 1 = some 1 := (rfl)
@[simp] theorem ixN_42 : ixN 4 2 = some 2 := (rfl)
@[simp] theorem ixN_43 : ixN 4 3 = some 3 := (rfl)
theorem ixN_nat' {n k : Nat} (h : k < n) : ixN n (k : Int) = some k := by
  unfold ixN
  rw [if_pos (by omega), if_pos (by omega)]
  simp
@[simp] theorem datAt_0 {d : PD} {r : List Cel} : datAt (.dat d :: r) 0 = some d := (rfl)
@[simp] theorem datAt_S {c : Cel} {r : List Cel} {i : Nat} : datAt (c :: r) (i + 1) = datAt r i := (rfl)
@[simp] theorem subAt_0 {d : List PD} {r : List Cel} : subAt (.sub d :: r) 0 = some d := (rfl)
@[simp] theorem subAt_S {c : Cel} {r : List Cel} {i : Nat} : subAt (c :: r) (i + 1) = subAt r i := (rfl)
theorem wp_pick {α : Type} {l : List α} {r : Nat} {Q : α → Prop} (h : r < l.length) (hq : ∀ x ∈ l, Q x) : wp (atI l (r : Int)) (tag Q) := by
  rw [atI_at h]
  exact ⟨_, rfl, hq _ (List.getElem_mem h)⟩
theorem unI_nats (ns : List Nat) : unI (ns.map natD) = some (ns.map fun (n : Nat) => (n : Int)) := by
  have e : ns.map natD = (ns.map fun (n : Nat) => (n : Int)).map PyData.int := by rw [List.map_map]; rfl
  rw [e]
  exact @unI_map kk0 _
end
end Uv
namespace Uv
theorem erase_perm {α : Type} : ∀ {l : List α} {j : Nat} (h : j < l.length), (l[j] :: l.eraseIdx j).Perm l
  | x :: xs, 0, _ => .refl _
  | x :: xs, j + 1, h => by
    have ih := erase_perm (l := xs) (j := j) (by simpa using h)
    simpa using (List.Perm.swap x (xs[j]'(by simpa using h)) (xs.eraseIdx j)).symm.symm.trans (ih.cons x)
theorem erase_map {α β : Type} (f : α → β) : ∀ (l : List α) (j : Nat), (l.map f).eraseIdx j = (l.eraseIdx j).map f
  | [], _ => rfl
  | x :: xs, 0 => rfl
  | x :: xs, j + 1 => by simp [erase_map f xs j]
end Uv

namespace Uv
open PySem PySem.Spec PyProof.Rows L2
structure Road where
  b : Option Nat
  e : Option Nat
  r : Int
structure Web where
  roads : List Road
  gives : List (List Nat)
  takes : List (List Nat)
def endD : Option Nat → PD
  | none => .none
  | some n => natD n
def roadD (x : Road) : PD := .tuple [endD x.b, endD x.e, .int x.r]
def natsD (l : List Nat) : PD := .tuple (l.map natD)
def webD (W : Web) : PD := .tuple [.tuple (W.roads.map roadD), .tuple (W.gives.map natsD), .tuple (W.takes.map natsD)]
def side (s : Nat) (x : Road) : Option Nat := if s = 0 then x.b else x.e
def atR (rs : List Road) (s h : Nat) : List Nat := (rs.zipIdx.filter fun p => side s p.1 == some h).map (·.2)
def OkRoad (n : Nat) (x : Road) : Prop := x.b ≠ x.e ∧ (∀ h, x.b = some h → h < n) ∧ (∀ h, x.e = some h → h < n) ∧ 0 ≤ x.r ∧ x.r ≤ 1000000000000
structure IsWeb (W : Web) : Prop where
  houses : 1 ≤ W.gives.length ∧ W.gives.length ≤ 8
  same : W.takes.length = W.gives.length
  count : 1 ≤ W.roads.length ∧ W.roads.length ≤ 20
  road : ∀ x ∈ W.roads, OkRoad W.gives.length x
  give : ∀ (h : Nat) (l : List Nat), W.gives[h]? = some l → l.Perm (atR W.roads 0 h)
  take : ∀ (h : Nat) (l : List Nat), W.takes[h]? = some l → l.Perm (atR W.roads 1 h)
theorem atR_lt {rs : List Road} {s h k : Nat} (hk : k ∈ atR rs s h) : k < rs.length := by
  unfold atR at hk
  obtain ⟨⟨x, j⟩, h1, rfl⟩ := List.mem_map.mp hk
  have h2 := (List.mem_filter.mp h1).1
  have h3 := List.mem_zipIdx h2
  simp at h3
  omega
theorem zip_sorted {α : Type} : ∀ (xs : List α) (n : Nat) (p : α × Nat → Bool), (((xs.zipIdx n).filter p).map (·.2)).Pairwise (· < ·) ∧ ∀ k ∈ ((xs.zipIdx n).filter p).map (·.2), n ≤ k
  | [], n, p => by simp
  | x :: xs, n, p => by
    obtain ⟨h1, h2⟩ := zip_sorted xs (n + 1) p
    rw [List.zipIdx_cons, List.filter_cons]
    by_cases c : p (x, n) = true
    · rw [if_pos c, List.map_cons]
      refine ⟨List.pairwise_cons.mpr ⟨fun k hk => by have := h2 k hk; show n < k; omega, h1⟩, fun k hk => ?_⟩
      rcases List.mem_cons.mp hk with e | e
      · rw [e]; exact Nat.le_refl _
      · have := h2 k e; omega
    · rw [if_neg c]
      exact ⟨h1, fun k hk => by have := h2 k hk; omega⟩
theorem atR_sorted (rs : List Road) (s h : Nat) : (atR rs s h).Pairwise (· < ·) := (zip_sorted rs 0 _).1
end Uv

namespace Uv
open PySem PySem.Spec PyProof.Rows L2
theorem ok_app {a b : Str} (ha : PyData.strOk a = true) (hb : PyData.strOk b = true) : PyData.strOk (a ++ b) = true := by
  show ((a.cps ++ b.cps).all _) = true
  rw [Array.all_append]
  exact Bool.and_eq_true_iff.mpr ⟨ha, hb⟩
theorem ok_ofS (x : String) : PyData.strOk (Str.ofString x) = true := by
  rw [Str.ofString_eq_toList]
  unfold PyData.strOk
  simp only [List.all_toArray, List.all_map, List.all_eq_true]
  intro c _
  have := c.valid
  simp only [Function.comp_apply, decide_eq_true_eq]
  have h : c.toNat = c.val.toNat := rfl
  rcases this with h1 | h1
  · omega
  · omega
theorem ok_join {sep : Str} (hs : PyData.strOk sep = true) : ∀ {ts : List Str}, (∀ t ∈ ts, PyData.strOk t = true) → PyData.strOk (Str.join sep ts) = true
  | [], _ => by simp [Str.join, Str.empty, PyData.strOk]
  | [t], h => h t (List.mem_cons_self ..)
  | t :: u :: r, h => by
    show PyData.strOk (t ++ sep ++ Str.join sep (u :: r)) = true
    exact ok_app (ok_app (h t (List.mem_cons_self ..)) hs) (ok_join hs fun x hx => h x (List.mem_cons_of_mem _ hx))
theorem ok_from : ∀ {ts : List Str} {k : Nat} {acc : Str}, PyData.strOk acc = true → (∀ t ∈ ts, PyData.strOk t = true) → PyData.strOk (textFrom k acc ts) = true
  | [], _, _, ha, _ => ha
  | t :: r, k, acc, ha, h => by
    show PyData.strOk (textFrom (k + 1) _ r) = true
    exact ok_from (ok_app (ok_app ha (ok_ofS _)) (h t (List.mem_cons_self ..))) fun x hx => h x (List.mem_cons_of_mem _ hx)
structure Sho (k n : Nat) (d : PD) : Prop where
  sh : d.showable = true
  nd : scrF d = true
  dp : d.depth ≤ k
  ln : d.shown.length ≤ n
  ok : PyData.strOk d.shown = true
section
variable {k n : Nat} {d : PD} {ds : List PD}
theorem Sho.mono {k' n' : Nat} (h : Sho k n d) (hk : k ≤ k') (hn : n ≤ n') : Sho k' n' d := ⟨h.sh, h.nd, Nat.le_trans h.dp hk, Nat.le_trans h.ln hn, h.ok⟩
theorem Sho.non : Sho k 5 .none := ⟨rfl, rfl, Nat.zero_le _, by decide, ok_ofS _⟩
theorem Sho.bool {b : Bool} : Sho k 5 (.bool b) := ⟨rfl, rfl, Nat.zero_le _, by cases b <;> decide, by cases b <;> exact ok_ofS _⟩
theorem Sho.int {i : Int} (h : i.natAbs < 10 ^ 40) : Sho k 41 (.int i) := by
  refine ⟨?_, rfl, Nat.zero_le _, ?_, ok_ofS _⟩
  · rw [PyData.showable, decide_eq_true_eq]
    by_cases c : i.natAbs = 0
    · rw [c]; decide
    · have : i.natAbs.log2 < 140 := (Nat.log2_lt c).mpr (Nat.lt_of_lt_of_le h (by decide))
      omega
  · show (Str.ofString (toString i)).length ≤ 41
    rw [PySem.ofString_length]
    exact int_text_length_le10 (k := 40) (by decide) h
theorem all_show (h : ∀ d ∈ ds, PyData.showable d = true) : PyData.showableAll ds = true := by
  induction ds with
  | nil => rfl
  | cons d ds ih => rw [PyData.showableAll, h d (List.mem_cons_self ..), ih fun x hx => h x (List.mem_cons_of_mem _ hx)]; rfl
theorem all_noD (h : ∀ d ∈ ds, scrF d = true) : scrFs ds = true := by
  induction ds with
  | nil => rfl
  | cons d ds ih => rw [scrFs, h d (List.mem_cons_self ..), ih fun x hx => h x (List.mem_cons_of_mem _ hx)]; rfl
theorem all_depth (h : ∀ d ∈ ds, PyData.depth d ≤ n) : PyData.depthAll ds ≤ n := by
  induction ds with
  | nil => exact Nat.zero_le _
  | cons d ds ih =>
    have h1 := h d (List.mem_cons_self ..)
    have h2 := ih fun x hx => h x (List.mem_cons_of_mem _ hx)
    rw [PyData.depthAll]
    omega
theorem all_shown (h : ∀ d ∈ ds, PyData.strOk d.shown = true) : ∀ t ∈ PyData.shownAll ds, PyData.strOk t = true := by
  induction ds with
  | nil => intro t ht; exact nomatch ht
  | cons d ds ih =>
    intro t ht
    rw [PyData.shownAll] at ht
    rcases List.mem_cons.mp ht with e | e
    · rw [e]; exact h d (List.mem_cons_self ..)
    · exact ih (fun x hx => h x (List.mem_cons_of_mem _ hx)) t e
theorem all_len (h : ∀ d ∈ ds, d.shown.length ≤ n) : ((PyData.shownAll ds).map (·.length)).sum + 2 * (PyData.shownAll ds).length ≤ ds.length * (n + 2) := by
  induction ds with
  | nil => exact Nat.zero_le _
  | cons d ds ih =>
    have h1 := h d (List.mem_cons_self ..)
    have h2 := ih fun x hx => h x (List.mem_cons_of_mem _ hx)
    rw [PyData.shownAll]
    simp only [List.map_cons, List.sum_cons, List.length_cons, Nat.succ_mul]
    omega
theorem Sho.tup {L : Nat} (h : ∀ d ∈ ds, Sho k n d) (hl : ds.length ≤ L) : Sho (k + 1) (L * (n + 2) + 3) (.tuple ds) := by
  refine ⟨all_show fun d hd => (h d hd).sh, all_noD fun d hd => (h d hd).nd, Nat.succ_le_succ (all_depth fun d hd => (h d hd).dp), ?_, ?_⟩
  · have h1 := tupleText_len_le (PyData.shownAll ds)
    have h2 := all_len fun d hd => (h d hd).ln
    have h3 := Nat.mul_le_mul_right (n + 2) hl
    show (tupleText (PyData.shownAll ds)).length ≤ _
    omega
  · exact ok_app (ok_app (ok_ofS _) (ok_join (ok_ofS _) (all_shown fun d hd => (h d hd).ok))) (ok_ofS _)
theorem Sho.lst {L : Nat} (h : ∀ d ∈ ds, Sho k n d) (hl : ds.length ≤ L) : Sho (k + 1) (L * (n + 2) + 3) (.list ds) := by
  refine ⟨all_show fun d hd => (h d hd).sh, all_noD fun d hd => (h d hd).nd, Nat.succ_le_succ (all_depth fun d hd => (h d hd).dp), ?_, ?_⟩
  · have h1 := listText_len_le (PyData.shownAll ds)
    have h2 := all_len fun d hd => (h d hd).ln
    have h3 := Nat.mul_le_mul_right (n + 2) hl
    show (listText (PyData.shownAll ds)).length ≤ _
    omega
  · exact ok_app (ok_from (ok_ofS _) (all_shown fun d hd => (h d hd).ok)) (ok_ofS _)
theorem Sho.nat {j : Nat} (h : j < 10 ^ 40) : Sho k 41 (natD j) := Sho.int (by show (j : Int).natAbs < _; omega)
theorem Sho.nats {l : List Nat} {L : Nat} (h : ∀ j ∈ l, j < 10 ^ 40) (hl : l.length ≤ L) : Sho (k + 1) (L * 43 + 3) (natsD l) := Sho.tup (fun d hd => by obtain ⟨j, hj, rfl⟩ := List.mem_map.mp hd; exact Sho.nat (h j hj)) (by simpa using hl)
theorem Sho.can (h : Sho 60 10000000 d) : CanShow d := ⟨h.sh, h.nd, h.dp, Nat.le_trans h.ln (by rw [sizeLine_eq]; decide)⟩
theorem rp_of (h : Sho 60 10000000 d) : reprP d = some (.str d.shown) := by
  unfold reprP
  rw [if_pos h.can]
theorem eq_str {x : Str} (h : PyData.strOk x = true) : eqP (.str x) (.str x) = some (.bool true) := by
  have e : SeqAt.shaped (.str x) = true := by
    unfold SeqAt.shaped
    rw [show PyData.canLay0 (.str x) = PyData.strOk x by simp [PyData.canLay0], h]
    rfl
  unfold eqP
  rw [if_pos ⟨e, e⟩]
  simp [PyData.eqv]
theorem eq_shown (h : Sho 60 10000000 d) : eqP (.str d.shown) (.str d.shown) = some (.bool true) := eq_str h.ok
structure Lay (k : Nat) (d : PD) : Prop where
  cl : d.canLay0 = true
  dp : d.depth ≤ k
theorem all_lay (h : ∀ d ∈ ds, PyData.canLay0 d = true) : PyData.canLayAll0 ds = true := by
  induction ds with
  | nil => rfl
  | cons d ds ih => rw [PyData.canLayAll0, h d (List.mem_cons_self ..), ih fun x hx => h x (List.mem_cons_of_mem _ hx)]; rfl
theorem Lay.non : Lay k .none := ⟨rfl, Nat.zero_le _⟩
theorem Lay.bool {b : Bool} : Lay k (.bool b) := ⟨rfl, Nat.zero_le _⟩
theorem Lay.int {i : Int} : Lay k (.int i) := ⟨rfl, Nat.zero_le _⟩
theorem Lay.tup (h : ∀ d ∈ ds, Lay k d) : Lay (k + 1) (.tuple ds) := ⟨all_lay fun d hd => (h d hd).cl, Nat.succ_le_succ (all_depth fun d hd => (h d hd).dp)⟩
theorem Lay.lst (h : ∀ d ∈ ds, Lay k d) : Lay (k + 1) (.list ds) := ⟨all_lay fun d hd => (h d hd).cl, Nat.succ_le_succ (all_depth fun d hd => (h d hd).dp)⟩
theorem Lay.mono {k' : Nat} (h : Lay k d) (hk : k ≤ k') : Lay k' d := ⟨h.cl, Nat.le_trans h.dp hk⟩
theorem Lay.sh (h : Lay 60 d) : SeqAt.shaped d = true := by
  unfold SeqAt.shaped
  rw [h.cl, Bool.true_and, decide_eq_true_eq]
  exact Nat.le_trans h.dp (by decide)
theorem Lay.map {α : Type} {f : α → PD} {l : List α} (h : ∀ x, Lay k (f x)) : ∀ d ∈ l.map f, Lay k d := fun d hd => by obtain ⟨x, _, rfl⟩ := List.mem_map.mp hd; exact h x
theorem Lay.natsT {l : List Nat} : Lay (k + 1) (.tuple (l.map natD)) := Lay.tup (Lay.map fun _ => Lay.int)
end
end Uv

namespace Uv
open PySem PySem.Spec PyProof.Rows L2
structure Tie where
  g : Nat
  t : Nat
  r : Int
structure Seat where
  much : Int
  order : List Nat
structure Fair where
  ties : List Tie
  givers : List Seat
  takers : List Seat
def intsD (l : List Int) : PD := .tuple (l.map PyData.int)
def tieD (x : Tie) : PD := .tuple [natD x.g, natD x.t, .int x.r]
def seatD (x : Seat) : PD := .tuple [.int x.much, natsD x.order]
def fairD (F : Fair) : PD := .tuple [.tuple (F.ties.map tieD), .tuple (F.givers.map seatD), .tuple (F.takers.map seatD)]
section
variable {ρ : Env} {v : VE}
@[simp] theorem q_star {a : XE} {as : XA} : xStar a as v = (a v).bind fun x => (partsP x).bind fun xs => (as v).bind fun ys => some (xs ++ ys) := (rfl)
@[simp] theorem q_parts_t {ds : List PD} : partsP (.tuple ds) = some ds := (rfl)
@[simp] theorem q_parts_l {ds : List PD} : partsP (.list ds) = some ds := (rfl)
@[simp] theorem q_cat {xs ys : List PD} : catP (.list xs) (.list ys) = grd (xs.length + ys.length ≤ 100000) (some (.list (xs ++ ys))) := by unfold catP; simp only [grd_ite]
@[simp] theorem q_rep {xs : List PD} {j : Int} : repP (.list xs) (.int j) = grd (0 ≤ j ∧ j ≤ 100000 ∧ xs.length * j.toNat ≤ 100000) (some (.list (List.replicate j.toNat xs).flatten)) := by unfold repP; simp only [grd_ite]
@[simp] theorem q_mul_l {xs : List PD} {j : Int} : mulP (.list xs) (.int j) = grd (0 ≤ j ∧ j ≤ 100000 ∧ xs.length * j.toNat ≤ 100000) (some (.list (List.replicate j.toNat xs).flatten)) := by unfold mulP; simp only [grd_ite]
@[simp] theorem q_mulU_i {i j : Int} : mulU (.int i) (.int j) = grd (In64 i ∨ In64 j) (some (.int (i * j))) := by show mulP (.int i) (.int j) = _; exact q_mul
@[simp] theorem q_mulU_l {xs : List PD} {j : Int} : mulU (.list xs) (.int j) = grd (0 ≤ j ∧ j ≤ 100000 ∧ xs.length * j.toNat ≤ 100000) (some (.list (List.replicate j.toNat xs).flatten)) := by show mulP (.list xs) (.int j) = _; exact q_mul_l
@[simp] theorem q_mulU_t {xs : List PD} {j : Int} : mulU (.tuple xs) (.int j) = grd (xs ≠ [] ∧ 0 ≤ j ∧ j ≤ 1000 ∧ xs.length ≤ 1000) (some (.tuple (List.replicate j.toNat xs).flatten)) := by unfold mulU; simp only [grd_ite]
@[simp] theorem q_minU_l {ds : List PD} : minU [.list ds] = (unI ds).bind minL := (rfl)
@[simp] theorem q_minU_2 {i j : Int} : minU [.int i, .int j] = some (.int (if j < i then j else i)) := (rfl)
@[simp] theorem q_minU_3 {i j k : Int} : minU [.int i, .int j, .int k] = some (.int (if k < (if j < i then j else i) then k else (if j < i then j else i))) := (rfl)
@[simp] theorem q_maxP_2 {i j : Int} : maxP [.int i, .int j] = some (.int (if j > i then j else i)) := (rfl)
@[simp] theorem q_back_l {ds : List PD} : backP (.list ds) = some (.list ds.reverse) := (rfl)
@[simp] theorem q_back_t {ds : List PD} : backP (.tuple ds) = some (.tuple ds.reverse) := (rfl)
@[simp] theorem q_backL {ds : List PD} : backL (.list ds) = some (.list ds.reverse) := (rfl)
theorem q_rgP {n : Int} : rgP (.int n) = grd (-(2 ^ 62) ≤ n ∧ n ≤ 100000) (some ((List.range n.toNat).map natD)) := by unfold rgP; simp only [grd_ite]
structure Rg (n : Int) : Prop where
  lo : -(2 ^ 62) ≤ n
  hi : n ≤ 100000
theorem rg_nat {n : Nat} (h : n ≤ 100000) : Rg (n : Int) := ⟨by omega, by omega⟩
@[simp] theorem q_rgL {n : Int} : rgL (.int n) = grd (Rg n) (some (.list ((List.range n.toNat).map natD))) := by
  unfold rgL
  rw [q_rgP, grd_iff (c' := Rg n) ⟨fun h => ⟨h.1, h.2⟩, fun h => ⟨h.lo, h.hi⟩⟩]
  unfold grd
  split <;> rfl
@[simp] theorem q_rgT {n : Int} : rgT (.int n) = grd (Rg n) (some (.tuple ((List.range n.toNat).map natD))) := by
  unfold rgT
  rw [q_rgP, grd_iff (c' := Rg n) ⟨fun h => ⟨h.1, h.2⟩, fun h => ⟨h.lo, h.hi⟩⟩]
  unfold grd
  split <;> rfl
@[simp] theorem q_three {a b c : Cel} : three [a, b, c] = some (a, b, c) := (rfl)
@[simp] theorem q_sPar3 {i j k : Nat} {as : XWC} : sPar3 i j k as ρ = (as ρ).bind fun x => (three x.1).bind fun c => grd (i < x.2.length ∧ j < x.2.length ∧ k < x.2.length) (some (.nxt (((x.2.set i (toSl c.1)).set j (toSl c.2.1)).set k (toSl c.2.2)))) := by unfold sPar3; simp only [grd_ite]
@[simp] theorem q_sAug {i : Nat} {f : Int → Int → Int} {k a : XE} : sAug i f k a ρ = (ownAt ρ i).bind fun cs => ((k (vw ρ)).bind isI).bind fun k => (ixN cs.length k).bind fun n => ((datAt cs n).bind isI).bind fun x => ((a (vw ρ)).bind isI).bind fun y => some (.nxt (ρ.set i (.own (cs.set n (.dat (.int (f x y))))))) := (rfl)
@[simp] theorem q_wOO {f : PD → PD → Option PD} {a b : XW} : wOO f a b ρ = (a ρ).bind fun x => (b x.2).bind fun y => ((f x.1 y.1).bind asList).bind fun ds => some (dats ds, y.2) := (rfl)
@[simp] theorem q_xCut {a : XE} {lo hi : XO} : xCut a lo hi v = (a v).bind fun d => (lo v).bind fun l => (hi v).bind fun h => cutP d l h := (rfl)
@[simp] theorem q_cutP_l {ds : List PD} {l h : Option Int} : cutP (.list ds) l h = some (.list (cutD ds l h)) := (rfl)
@[simp] theorem q_cutP_s {ds : List PD} {l h : Option Int} : cutP (scrD ds) l h = some (.list (cutD ds l h)) := (rfl)
end
section
variable {l : List Nat} {m : List Int} {W : Web} {F : Fair} {x : Road} {t : Tie} {s : Seat} {i : Int} {k : Nat}
@[simp] theorem n_seq : seqP (natsD l) = some (l.map natD) := (rfl)
@[simp] theorem n_len : lenP (natsD l) = some (natD l.length) := by unfold natsD; simp
@[simp] theorem n_ix : ixP (natsD l) (.int i) = atI (l.map natD) i := (rfl)
@[simp] theorem n_tup : tupP (natsD l) = some (natsD l) := (rfl)
@[simp] theorem n_lst : listP (natsD l) = some (.list (l.map natD)) := (rfl)
@[simp] theorem n_parts : partsP (natsD l) = some (l.map natD) := (rfl)
@[simp] theorem n_full : full (natsD l) = false := (rfl)
@[simp] theorem n_isT : isTy .tuple (natsD l) = true := (rfl)
@[simp] theorem n_enum : enumP [natsD l] = some (pairsD (l.map natD)) := (rfl)
@[simp] theorem n_none : isNone (natsD l) = false := (rfl)
@[simp] theorem n_addR {ds : List PD} : addP (.tuple ds) (natsD l) = grd (ds.length + l.length ≤ 100000) (some (.tuple (ds ++ l.map natD))) := by
  unfold natsD
  rw [q_add_t, List.length_map]
theorem flats_of {ds : List PD} (h : ∀ d ∈ ds, flat d = true) : flats ds = true := by
  induction ds with
  | nil => rfl
  | cons d ds ih => rw [q_flats_cons, h d (List.mem_cons_self ..), ih fun x hx => h x (List.mem_cons_of_mem _ hx)]; rfl
theorem flats_map {α : Type} {f : α → PD} {l : List α} (h : ∀ x, flat (f x) = true) : flats (l.map f) = true := flats_of fun d hd => by obtain ⟨x, _, rfl⟩ := List.mem_map.mp hd; exact h x
@[simp] theorem n_flat : flat (natsD l) = true := by unfold natsD; rw [q_flat_t]; exact flats_map fun _ => q_flat_i
@[simp] theorem n_flats : flats (l.map natD) = true := flats_map fun _ => q_flat_i
@[simp] theorem i_flats : flats (m.map PyData.int) = true := flats_map fun _ => q_flat_i
@[simp] theorem i_seq : seqP (intsD m) = some (m.map PyData.int) := (rfl)
@[simp] theorem i_len : lenP (intsD m) = some (natD m.length) := by unfold intsD; simp
@[simp] theorem i_ix : ixP (intsD m) (.int i) = atI (m.map PyData.int) i := (rfl)
@[simp] theorem i_tup : tupP (intsD m) = some (intsD m) := (rfl)
@[simp] theorem i_lst : listP (intsD m) = some (.list (m.map PyData.int)) := (rfl)
@[simp] theorem i_parts : partsP (intsD m) = some (m.map PyData.int) := (rfl)
@[simp] theorem i_full : full (intsD m) = false := (rfl)
@[simp] theorem i_isT : isTy .tuple (intsD m) = true := (rfl)
@[simp] theorem i_enum : enumP [intsD m] = some (pairsD (m.map PyData.int)) := (rfl)
@[simp] theorem i_none : isNone (intsD m) = false := (rfl)
@[simp] theorem i_flat : flat (intsD m) = true := by unfold intsD; rw [q_flat_t]; exact i_flats
theorem memInt_nat {l : List Nat} {k : Nat} : ((k : Int) ∈ l.map fun (n : Nat) => (n : Int)) ↔ k ∈ l := by
  constructor
  · intro h
    obtain ⟨j, hj, e⟩ := List.mem_map.mp h
    have e : (j : Int) = (k : Int) := e
    have : j = k := by omega
    subst this
    exact hj
  · exact fun h => List.mem_map.mpr ⟨k, h, rfl⟩
theorem idx_nat {l : List Nat} {k : Nat} : (l.map fun (n : Nat) => (n : Int)).idxOf (k : Int) = l.idxOf k := by
  induction l with
  | nil => rfl
  | cons x xs ih =>
    rw [List.map_cons, List.idxOf_cons, List.idxOf_cons, ih]
    have e : ((x : Int) == (k : Int)) = (x == k) := Bool.eq_iff_iff.mpr (by simp; omega)
    rw [e]
theorem n_idx (h : k ∈ l) : idxP (natsD l) (natD k) = some (natD (l.idxOf k)) := by
  unfold natsD idxP
  simp only [unI_nats, Option.bind_some]
  rw [if_pos (memInt_nat.mpr h), idx_nat]
@[simp] theorem w_seq : seqP (webD W) = some [.tuple (W.roads.map roadD), .tuple (W.gives.map natsD), .tuple (W.takes.map natsD)] := (rfl)
@[simp] theorem w_0 : ixP (webD W) (.int 0) = some (.tuple (W.roads.map roadD)) := (rfl)
@[simp] theorem w_1 : ixP (webD W) (.int 1) = some (.tuple (W.gives.map natsD)) := (rfl)
@[simp] theorem w_2 : ixP (webD W) (.int 2) = some (.tuple (W.takes.map natsD)) := (rfl)
@[simp] theorem w_full : full (webD W) = false := (rfl)
@[simp] theorem w_none : isNone (webD W) = false := (rfl)
@[simp] theorem r_seq : seqP (roadD x) = some [endD x.b, endD x.e, .int x.r] := (rfl)
@[simp] theorem r_0 : ixP (roadD x) (.int 0) = some (endD x.b) := (rfl)
@[simp] theorem r_1 : ixP (roadD x) (.int 1) = some (endD x.e) := (rfl)
@[simp] theorem r_2 : ixP (roadD x) (.int 2) = some (.int x.r) := (rfl)
@[simp] theorem e_none {o : Option Nat} : isNone (endD o) = o.isNone := by cases o <;> rfl
@[simp] theorem e_flat {o : Option Nat} : flat (endD o) = true := by cases o <;> simp [endD]
@[simp] theorem r_flat : flat (roadD x) = true := by simp [roadD]
theorem eq_end {o : Option Nat} {h : Nat} : eqP (endD o) (natD h) = some (.bool (o == some h)) := by
  cases o with
  | none => rfl
  | some n => simp [endD]; exact Bool.eq_iff_iff.mpr (by simp; omega)
@[simp] theorem f_seq : seqP (fairD F) = some [.tuple (F.ties.map tieD), .tuple (F.givers.map seatD), .tuple (F.takers.map seatD)] := (rfl)
@[simp] theorem f_0 : ixP (fairD F) (.int 0) = some (.tuple (F.ties.map tieD)) := (rfl)
@[simp] theorem f_1 : ixP (fairD F) (.int 1) = some (.tuple (F.givers.map seatD)) := (rfl)
@[simp] theorem f_2 : ixP (fairD F) (.int 2) = some (.tuple (F.takers.map seatD)) := (rfl)
@[simp] theorem f_full : full (fairD F) = false := (rfl)
@[simp] theorem f_isT : isTy .tuple (fairD F) = true := (rfl)
@[simp] theorem f_len : lenP (fairD F) = some (natD 3) := (rfl)
@[simp] theorem t_seq : seqP (tieD t) = some [natD t.g, natD t.t, .int t.r] := (rfl)
@[simp] theorem t_0 : ixP (tieD t) (.int 0) = some (natD t.g) := (rfl)
@[simp] theorem t_1 : ixP (tieD t) (.int 1) = some (natD t.t) := (rfl)
@[simp] theorem t_2 : ixP (tieD t) (.int 2) = some (.int t.r) := (rfl)
@[simp] theorem t_full : full (tieD t) = false := (rfl)
@[simp] theorem t_isT : isTy .tuple (tieD t) = true := (rfl)
@[simp] theorem t_len : lenP (tieD t) = some (natD 3) := (rfl)
@[simp] theorem t_flat : flat (tieD t) = true := by simp [tieD]
@[simp] theorem s_seq : seqP (seatD s) = some [.int s.much, natsD s.order] := (rfl)
@[simp] theorem s_0 : ixP (seatD s) (.int 0) = some (.int s.much) := (rfl)
@[simp] theorem s_1 : ixP (seatD s) (.int 1) = some (natsD s.order) := (rfl)
@[simp] theorem s_full : full (seatD s) = false := (rfl)
@[simp] theorem s_isT : isTy .tuple (seatD s) = true := (rfl)
@[simp] theorem s_len : lenP (seatD s) = some (natD 2) := (rfl)
@[simp] theorem s_flat : flat (seatD s) = true := by simp [seatD]
end
section
variable {i : Int} {b : Bool} {x : Str} {ds : List PD}
@[simp] theorem ty_ii : isTy .int (.int i) = true := (rfl)
@[simp] theorem ty_bi : isTy .bool (.int i) = false := (rfl)
@[simp] theorem ty_ti : isTy .tuple (.int i) = false := (rfl)
@[simp] theorem ty_ib : isTy .int (.bool b) = true := (rfl)
@[simp] theorem ty_bb : isTy .bool (.bool b) = true := (rfl)
@[simp] theorem ty_tt : isTy .tuple (.tuple ds) = true := (rfl)
@[simp] theorem ty_it : isTy .int (.tuple ds) = false := (rfl)
@[simp] theorem ty_bt : isTy .bool (.tuple ds) = false := (rfl)
@[simp] theorem ty_st : isTy .str (.tuple ds) = false := (rfl)
@[simp] theorem ty_in : isTy .int .none = false := (rfl)
@[simp] theorem ty_bn : isTy .bool .none = false := (rfl)
@[simp] theorem ty_tn : isTy .tuple .none = false := (rfl)
@[simp] theorem ty_sn : isTy .str .none = false := (rfl)
@[simp] theorem ty_si : isTy .str (.int i) = false := (rfl)
@[simp] theorem ty_sb : isTy .str (.bool b) = false := (rfl)
@[simp] theorem ty_tb : isTy .tuple (.bool b) = false := (rfl)
@[simp] theorem all_tt {α : Type} {l : List α} : (l.all fun _ => true) = true := List.all_eq_true.mpr fun _ _ => rfl
end
end Uv

namespace Uv
open PySem PySem.Spec PyProof.Rows L2
variable {ρ : Env}
@[simp] theorem q_mk_dic {l : List (Int × PD)} : (Sl.dic l).mk = none := (rfl)
@[simp] theorem q_vw_dic {l : List (Int × PD)} : (Sl.dic l).vw = none := (rfl)
@[simp] theorem q_dicAt0 {l : List (Int × PD)} {r : Env} : dicAt (.dic l :: r) 0 = some l := (rfl)
@[simp] theorem q_dicAtS {s : Sl} {r : Env} {i : Nat} : dicAt (s :: r) (i + 1) = dicAt r i := (rfl)
@[simp] theorem q_sDNew {i : Nat} : sDNew i ρ = grd (i < ρ.length) (some (.nxt (ρ.set i (.dic [])))) := by
  unfold sDNew
  by_cases c : i < ρ.length
  · rw [if_pos c]; simp [grd, c]
  · rw [if_neg c]; simp [grd, c]
@[simp] theorem q_sEn {i : Nat} {y : XS} : sEn i y ρ = (y ρ).bind fun o => some (fzO i o) := (rfl)
@[simp] theorem fzO_nxt {i : Nat} : fzO i (.nxt ρ) = .nxt (fzE ρ i) := (rfl)
@[simp] theorem fzO_brk {i : Nat} : fzO i (.brk ρ) = .brk (fzE ρ i) := (rfl)
@[simp] theorem fzO_cnt {i : Nat} : fzO i (.cnt ρ) = .cnt (fzE ρ i) := (rfl)
@[simp] theorem fzO_ret {i : Nat} {d : PD} : fzO i (.ret d ρ) = .ret d ρ := (rfl)
@[simp] theorem fzO_retO {i : Nat} {cs : List Cel} : fzO i (.retO cs ρ) = .retO cs ρ := (rfl)
@[simp] theorem q_wDin {i : Nat} {k : XE} : wDin i k ρ = ((k (mk ρ)).bind isI).bind fun n => (dicAt ρ i).bind fun l => some (.bool (hasD l n), ρ) := (rfl)
@[simp] theorem q_wDnot {i : Nat} {k : XE} : wDnot i k ρ = ((k (mk ρ)).bind isI).bind fun n => (dicAt ρ i).bind fun l => some (.bool (!hasD l n), ρ) := (rfl)
@[simp] theorem q_wDget {i : Nat} {k : XE} : wDget i k ρ = ((k (mk ρ)).bind isI).bind fun n => (dicAt ρ i).bind fun l => (getD l n).bind fun d => some (d, ρ) := (rfl)
@[simp] theorem q_sDput {i : Nat} {k : XE} {a : XW} : sDput i k a ρ = (a ρ).bind fun x => ((k (mk x.2)).bind isI).bind fun n => (dicAt x.2 i).bind fun l => grd (l.length < 100000) (some (.nxt (x.2.set i (.dic (putD l n x.1))))) := by
  unfold sDput
  congr 1
  funext x
  congr 1
  funext n
  congr 1
  funext l
  by_cases c : l.length < 100000
  · rw [if_pos c]; simp [grd, c]
  · rw [if_neg c]; simp [grd, c]
end Uv

namespace Fn
open PySem PySem.Spec PyProof.Rows L2 Uv
@[irreducible] def X__law_deck_f : XS :=
    sRetO (wOL (wcDat (wM (xLc (xiE (xSl (xVar 0) xNoPart (xPart (xC (.int 63))))) (gvName 1) xYes (xCB (on1 absP) (xCons (xVar 1) xNil)) [1])) (wcDat (wM (xC (.int 0))) (wcDat (wM (xC (.int 0))) (wcDat (wM (xC (.int 0))) wcNil)))))
@[irreducible] def F__law_deck_f : List PD → Option (List Cel) := runD 1 1 X__law_deck_f
@[irreducible] def X__law_mixed_b : XS :=
    sRet (wM (xOp divP (xOp modP (xOp powP (xOp addP (xOp addP (xOp modP (xVar 0) (xC (.int 2147483629))) (xOp mulU (xVar 1) (xC (.int 1000003)))) (xC (.int 17))) (xC (.int 5))) (xC (.int 2147483647))) (xC (.int 7))))
@[irreducible] def F__law_mixed_b : List PD → Option PD := runP 2 0 X__law_mixed_b
@[irreducible] def X__law_next_c : XS :=
    sSeq (sSet 0 (xC (.int 3)) (wV (xOp addP (xOp ixP (xVar 0) (xC (.int 3))) (xC (.int 1)))))
    (sSeq (sIf (wVT (xTAnd (xB (xOp eqP (xOp ixP (xVar 0) (xC (.int 2))) (xC (.int 0)))) (xB (xOp ltP (xOp ixP (xVar 0) (xC (.int 1))) (xCB (on1 lenP) (xCons (xOp ixP (xVar 0) (xC (.int 0))) xNil)))))) (sSeq (sAsg (gName' 2) (wV (xOp ixP (xOp ixP (xVar 0) (xC (.int 0))) (xOp ixP (xVar 0) (xC (.int 1))))))
    (sSeq (sSet 0 (xC (.int 1)) (wV (xOp addP (xOp ixP (xVar 0) (xC (.int 1))) (xC (.int 1)))))
    (sSeq (sIf (wMT (xB (xOp ltP (xVar 2) (xOp powP (xC (.int 10)) (xC (.int 18)))))) (sRet (wV (xOp modP (xCB F__law_mixed_b (xCons (xVar 2) (xCons (xOp ixP (xVar 0) (xC (.int 3))) xNil))) (xVar 1)))) sNext)
    (sSet 0 (xC (.int 2)) (wM (xVar 2)))))) sNext)
    (sSeq (sIf (wVT (xB (xOp gtU (xOp ixP (xVar 0) (xC (.int 2))) (xC (.int 0))))) (sSeq (sAsg (gName' 3) (wV (xOp modP (xOp ixP (xVar 0) (xC (.int 2))) (xVar 1))))
    (sSeq (sSet 0 (xC (.int 2)) (wV (xOp divP (xOp ixP (xVar 0) (xC (.int 2))) (xVar 1))))
    (sRet (wM (xVar 3))))) sNext)
    (sSeq (sAsg (gName' 4) (wV (xOp mulU (xOp ixP (xVar 0) (xC (.int 3))) (xC (.int 48271)))))
    (sSeq (sIf (wVT (xB (xOp neP (xOp ixP (xVar 0) (xC (.int 0))) (xLst xNil)))) (sAsg (gName' 4) (wV (xOp addP (xVar 4) (xOp ixP (xOp ixP (xVar 0) (xC (.int 0))) (xOp modP (xOp mulU (xOp ixP (xVar 0) (xC (.int 3))) (xC (.int 7))) (xCB (on1 lenP) (xCons (xOp ixP (xVar 0) (xC (.int 0))) xNil))))))) sNext)
    (sRet (wV (xOp modP (xCB F__law_mixed_b (xCons (xVar 4) (xCons (xOp ixP (xVar 0) (xC (.int 3))) xNil))) (xVar 1))))))))
@[irreducible] def F__law_next_c : List Cel → List PD → Option (PD × List Cel) := runW 1 3 X__law_next_c
@[irreducible] def X__law_behind : XS :=
    sSeq (sIf (wMT (xB (xOp notinP (xVar 1) (xVar 0)))) (sRet (wM (xVar 0))) sNext)
    (sSeq (sAsg (gName' 3) (wM (xOp addP (xIdx (xVar 0) (xVar 1)) (xC (.int 1)))))
    (sRet (wM (xOp addP (xOp addP (xSl (xVar 0) xNoPart (xPart (xVar 3))) (xTup (xCons (xVar 2) xNil))) (xSl (xVar 0) (xPart (xVar 3)) xNoPart)))))
@[irreducible] def F__law_behind : List PD → Option PD := runP 3 1 X__law_behind
@[irreducible] def X__law_parted_c : XS :=
    sSeq (sAsg (gName' 3) (wM (xCB (on1 lenP) (xCons (xOp ixP (xVar 0) (xC (.int 0))) xNil))))
    (sSeq (sIf (wMT (xB (xOp eqP (xVar 3) (xC (.int 20))))) (sRet (wM (xLst (xCons (xC (.str "full")) xNil)))) sNext)
    (sSeq (sAsg (gTup' 3 (gCons' (gName' 4) (gCons' (gName' 5) (gCons' (gName' 6) gNil')))) (wM (xOp ixP (xOp ixP (xVar 0) (xC (.int 0))) (xVar 1))))
    (sSeq (sAsg (gName' 7) (wM (xOp addP (xOp addP (xOp addP (xSl (xOp ixP (xVar 0) (xC (.int 0))) xNoPart (xPart (xVar 1))) (xTup (xCons (xTup (xCons (xVar 4) (xCons (xVar 5) (xCons (xVar 2) xNil)))) xNil))) (xSl (xOp ixP (xVar 0) (xC (.int 0))) (xPart (xOp addP (xVar 1) (xC (.int 1)))) xNoPart)) (xTup (xCons (xTup (xCons (xVar 4) (xCons (xVar 5) (xCons (xOp subP (xVar 6) (xVar 2)) xNil)))) xNil)))))
    (sSeq (sAsg (gName' 8) (wM (xCB (on1 tupP) (xCons (xLc (xiE (xOp ixP (xVar 0) (xC (.int 1)))) (gvName 9) xYes (xCB F__law_behind (xCons (xVar 9) (xCons (xVar 1) (xCons (xVar 3) xNil)))) [9]) xNil))))
    (sRet (wM (xTup (xCons (xVar 7) (xCons (xVar 8) (xCons (xCB (on1 tupP) (xCons (xLc (xiE (xOp ixP (xVar 0) (xC (.int 2)))) (gvName 9) xYes (xCB F__law_behind (xCons (xVar 9) (xCons (xVar 1) (xCons (xVar 3) xNil)))) [9]) xNil)) xNil))))))))))
@[irreducible] def F__law_parted_c : List PD → Option PD := runP 3 7 X__law_parted_c
@[irreducible] def X_check_many_b : XS :=
    sIf (wMT (xTOr (xB (xOp gtU (xVar 0) (xC (.int 8)))) (xB (xOp gtU (xVar 1) (xC (.int 20)))))) (sRaise 0) sNext
@[irreducible] def F_check_many_b : List PD → Option PD := runP 2 0 X_check_many_b
@[irreducible] def X_exchanged : XS :=
    sRet (wM (xOp addP (xOp addP (xSl (xVar 0) xNoPart (xPart (xVar 1))) (xTup (xCons (xVar 2) xNil))) (xSl (xVar 0) (xPart (xOp addP (xVar 1) (xC (.int 1)))) xNoPart)))
@[irreducible] def F_exchanged : List PD → Option PD := runP 3 0 X_exchanged
@[irreducible] def X_order_with : XS :=
    sSeq (sIf (wMT (xB (xOp notinP (xVar 1) (xVar 0)))) (sRet (wM (xVar 0))) sNext)
    (sSeq (sAsg (gName' 3) (wM (xOp addP (xIdx (xVar 0) (xVar 1)) (xC (.int 1)))))
    (sRet (wM (xOp addP (xOp addP (xSl (xVar 0) xNoPart (xPart (xVar 3))) (xTup (xCons (xVar 2) xNil))) (xSl (xVar 0) (xPart (xVar 3)) xNoPart)))))
@[irreducible] def F_order_with : List PD → Option PD := runP 3 1 X_order_with
@[irreducible] def X_orders_with : XS :=
    sRet (wM (xCB (on1 tupP) (xCons (xLc (xiE (xVar 0)) (gvName 3) xYes (xCB F_order_with (xCons (xVar 3) (xCons (xVar 1) (xCons (xVar 2) xNil)))) [3]) xNil)))
@[irreducible] def F_orders_with : List PD → Option PD := runP 3 1 X_orders_with
@[irreducible] def X_parted_c : XS :=
    sSeq (sAsg (gTup' 3 (gCons' (gName' 3) (gCons' (gName' 4) (gCons' (gName' 5) gNil')))) (wM (xVar 0)))
    (sSeq (sAsg (gName' 6) (wM (xCB (on1 lenP) (xCons (xVar 3) xNil))))
    (sSeq (sDropX F_check_many_b (xCons (xCB (on1 lenP) (xCons (xVar 4) xNil)) (xCons (xOp addP (xVar 6) (xC (.int 1))) xNil)))
    (sSeq (sAsg (gTup' 3 (gCons' (gName' 7) (gCons' (gName' 8) (gCons' (gName' 9) gNil')))) (wM (xOp ixP (xVar 3) (xVar 1))))
    (sRet (wM (xTup (xCons (xOp addP (xCB F_exchanged (xCons (xVar 3) (xCons (xVar 1) (xCons (xTup (xCons (xVar 7) (xCons (xVar 8) (xCons (xVar 2) xNil)))) xNil)))) (xTup (xCons (xTup (xCons (xVar 7) (xCons (xVar 8) (xCons (xOp subP (xVar 9) (xVar 2)) xNil)))) xNil))) (xCons (xCB F_orders_with (xCons (xVar 4) (xCons (xVar 1) (xCons (xVar 6) xNil)))) (xCons (xCB F_orders_with (xCons (xVar 5) (xCons (xVar 1) (xCons (xVar 6) xNil)))) xNil)))))))))
@[irreducible] def F_parted_c : List PD → Option PD := runP 3 7 X_parted_c
@[irreducible] def X__law_told_u : XS :=
    sSeq (sAsg (gName' 3) (wM (xC .none)))
    (sSeq (sTryB F_parted_c (xCons (xVar 0) (xCons (xVar 1) (xCons (xVar 2) xNil))) [0] "full" 4 3 5)
    (sRet (wM (xVar 3))))
@[irreducible] def F__law_told_u : List PD → Option PD := runP 3 2 X__law_told_u
@[irreducible] def X__law_right_z39 : XS :=
    sSeq (sAsg (gName' 3) (wM (xCB (on1 reprP) (xCons (xVar 0) xNil))))
    (sSeq (sAsg (gName' 4) (wM (xCB (on1 reprP) (xCons (xCB F__law_parted_c (xCons (xVar 0) (xCons (xVar 1) (xCons (xVar 2) xNil)))) xNil))))
    (sRet (wM (xAnd (xOp eqP (xCB (on1 reprP) (xCons (xCB F__law_told_u (xCons (xVar 0) (xCons (xVar 1) (xCons (xVar 2) xNil)))) xNil)) (xVar 4)) (xAnd (xOp eqP (xCB (on1 reprP) (xCons (xCB F__law_told_u (xCons (xVar 0) (xCons (xVar 1) (xCons (xVar 2) xNil)))) xNil)) (xVar 4)) (xOp eqP (xCB (on1 reprP) (xCons (xVar 0) xNil)) (xVar 3)))))))
@[irreducible] def F__law_right_z39 : List PD → Option PD := runP 3 2 X__law_right_z39
@[irreducible] def X__law_room_e : XS :=
    sSeq (sAsg (gName' 3) (wM (xOp ixP (xOp ixP (xOp ixP (xVar 1) (xC (.int 0))) (xVar 2)) (xC (.int 2)))))
    (sRet (wOp ixP (wLst (wCons (wM (xC (.int 0))) (wCons (wM (xVar 3)) (wCons (wCallK 0 F__law_next_c (wCons (wM (xOp addP (xVar 3) (xC (.int 1)))) wNil)) (wCons (wCallK 0 F__law_next_c (wCons (wM (xOp addP (xVar 3) (xC (.int 1)))) wNil)) wNil))))) (wCallK 0 F__law_next_c (wCons (wM (xC (.int 4))) wNil))))
@[irreducible] def F__law_room_e : List Cel → List PD → Option (PD × List Cel) := runW 2 1 X__law_room_e
@[irreducible] def X__law_one_b : XS :=
    sRet (wOp ixP (wM (xVar 1)) (wCallK 0 F__law_next_c (wCons (wM (xCB (on1 lenP) (xCons (xVar 1) xNil))) wNil)))
@[irreducible] def F__law_one_b : List Cel → List PD → Option (PD × List Cel) := runW 1 0 X__law_one_b
@[irreducible] def X__law_order_d_b1 : XS :=
    sApp 3 (wPop 2 (wCallK 0 F__law_next_c (wCons (wV (xCB (on1 lenP) (xCons (xVar 2) xNil))) wNil)))
@[irreducible] def X__law_order_d : XS :=
    sSeq (sPar 2 3 (wcSub (wOM (xUn listP (xVar 1))) (wcSub (wOL wcNil) wcNil)))
    (sSeq (sWhile fuel (wVT (xB (xOp neP (xVar 2) (xLst xNil)))) X__law_order_d_b1)
    (sFz 2 (sFz 3 (sRet (wM (xCB (on1 tupP) (xCons (xVar 3) xNil)))))))
@[irreducible] def F__law_order_d : List Cel → List PD → Option (PD × List Cel) := runW 1 2 X__law_order_d
@[irreducible] def X__law_web_f_b1 : XS :=
    sSeq (sOwn 7 (wOM (xOp catP (xLst (xCons (xC .none) xNil)) (xUn rgL (xVar 4)))))
    (sSeq (sAsg (gName' 8) (wPop 7 (wCallK 0 F__law_next_c (wCons (wV (xCB (on1 lenP) (xCons (xVar 7) xNil))) wNil))))
    (sFz 7 (sApp 5 (wTup (wCons (wM (xVar 8)) (wCons (wCallK 0 F__law_one_b (wCons (wM (xVar 7)) wNil)) (wCons (wOp ixP (wM (xLst (xCons (xC (.int 1)) (xCons (xC (.int 2)) (xCons (xC (.int 1)) (xCons (xC (.int 0)) (xCons (xC (.int 2)) (xCons (xC (.int 1)) xNil)))))))) (wCallK 0 F__law_next_c (wCons (wM (xC (.int 6))) wNil))) wNil)))))))
@[irreducible] def X__law_web_f : XS :=
    sSeq (sPar3 3 4 5 (wcDat (wCallK 0 F__law_next_c (wCons (wM (xC (.int 4))) wNil)) (wcDat (wOp addP (wM (xC (.int 1))) (wCallK 0 F__law_next_c (wCons (wM (xVar 1)) wNil))) (wcSub (wOL wcNil) wcNil))))
    (sSeq (sIf (wMT (xTAnd (xB (xOp eqP (xVar 3) (xC (.int 0)))) (xB (xOp gtU (xVar 2) (xC (.int 4)))))) (sFz 5 (sSeq (sAsg (gName' 4) (wM (xCB maxP (xCons (xC (.int 2)) (xCons (xVar 4) xNil)))))
    (sOwn 5 (wOL (wcDat (wM (xTup (xCons (xC .none) (xCons (xC (.int 0)) (xCons (xC (.int 1)) xNil))))) (wcDat (wTup (wCons (wM (xC (.int 0))) (wCons (wM (xC (.int 1))) (wCons (wOp addP (wM (xC (.int 1))) (wCallK 0 F__law_next_c (wCons (wM (xC (.int 2))) wNil))) wNil)))) (wcDat (wTup (wCons (wM (xC (.int 0))) (wCons (wM (xC (.int 1))) (wCons (wOp addP (wM (xC (.int 1))) (wCallK 0 F__law_next_c (wCons (wM (xC (.int 2))) wNil))) wNil)))) (wcDat (wM (xTup (xCons (xC (.int 1)) (xCons (xC .none) (xCons (xC (.int 1)) xNil))))) wcNil)))))))) sNext)
    (sSeq (sFor (wiA rngP (wCons (wOp subP (wOp addP (wM (xC (.int 1))) (wCallK 0 F__law_next_c (wCons (wM (xVar 2)) wNil))) (wV (xCB (on1 lenP) (xCons (xVar 5) xNil)))) wNil)) (gName' 6) X__law_web_f_b1)
    (sFz 5 (sSeq (sAsg (gName' 9) (wM (xLc (xiA rngP (xCons (xVar 4) xNil)) (gvName 11) xYes (xLc (xiA rngP (xCons (xCB (on1 lenP) (xCons (xVar 5) xNil)) xNil)) (gvName 6) (xB (xOp eqP (xOp ixP (xOp ixP (xVar 5) (xVar 6)) (xC (.int 0))) (xVar 11))) (xVar 6) [6]) [11])))
    (sSeq (sAsg (gName' 10) (wM (xLc (xiA rngP (xCons (xVar 4) xNil)) (gvName 11) xYes (xLc (xiA rngP (xCons (xCB (on1 lenP) (xCons (xVar 5) xNil)) xNil)) (gvName 6) (xB (xOp eqP (xOp ixP (xOp ixP (xVar 5) (xVar 6)) (xC (.int 1))) (xVar 11))) (xVar 6) [6]) [11])))
    (sSeq (sIf (wMT (xB (xOp ltP (xVar 3) (xC (.int 2))))) (sRet (wM (xTup (xCons (xCB (on1 tupP) (xCons (xVar 5) xNil)) (xCons (xCB (on1 tupP) (xCons (xLc (xiE (xVar 9)) (gvName 12) xYes (xCB (on1 tupP) (xCons (xVar 12) xNil)) [12]) xNil)) (xCons (xCB (on1 tupP) (xCons (xLc (xiE (xVar 10)) (gvName 12) xYes (xCB (on1 tupP) (xCons (xUn backP (xVar 12)) xNil)) [12]) xNil)) xNil)))))) sNext)
    (sSeq (sAsg (gName' 9) (wCB (on1 tupP) (wCons (wFz (wLc (wiE (wM (xVar 9))) (gName' 12) (wMT xYes) (wCallK 0 F__law_order_d (wCons (wM (xVar 12)) wNil)) [12])) wNil)))
    (sRet (wTup (wCons (wM (xCB (on1 tupP) (xCons (xVar 5) xNil))) (wCons (wM (xVar 9)) (wCons (wCB (on1 tupP) (wCons (wFz (wLc (wiE (wM (xVar 10))) (gName' 12) (wMT xYes) (wCallK 0 F__law_order_d (wCons (wM (xVar 12)) wNil)) [12])) wNil)) wNil))))))))))))
@[irreducible] def F__law_web_f : List Cel → List PD → Option (PD × List Cel) := runW 2 10 X__law_web_f
@[irreducible] def X__law_wide_f_b1 : XS :=
    sSeq (sOwn 4 (wOM (xOp catP (xLst (xCons (xC .none) xNil)) (xUn rgL (xVar 1)))))
    (sSeq (sAsg (gName' 5) (wPop 4 (wCallK 0 F__law_next_c (wCons (wV (xCB (on1 lenP) (xCons (xVar 4) xNil))) wNil))))
    (sFz 4 (sSeq (sAsg (gName' 6) (wOp ixP (wLst (wCons (wM (xC (.int 0))) (wCons (wM (xC (.int 1))) (wCons (wM (xC (.int 2))) (wCons (wCallK 0 F__law_next_c (wCons (wM (xOp powP (xC (.int 10)) (xC (.int 6)))) wNil)) (wCons (wOp subP (wM (xOp powP (xC (.int 10)) (xC (.int 12)))) (wCallK 0 F__law_next_c (wCons (wM (xC (.int 3))) wNil))) wNil)))))) (wCallK 0 F__law_next_c (wCons (wM (xC (.int 5))) wNil))))
    (sApp 2 (wTup (wCons (wM (xVar 5)) (wCons (wCallK 0 F__law_one_b (wCons (wM (xVar 4)) wNil)) (wCons (wM (xVar 6)) wNil))))))))
@[irreducible] def X__law_wide_f_b2 : XS :=
    sSeq (sApp 7 (wCallK 0 F__law_order_d (wCons (wM (xLc (xiA rngP (xCons (xCB (on1 lenP) (xCons (xVar 2) xNil)) xNil)) (gvName 3) (xB (xOp eqP (xOp ixP (xOp ixP (xVar 2) (xVar 3)) (xC (.int 0))) (xVar 9))) (xVar 3) [3])) wNil)))
    (sApp 8 (wCallK 0 F__law_order_d (wCons (wM (xLc (xiA rngP (xCons (xCB (on1 lenP) (xCons (xVar 2) xNil)) xNil)) (gvName 3) (xB (xOp eqP (xOp ixP (xOp ixP (xVar 2) (xVar 3)) (xC (.int 1))) (xVar 9))) (xVar 3) [3])) wNil)))
@[irreducible] def X__law_wide_f : XS :=
    sSeq (sAsg (gName' 1) (wOp addP (wM (xC (.int 1))) (wCallK 0 F__law_next_c (wCons (wM (xC (.int 8))) wNil))))
    (sSeq (sOwn 2 (wOL wcNil))
    (sSeq (sFor (wiA rngP (wCons (wOp addP (wM (xC (.int 1))) (wCallK 0 F__law_next_c (wCons (wM (xC (.int 20))) wNil))) wNil)) (gName' 3) X__law_wide_f_b1)
    (sFz 2 (sSeq (sPar 7 8 (wcSub (wOL wcNil) (wcSub (wOL wcNil) wcNil)))
    (sSeq (sFor (wiA rngP (wCons (wM (xVar 1)) wNil)) (gName' 9) X__law_wide_f_b2)
    (sFz 8 (sFz 7 (sRet (wM (xTup (xCons (xCB (on1 tupP) (xCons (xVar 2) xNil)) (xCons (xCB (on1 tupP) (xCons (xVar 7) xNil)) (xCons (xCB (on1 tupP) (xCons (xVar 8) xNil)) xNil)))))))))))))
@[irreducible] def F__law_wide_f : List Cel → List PD → Option (PD × List Cel) := runW 0 9 X__law_wide_f
@[irreducible] def X_law_z179_b1 : XS :=
    sSeq (sAsg (gName' 5) (wCallK 1 F__law_next_c (wCons (wM (xCB (on1 lenP) (xCons (xOp ixP (xVar 3) (xC (.int 0))) xNil))) wNil)))
    (sIf (wTNot (wB (wCB F__law_right_z39 (wCons (wM (xVar 3)) (wCons (wM (xVar 5)) (wCons (wCallK 1 F__law_room_e (wCons (wM (xVar 3)) (wCons (wM (xVar 5)) wNil))) wNil)))))) (sFz 1 (sRet (wM (xC (.bool false))))) sNext)
@[irreducible] def X_law_z179_b2 : XS :=
    sSeq (sAsg (gName' 5) (wCallK 1 F__law_next_c (wCons (wM (xCB (on1 lenP) (xCons (xOp ixP (xVar 3) (xC (.int 0))) xNil))) wNil)))
    (sSeq (sAsg (gName' 6) (wCallK 1 F__law_room_e (wCons (wM (xVar 3)) (wCons (wM (xVar 5)) wNil))))
    (sSeq (sIf (wMT (xTNot (xB (xCB F__law_right_z39 (xCons (xVar 3) (xCons (xVar 5) (xCons (xVar 6) xNil))))))) (sFz 1 (sRet (wM (xC (.bool false))))) sNext)
    (sIf (wMT (xB (xOp ltP (xCB (on1 lenP) (xCons (xOp ixP (xVar 3) (xC (.int 0))) xNil)) (xC (.int 20))))) (sAsg (gName' 3) (wM (xCB F__law_parted_c (xCons (xVar 3) (xCons (xVar 5) (xCons (xVar 6) xNil)))))) sNext)))
@[irreducible] def X_law_z179_b3 : XS :=
    sSeq (sAsg (gName' 3) (wOp ixP (wLst (wCons (wCallK 1 F__law_web_f (wCons (wM (xC (.int 3))) (wCons (wM (xC (.int 6))) wNil))) (wCons (wCallK 1 F__law_wide_f wNil) wNil))) (wCallK 1 F__law_next_c (wCons (wM (xC (.int 2))) wNil))))
    (sSeq (sFor (wiA rngP (wCons (wM (xC (.int 4))) wNil)) (gName' 4) X_law_z179_b1)
    (sFor (wiA rngP (wCons (wM (xC (.int 20))) wNil)) (gName' 4) X_law_z179_b2))
@[irreducible] def X_law_z179 : XS :=
    sSeq (sOwn 1 (wCallD F__law_deck_f (wCons (wM (xVar 0)) wNil)))
    (sSeq (sFor (wiA rngP (wCons (wM (xC (.int 3))) wNil)) (gName' 2) X_law_z179_b3)
    (sFz 1 (sRet (wM (xC (.bool true))))))
@[irreducible] def F_law_z179 : List PD → Option PD := runP 1 6 X_law_z179
@[irreducible] def X__law_wide_d_b1 : XS :=
    sSeq (sOwn 4 (wOM (xOp catP (xLst (xCons (xC .none) xNil)) (xUn rgL (xVar 1)))))
    (sSeq (sAsg (gName' 5) (wPop 4 (wCallK 0 F__law_next_c (wCons (wV (xCB (on1 lenP) (xCons (xVar 4) xNil))) wNil))))
    (sFz 4 (sSeq (sAsg (gName' 6) (wOp ixP (wLst (wCons (wM (xC (.int 0))) (wCons (wM (xC (.int 1))) (wCons (wM (xC (.int 2))) (wCons (wCallK 0 F__law_next_c (wCons (wM (xOp powP (xC (.int 10)) (xC (.int 6)))) wNil)) (wCons (wOp subP (wM (xOp powP (xC (.int 10)) (xC (.int 12)))) (wCallK 0 F__law_next_c (wCons (wM (xC (.int 3))) wNil))) wNil)))))) (wCallK 0 F__law_next_c (wCons (wM (xC (.int 5))) wNil))))
    (sApp 2 (wTup (wCons (wM (xVar 5)) (wCons (wCallK 0 F__law_one_b (wCons (wM (xVar 4)) wNil)) (wCons (wM (xVar 6)) wNil))))))))
@[irreducible] def X__law_wide_d_b2 : XS :=
    sSeq (sApp 7 (wCallK 0 F__law_order_d (wCons (wM (xLc (xiA rngP (xCons (xCB (on1 lenP) (xCons (xVar 2) xNil)) xNil)) (gvName 3) (xB (xOp eqP (xOp ixP (xOp ixP (xVar 2) (xVar 3)) (xC (.int 0))) (xVar 9))) (xVar 3) [3])) wNil)))
    (sApp 8 (wCallK 0 F__law_order_d (wCons (wM (xLc (xiA rngP (xCons (xCB (on1 lenP) (xCons (xVar 2) xNil)) xNil)) (gvName 3) (xB (xOp eqP (xOp ixP (xOp ixP (xVar 2) (xVar 3)) (xC (.int 1))) (xVar 9))) (xVar 3) [3])) wNil)))
@[irreducible] def X__law_wide_d : XS :=
    sSeq (sAsg (gName' 1) (wOp addP (wM (xC (.int 1))) (wCallK 0 F__law_next_c (wCons (wM (xC (.int 8))) wNil))))
    (sSeq (sOwn 2 (wOL wcNil))
    (sSeq (sFor (wiA rngP (wCons (wOp addP (wM (xC (.int 1))) (wCallK 0 F__law_next_c (wCons (wM (xC (.int 20))) wNil))) wNil)) (gName' 3) X__law_wide_d_b1)
    (sFz 2 (sSeq (sPar 7 8 (wcSub (wOL wcNil) (wcSub (wOL wcNil) wcNil)))
    (sSeq (sFor (wiA rngP (wCons (wM (xVar 1)) wNil)) (gName' 9) X__law_wide_d_b2)
    (sFz 8 (sFz 7 (sRet (wM (xTup (xCons (xCB (on1 tupP) (xCons (xVar 2) xNil)) (xCons (xCB (on1 tupP) (xCons (xVar 7) xNil)) (xCons (xCB (on1 tupP) (xCons (xVar 8) xNil)) xNil)))))))))))))
@[irreducible] def F__law_wide_d : List Cel → List PD → Option (PD × List Cel) := runW 0 9 X__law_wide_d
@[irreducible] def X_is_number : XS :=
    sRet (wM (xAnd (xIsi .int (xVar 0)) (xNot (xIsi .bool (xVar 0)))))
@[irreducible] def F_is_number : List PD → Option PD := runP 1 0 X_is_number
@[irreducible] def X_is_number_to : XS :=
    sRet (wM (xAnd (xCB F_is_number (xCons (xVar 0) xNil)) (xChain leP leP (xC (.int 0)) (xVar 0) (xVar 1))))
@[irreducible] def F_is_number_to : List PD → Option PD := runP 2 0 X_is_number_to
@[irreducible] def X_is_tuple_of : XS :=
    sRet (wM (xAnd (xIsi .tuple (xVar 0)) (xChain leP leP (xVar 1) (xCB (on1 lenP) (xCons (xVar 0) xNil)) (xVar 2))))
@[irreducible] def F_is_tuple_of : List PD → Option PD := runP 3 0 X_is_tuple_of
section
variable [kk : KK]
def T__law_deck_f : TS :=
    tRet (tLst (tCons (tLc (iSeq K (tSl (rSlU K) (tVar 0) tNoPart (tPart (tC (.int 63))))) (gName 1) tYes (tCB rAbsQ (tCons (tVar 1) tNil)) [1]) (tCons (tC (.int 0)) (tCons (tC (.int 0)) (tCons (tC (.int 0)) tNil)))))
theorem ss__law_deck_f : SS T__law_deck_f X__law_deck_f := by
  unfold X__law_deck_f T__law_deck_f
  exact ss_retO (swo_lst (swc_dat (sw_M (SEF.se (sef_lc (si_seq (se_sl se_var sp_none (sp_some se_int))) sgv_name (by decide) st_yes (se_cb sc_abs (sa_cons se_var sa_nil))))) (swc_dat (sw_M se_int) (swc_dat (sw_M se_int) (swc_dat (sw_M se_int) swc_nil)))))
def T__law_mixed_b : TS :=
    tRet (tOp oDivW (tOp oMod (tOp oPow (tOp (rAddU K) (tOp (rAddU K) (tOp oMod (tVar 0) (tC (.int 2147483629))) (tOp (rMulV K) (tVar 1) (tC (.int 1000003)))) (tC (.int 17))) (tC (.int 5))) (tC (.int 2147483647))) (tC (.int 7)))
theorem ss__law_mixed_b : SS T__law_mixed_b X__law_mixed_b := by
  unfold X__law_mixed_b T__law_mixed_b
  exact ss_ret (sw_M (se_op so_div (se_op so_mod (se_op so_pow (se_op so_add (se_op so_add (se_op so_mod se_var se_int) (se_op so_mulV se_var se_int)) se_int) se_int) se_int) se_int))
def T__law_next_c : TS :=
    tSeq (tAsg (tOp (rAddU K) (tOp (rIx K) (tVar 0) (tC (.int 3))) (tC (.int 1))) (gSub (tVar 0) (tC (.int 3)) rSetL))
    (tSeq (tIfS (tAnd (tTest (tOp (rEqX K) (tOp (rIx K) (tVar 0) (tC (.int 2))) (tC (.int 0)))) (tTest (tOp oLt (tOp (rIx K) (tVar 0) (tC (.int 1))) (tCB (rLenQ K) (tCons (tOp (rIx K) (tVar 0) (tC (.int 0))) tNil))))) (tSeq (tAsg (tOp (rIx K) (tOp (rIx K) (tVar 0) (tC (.int 0))) (tOp (rIx K) (tVar 0) (tC (.int 1)))) (gName 2))
    (tSeq (tAsg (tOp (rAddU K) (tOp (rIx K) (tVar 0) (tC (.int 1))) (tC (.int 1))) (gSub (tVar 0) (tC (.int 1)) rSetL))
    (tSeq (tIfS (tTest (tOp oLt (tVar 2) (tOp oPow (tC (.int 10)) (tC (.int 18))))) (tRet (tOp oMod (tCall (spF F__law_mixed_b) [] E0 (tCons (tVar 2) (tCons (tOp (rIx K) (tVar 0) (tC (.int 3))) tNil))) (tVar 1))) tNext)
    (tAsg (tVar 2) (gSub (tVar 0) (tC (.int 2)) rSetL))))) tNext)
    (tSeq (tIfS (tTest (tOp (rGtU K) (tOp (rIx K) (tVar 0) (tC (.int 2))) (tC (.int 0)))) (tSeq (tAsg (tOp oMod (tOp (rIx K) (tVar 0) (tC (.int 2))) (tVar 1)) (gName 3))
    (tSeq (tAsg (tOp oDivW (tOp (rIx K) (tVar 0) (tC (.int 2))) (tVar 1)) (gSub (tVar 0) (tC (.int 2)) rSetL))
    (tRet (tVar 3)))) tNext)
    (tSeq (tAsg (tOp (rMulV K) (tOp (rIx K) (tVar 0) (tC (.int 3))) (tC (.int 48271))) (gName 4))
    (tSeq (tIfS (tTest (tOp (rNeD K) (tOp (rIx K) (tVar 0) (tC (.int 0))) (tLst tNil))) (tAsg (tOp (rAddU K) (tVar 4) (tOp (rIx K) (tOp (rIx K) (tVar 0) (tC (.int 0))) (tOp oMod (tOp (rMulV K) (tOp (rIx K) (tVar 0) (tC (.int 3))) (tC (.int 7))) (tCB (rLenQ K) (tCons (tOp (rIx K) (tVar 0) (tC (.int 0))) tNil))))) (gName 4)) tNext)
    (tRet (tOp oMod (tCall (spF F__law_mixed_b) [] E0 (tCons (tVar 4) (tCons (tOp (rIx K) (tVar 0) (tC (.int 3))) tNil))) (tVar 1)))))))
theorem ss__law_next_c : SS T__law_next_c X__law_next_c := by
  unfold X__law_next_c T__law_next_c
  exact ss_seq (ss_set se_int (sw_V (se_op so_add (se_op so_ix se_var se_int) se_int)))
    (ss_seq (ss_if (swt_V (st_and (st_test (se_op so_eq (se_op so_ix se_var se_int) se_int)) (st_test (se_op so_lt (se_op so_ix se_var se_int) (se_cb sc_len (sa_cons (se_op so_ix se_var se_int) sa_nil)))))) (ss_seq (ss_asg (sg_name (by decide)) (sw_V (se_op so_ix (se_op so_ix se_var se_int) (se_op so_ix se_var se_int))))
    (ss_seq (ss_set se_int (sw_V (se_op so_add (se_op so_ix se_var se_int) se_int)))
    (ss_seq (ss_if (swt_M (st_test (se_op so_lt se_var (se_op so_pow se_int se_int)))) (ss_ret (sw_V (se_op so_mod (se_call (sa_cons se_var (sa_cons (se_op so_ix se_var se_int) sa_nil))) se_var))) ss_next)
    (ss_set se_int (sw_M se_var))))) ss_next)
    (ss_seq (ss_if (swt_V (st_test (se_op so_gtU (se_op so_ix se_var se_int) se_int))) (ss_seq (ss_asg (sg_name (by decide)) (sw_V (se_op so_mod (se_op so_ix se_var se_int) se_var)))
    (ss_seq (ss_set se_int (sw_V (se_op so_div (se_op so_ix se_var se_int) se_var)))
    (ss_ret (sw_M se_var)))) ss_next)
    (ss_seq (ss_asg (sg_name (by decide)) (sw_V (se_op so_mulV (se_op so_ix se_var se_int) se_int)))
    (ss_seq (ss_if (swt_V (st_test (se_op so_ne (se_op so_ix se_var se_int) (SEF.se (sef_lst sa_nil))))) (ss_asg (sg_name (by decide)) (sw_V (se_op so_add se_var (se_op so_ix (se_op so_ix se_var se_int) (se_op so_mod (se_op so_mulV (se_op so_ix se_var se_int) se_int) (se_cb sc_len (sa_cons (se_op so_ix se_var se_int) sa_nil))))))) ss_next)
    (ss_ret (sw_V (se_op so_mod (se_call (sa_cons se_var (sa_cons (se_op so_ix se_var se_int) sa_nil))) se_var)))))))
def T__law_behind : TS :=
    tSeq (tIfS (tTest (tOp (rNotInU K) (tVar 1) (tVar 0))) (tRet (tVar 0)) tNext)
    (tSeq (tAsg (tOp (rAddU K) (tIdx K (tVar 0) (tCons (tVar 1) tNil)) (tC (.int 1))) (gName 3))
    (tRet (tOp (rAddU K) (tOp (rAddU K) (tSl (rSlU K) (tVar 0) tNoPart (tPart (tVar 3))) (tTupF (tCons (tVar 2) tNil))) (tSl (rSlU K) (tVar 0) (tPart (tVar 3)) tNoPart))))
theorem ss__law_behind : SS T__law_behind X__law_behind := by
  unfold X__law_behind T__law_behind
  exact ss_seq (ss_if (swt_M (st_test (se_op so_notin se_var se_var))) (ss_ret (sw_M se_var)) ss_next)
    (ss_seq (ss_asg (sg_name (by decide)) (sw_M (se_op so_add (se_idx se_var se_var) se_int)))
    (ss_ret (sw_M (se_op so_add (se_op so_add (se_sl se_var sp_none (sp_some se_var)) (se_tup (sa_cons se_var sa_nil))) (se_sl se_var (sp_some se_var) sp_none)))))
def T__law_parted_c : TS :=
    tSeq (tAsg (tCB (rLenQ K) (tCons (tOp (rIx K) (tVar 0) (tC (.int 0))) tNil)) (gName 3))
    (tSeq (tIfS (tTest (tOp (rEqX K) (tVar 3) (tC (.int 20)))) (tRet (tLst (tCons (tC (.str "full")) tNil))) tNext)
    (tSeq (tAsg (tOp (rIx K) (tOp (rIx K) (tVar 0) (tC (.int 0))) (tVar 1)) (gTU K 3 (gCons (gName 4) (gCons (gName 5) (gCons (gName 6) gNil)))))
    (tSeq (tAsg (tOp (rAddU K) (tOp (rAddU K) (tOp (rAddU K) (tSl (rSlU K) (tOp (rIx K) (tVar 0) (tC (.int 0))) tNoPart (tPart (tVar 1))) (tTupF (tCons (tTupF (tCons (tVar 4) (tCons (tVar 5) (tCons (tVar 2) tNil)))) tNil))) (tSl (rSlU K) (tOp (rIx K) (tVar 0) (tC (.int 0))) (tPart (tOp (rAddU K) (tVar 1) (tC (.int 1)))) tNoPart)) (tTupF (tCons (tTupF (tCons (tVar 4) (tCons (tVar 5) (tCons (tOp oSub (tVar 6) (tVar 2)) tNil)))) tNil))) (gName 7))
    (tSeq (tAsg (tCB (rTupF K) (tCons (tLc (iSeq K (tOp (rIx K) (tVar 0) (tC (.int 1)))) (gName 9) tYes (tCall (spF F__law_behind) [] E0 (tCons (tVar 9) (tCons (tVar 1) (tCons (tVar 3) tNil)))) [9]) tNil)) (gName 8))
    (tRet (tTupF (tCons (tVar 7) (tCons (tVar 8) (tCons (tCB (rTupF K) (tCons (tLc (iSeq K (tOp (rIx K) (tVar 0) (tC (.int 2)))) (gName 9) tYes (tCall (spF F__law_behind) [] E0 (tCons (tVar 9) (tCons (tVar 1) (tCons (tVar 3) tNil)))) [9]) tNil)) tNil)))))))))
theorem ss__law_parted_c : SS T__law_parted_c X__law_parted_c := by
  unfold X__law_parted_c T__law_parted_c
  exact ss_seq (ss_asg (sg_name (by decide)) (sw_M (se_cb sc_len (sa_cons (se_op so_ix se_var se_int) sa_nil))))
    (ss_seq (ss_if (swt_M (st_test (se_op so_eq se_var se_int))) (ss_ret (sw_M (SEF.se (sef_lst (sa_cons se_str sa_nil))))) ss_next)
    (ss_seq (ss_asg (sg_tup (sg_cons (sg_name (by decide)) (sg_cons (sg_name (by decide)) (sg_cons (sg_name (by decide)) sg_nil)))) (sw_M (se_op so_ix (se_op so_ix se_var se_int) se_var)))
    (ss_seq (ss_asg (sg_name (by decide)) (sw_M (se_op so_add (se_op so_add (se_op so_add (se_sl (se_op so_ix se_var se_int) sp_none (sp_some se_var)) (se_tup (sa_cons (se_tup (sa_cons se_var (sa_cons se_var (sa_cons se_var sa_nil)))) sa_nil))) (se_sl (se_op so_ix se_var se_int) (sp_some (se_op so_add se_var se_int)) sp_none)) (se_tup (sa_cons (se_tup (sa_cons se_var (sa_cons se_var (sa_cons (se_op so_sub se_var se_var) sa_nil)))) sa_nil)))))
    (ss_seq (ss_asg (sg_name (by decide)) (sw_M (se_cb sc_tup (sa_cons (SEF.se (sef_lc (si_seq (se_op so_ix se_var se_int)) sgv_name (by decide) st_yes (se_call (sa_cons se_var (sa_cons se_var (sa_cons se_var sa_nil)))))) sa_nil))))
    (ss_ret (sw_M (se_tup (sa_cons se_var (sa_cons se_var (sa_cons (se_cb sc_tup (sa_cons (SEF.se (sef_lc (si_seq (se_op so_ix se_var se_int)) sgv_name (by decide) st_yes (se_call (sa_cons se_var (sa_cons se_var (sa_cons se_var sa_nil)))))) sa_nil)) sa_nil))))))))))
def T_check_many_b (W : WX) (cl : Nat → Value) : TS :=
    tIfS (tOr (tTest (tOp (rGtU K) (tVar 0) (tC (.int 8)))) (tTest (tOp (rGtU K) (tVar 1) (tC (.int 20))))) (fun _ σ H => W (cl 0) none σ H) tNext
theorem ss_check_many_b {W : WX} {cl : Nat → Value} : SSX W cl (T_check_many_b W cl) X_check_many_b := by
  unfold X_check_many_b T_check_many_b
  exact ssx_if (swt_M (st_or (st_test (se_op so_gtU se_var se_int)) (st_test (se_op so_gtU se_var se_int)))) ssx_raise (ssx_of ss_next)
def T_exchanged : TS :=
    tRet (tOp (rAddU K) (tOp (rAddU K) (tSl (rSlU K) (tVar 0) tNoPart (tPart (tVar 1))) (tTupF (tCons (tVar 2) tNil))) (tSl (rSlU K) (tVar 0) (tPart (tOp (rAddU K) (tVar 1) (tC (.int 1)))) tNoPart))
theorem ss_exchanged : SS T_exchanged X_exchanged := by
  unfold X_exchanged T_exchanged
  exact ss_ret (sw_M (se_op so_add (se_op so_add (se_sl se_var sp_none (sp_some se_var)) (se_tup (sa_cons se_var sa_nil))) (se_sl se_var (sp_some (se_op so_add se_var se_int)) sp_none)))
def T_order_with : TS :=
    tSeq (tIfS (tTest (tOp (rNotInU K) (tVar 1) (tVar 0))) (tRet (tVar 0)) tNext)
    (tSeq (tAsg (tOp (rAddU K) (tIdx K (tVar 0) (tCons (tVar 1) tNil)) (tC (.int 1))) (gName 3))
    (tRet (tOp (rAddU K) (tOp (rAddU K) (tSl (rSlU K) (tVar 0) tNoPart (tPart (tVar 3))) (tTupF (tCons (tVar 2) tNil))) (tSl (rSlU K) (tVar 0) (tPart (tVar 3)) tNoPart))))
theorem ss_order_with : SS T_order_with X_order_with := by
  unfold X_order_with T_order_with
  exact ss_seq (ss_if (swt_M (st_test (se_op so_notin se_var se_var))) (ss_ret (sw_M se_var)) ss_next)
    (ss_seq (ss_asg (sg_name (by decide)) (sw_M (se_op so_add (se_idx se_var se_var) se_int)))
    (ss_ret (sw_M (se_op so_add (se_op so_add (se_sl se_var sp_none (sp_some se_var)) (se_tup (sa_cons se_var sa_nil))) (se_sl se_var (sp_some se_var) sp_none)))))
def T_orders_with : TS :=
    tRet (tCB (rTupF K) (tCons (tLc (iSeq K (tVar 0)) (gName 3) tYes (tCall (spF F_order_with) [] E0 (tCons (tVar 3) (tCons (tVar 1) (tCons (tVar 2) tNil)))) [3]) tNil))
theorem ss_orders_with : SS T_orders_with X_orders_with := by
  unfold X_orders_with T_orders_with
  exact ss_ret (sw_M (se_cb sc_tup (sa_cons (SEF.se (sef_lc (si_seq se_var) sgv_name (by decide) st_yes (se_call (sa_cons se_var (sa_cons se_var (sa_cons se_var sa_nil)))))) sa_nil)))
def T_parted_c (W : WX) (cl : Nat → Value) : TS :=
    tSeq (tAsg (tVar 0) (gTU K 3 (gCons (gName 3) (gCons (gName 4) (gCons (gName 5) gNil)))))
    (tSeq (tAsg (tCB (rLenQ K) (tCons (tVar 3) tNil)) (gName 6))
    (tSeq (tDrop (tCallS (spX cl F_check_many_b) (WE W) (tCons (tCB (rLenQ K) (tCons (tVar 4) tNil)) (tCons (tOp (rAddU K) (tVar 6) (tC (.int 1))) tNil))))
    (tSeq (tAsg (tOp (rIx K) (tVar 3) (tVar 1)) (gTU K 3 (gCons (gName 7) (gCons (gName 8) (gCons (gName 9) gNil)))))
    (tRet (tTupF (tCons (tOp (rAddU K) (tCall (spF F_exchanged) [] E0 (tCons (tVar 3) (tCons (tVar 1) (tCons (tTupF (tCons (tVar 7) (tCons (tVar 8) (tCons (tVar 2) tNil)))) tNil)))) (tTupF (tCons (tTupF (tCons (tVar 7) (tCons (tVar 8) (tCons (tOp oSub (tVar 9) (tVar 2)) tNil)))) tNil))) (tCons (tCall (spF F_orders_with) [] E0 (tCons (tVar 4) (tCons (tVar 1) (tCons (tVar 6) tNil)))) (tCons (tCall (spF F_orders_with) [] E0 (tCons (tVar 5) (tCons (tVar 1) (tCons (tVar 6) tNil)))) tNil))))))))
theorem ss_parted_c {W : WX} {cl : Nat → Value} : SSX W cl (T_parted_c W cl) X_parted_c := by
  unfold X_parted_c T_parted_c
  exact ssx_seq (ssx_of (ss_asg (sg_tup (sg_cons (sg_name (by decide)) (sg_cons (sg_name (by decide)) (sg_cons (sg_name (by decide)) sg_nil)))) (sw_M se_var)))
    (ssx_seq (ssx_of (ss_asg (sg_name (by decide)) (sw_M (se_cb sc_len (sa_cons se_var sa_nil)))))
    (ssx_seq (ssx_dropX (sa_cons (se_cb sc_len (sa_cons se_var sa_nil)) (sa_cons (se_op so_add se_var se_int) sa_nil)))
    (ssx_of (ss_seq (ss_asg (sg_tup (sg_cons (sg_name (by decide)) (sg_cons (sg_name (by decide)) (sg_cons (sg_name (by decide)) sg_nil)))) (sw_M (se_op so_ix se_var se_var)))
    (ss_ret (sw_M (se_tup (sa_cons (se_op so_add (se_call (sa_cons se_var (sa_cons se_var (sa_cons (se_tup (sa_cons se_var (sa_cons se_var (sa_cons se_var sa_nil)))) sa_nil)))) (se_tup (sa_cons (se_tup (sa_cons se_var (sa_cons se_var (sa_cons (se_op so_sub se_var se_var) sa_nil)))) sa_nil))) (sa_cons (se_call (sa_cons se_var (sa_cons se_var (sa_cons se_var sa_nil)))) (sa_cons (se_call (sa_cons se_var (sa_cons se_var (sa_cons se_var sa_nil)))) sa_nil))))))))))
def T__law_told_u (cl : Nat → Value) (cC cD : Addr) : TS :=
    tSeq (tAsg (tC .non) (gName 3))
    (tSeq (tTryB K cl F_parted_c (tCons (tVar 0) (tCons (tVar 1) (tCons (tVar 2) tNil))) (.ref cC) 4 3 (onlyT cD (suite59 K 4 3)))
    (tRet (tVar 3)))
theorem ss__law_told_u {cl : Nat → Value} {cC cD : Addr} (hm : ∀ n ∈ ([0] : List Nat), PySem.W.exmOne K (cl n) (.ref cC) = some true) (hcl : cl 0 = .ref cD) : SS (T__law_told_u cl cC cD) X__law_told_u := by
  unfold X__law_told_u T__law_told_u
  exact ss_seq (ss_asg (sg_name (by decide)) (sw_M se_non))
    (ss_seq (ss_tryB (sa_cons se_var (sa_cons se_var (sa_cons se_var sa_nil))) hm (fun a n hn D' σ H hi q => by simp only [List.mem_cons, List.not_mem_nil, or_false] at hn; subst hn; exact ⟨⟨hcl, rfl⟩, suite59_ok (List.getElem?_set_self hi) q⟩) (by decide) (by decide) (by decide) (by decide))
    (ss_ret (sw_M se_var)))
def T__law_right_z39 : TS :=
    tSeq (tAsg (tCB (rRepr K) (tCons (tVar 0) tNil)) (gName 3))
    (tSeq (tAsg (tCB (rRepr K) (tCons (tCall (spF F__law_parted_c) [] E0 (tCons (tVar 0) (tCons (tVar 1) (tCons (tVar 2) tNil)))) tNil)) (gName 4))
    (tRet (tAndV (tOp (rEqX K) (tCB (rRepr K) (tCons (tCall (spF F__law_told_u) [] E0 (tCons (tVar 0) (tCons (tVar 1) (tCons (tVar 2) tNil)))) tNil)) (tVar 4)) (tAndV (tOp (rEqX K) (tCB (rRepr K) (tCons (tCall (spF F__law_told_u) [] E0 (tCons (tVar 0) (tCons (tVar 1) (tCons (tVar 2) tNil)))) tNil)) (tVar 4)) (tOp (rEqX K) (tCB (rRepr K) (tCons (tVar 0) tNil)) (tVar 3))))))
theorem ss__law_right_z39 : SS T__law_right_z39 X__law_right_z39 := by
  unfold X__law_right_z39 T__law_right_z39
  exact ss_seq (ss_asg (sg_name (by decide)) (sw_M (se_cb sc_repr (sa_cons se_var sa_nil))))
    (ss_seq (ss_asg (sg_name (by decide)) (sw_M (se_cb sc_repr (sa_cons (se_call (sa_cons se_var (sa_cons se_var (sa_cons se_var sa_nil)))) sa_nil))))
    (ss_ret (sw_M (se_and (se_op so_eq (se_cb sc_repr (sa_cons (se_call (sa_cons se_var (sa_cons se_var (sa_cons se_var sa_nil)))) sa_nil)) se_var) (se_and (se_op so_eq (se_cb sc_repr (sa_cons (se_call (sa_cons se_var (sa_cons se_var (sa_cons se_var sa_nil)))) sa_nil)) se_var) (se_op so_eq (se_cb sc_repr (sa_cons se_var sa_nil)) se_var))))))
def T__law_room_e : TS :=
    tSeq (tAsg (tOp (rIx K) (tOp (rIx K) (tOp (rIx K) (tVar 1) (tC (.int 0))) (tVar 2)) (tC (.int 2))) (gName 3))
    (tRet (tOp (rIx K) (tLst (tCons (tC (.int 0)) (tCons (tVar 3) (tCons (tCall (spW F__law_next_c) [] E0 (tCons (tVar 0) (tCons (tOp (rAddU K) (tVar 3) (tC (.int 1))) tNil))) (tCons (tCall (spW F__law_next_c) [] E0 (tCons (tVar 0) (tCons (tOp (rAddU K) (tVar 3) (tC (.int 1))) tNil))) tNil))))) (tCall (spW F__law_next_c) [] E0 (tCons (tVar 0) (tCons (tC (.int 4)) tNil)))))
theorem ss__law_room_e : SS T__law_room_e X__law_room_e := by
  unfold X__law_room_e T__law_room_e
  exact ss_seq (ss_asg (sg_name (by decide)) (sw_M (se_op so_ix (se_op so_ix (se_op so_ix se_var se_int) se_var) se_int)))
    (ss_ret (sw_op so_ix (sw_lst (swa_cons (sw_M se_int) (swa_cons (sw_M se_var) (swa_cons (sw_callK (swa_cons (sw_M (se_op so_add se_var se_int)) swa_nil)) (swa_cons (sw_callK (swa_cons (sw_M (se_op so_add se_var se_int)) swa_nil)) swa_nil))))) (sw_callK (swa_cons (sw_M se_int) swa_nil))))
def T__law_one_b : TS :=
    tRet (tOp (rIx K) (tVar 1) (tCall (spW F__law_next_c) [] E0 (tCons (tVar 0) (tCons (tCB (rLenQ K) (tCons (tVar 1) tNil)) tNil))))
theorem ss__law_one_b : SS T__law_one_b X__law_one_b := by
  unfold X__law_one_b T__law_one_b
  exact ss_ret (sw_op so_ix (sw_M se_var) (sw_callK (swa_cons (sw_M (se_cb sc_len (sa_cons se_var sa_nil))) swa_nil)))
theorem ss_X__law_order_d_b1 : SS (tDrop (tBM K "list" rAppend (tVar 3) (tCons (tBM K "list" rPopAt (tVar 2) (tCons (tCall (spW F__law_next_c) [] E0 (tCons (tVar 0) (tCons (tCB (rLenQ K) (tCons (tVar 2) tNil)) tNil))) tNil)) tNil))) X__law_order_d_b1 := by
  unfold X__law_order_d_b1
  exact ss_app (sw_pop (sw_callK (swa_cons (sw_V (se_cb sc_len (sa_cons se_var sa_nil))) swa_nil)))
def T__law_order_d : TS :=
    tSeq (tPar 2 3 (tCons (tCB (rListQ K) (tCons (tVar 1) tNil)) (tCons (tLst tNil) tNil)))
    (tSeq (tWhile (tTest (tOp (rNeD K) (tVar 2) (tLst tNil))) (tDrop (tBM K "list" rAppend (tVar 3) (tCons (tBM K "list" rPopAt (tVar 2) (tCons (tCall (spW F__law_next_c) [] E0 (tCons (tVar 0) (tCons (tCB (rLenQ K) (tCons (tVar 2) tNil)) tNil))) tNil)) tNil))))
    (tRet (tCB (rTupF K) (tCons (tVar 3) tNil))))
theorem ss__law_order_d : SS T__law_order_d X__law_order_d := by
  unfold X__law_order_d T__law_order_d
  exact ss_seq (ss_par (by decide) (by decide) (swc_sub (swo_M (sef_list se_var)) (swc_sub (swo_lst swc_nil) swc_nil)))
    (ss_seq (ss_while (swt_V (st_test (se_op so_ne se_var (SEF.se (sef_lst sa_nil))))) ss_X__law_order_d_b1)
    (ss_fz (ss_fz (ss_ret (sw_M (se_cb sc_tup (sa_cons se_var sa_nil)))))))
theorem ss_X__law_web_f_b1 : SS (tSeq (tAsg (tOp (rAddU K) (tLst (tCons (tC .non) tNil)) (tLstRg (tRg1 (tVar 4)))) (gName 7))
    (tSeq (tAsg (tBM K "list" rPopAt (tVar 7) (tCons (tCall (spW F__law_next_c) [] E0 (tCons (tVar 0) (tCons (tCB (rLenQ K) (tCons (tVar 7) tNil)) tNil))) tNil)) (gName 8))
    (tDrop (tBM K "list" rAppend (tVar 5) (tCons (tTupF (tCons (tVar 8) (tCons (tCall (spW F__law_one_b) [] E0 (tCons (tVar 0) (tCons (tVar 7) tNil))) (tCons (tOp (rIx K) (tLst (tCons (tC (.int 1)) (tCons (tC (.int 2)) (tCons (tC (.int 1)) (tCons (tC (.int 0)) (tCons (tC (.int 2)) (tCons (tC (.int 1)) tNil))))))) (tCall (spW F__law_next_c) [] E0 (tCons (tVar 0) (tCons (tC (.int 6)) tNil)))) tNil)))) tNil))))) X__law_web_f_b1 := by
  unfold X__law_web_f_b1
  exact ss_seq (ss_own (by decide) (swo_M (sef_op sof_cat (SEF.se (sef_lst (sa_cons se_non sa_nil))) (SEF.se (sef_rgL se_var)))))
    (ss_seq (ss_asg (sg_name (by decide)) (sw_pop (sw_callK (swa_cons (sw_V (se_cb sc_len (sa_cons se_var sa_nil))) swa_nil))))
    (ss_fz (ss_app (sw_tup (swa_cons (sw_M se_var) (swa_cons (sw_callK (swa_cons (sw_M se_var) swa_nil)) (swa_cons (sw_op so_ix (sw_M (SEF.se (sef_lst (sa_cons se_int (sa_cons se_int (sa_cons se_int (sa_cons se_int (sa_cons se_int (sa_cons se_int sa_nil))))))))) (sw_callK (swa_cons (sw_M se_int) swa_nil))) swa_nil)))))))
def T__law_web_f : TS :=
    tSeq (tAsg (tTupF (tCons (tCall (spW F__law_next_c) [] E0 (tCons (tVar 0) (tCons (tC (.int 4)) tNil))) (tCons (tOp (rAddU K) (tC (.int 1)) (tCall (spW F__law_next_c) [] E0 (tCons (tVar 0) (tCons (tVar 1) tNil)))) (tCons (tLst tNil) tNil)))) (gTU K 3 (gCons (gName 3) (gCons (gName 4) (gCons (gName 5) gNil)))))
    (tSeq (tIfS (tAnd (tTest (tOp (rEqX K) (tVar 3) (tC (.int 0)))) (tTest (tOp (rGtU K) (tVar 2) (tC (.int 4))))) (tSeq (tAsg (tCB (rMaxU K) (tCons (tC (.int 2)) (tCons (tVar 4) tNil))) (gName 4))
    (tAsg (tLst (tCons (tTupF (tCons (tC .non) (tCons (tC (.int 0)) (tCons (tC (.int 1)) tNil)))) (tCons (tTupF (tCons (tC (.int 0)) (tCons (tC (.int 1)) (tCons (tOp (rAddU K) (tC (.int 1)) (tCall (spW F__law_next_c) [] E0 (tCons (tVar 0) (tCons (tC (.int 2)) tNil)))) tNil)))) (tCons (tTupF (tCons (tC (.int 0)) (tCons (tC (.int 1)) (tCons (tOp (rAddU K) (tC (.int 1)) (tCall (spW F__law_next_c) [] E0 (tCons (tVar 0) (tCons (tC (.int 2)) tNil)))) tNil)))) (tCons (tTupF (tCons (tC (.int 1)) (tCons (tC .non) (tCons (tC (.int 1)) tNil)))) tNil))))) (gName 5))) tNext)
    (tSeq (tFor (iRng1 (tCons (tOp oSub (tOp (rAddU K) (tC (.int 1)) (tCall (spW F__law_next_c) [] E0 (tCons (tVar 0) (tCons (tVar 2) tNil)))) (tCB (rLenQ K) (tCons (tVar 5) tNil))) tNil)) (gName 6) (tSeq (tAsg (tOp (rAddU K) (tLst (tCons (tC .non) tNil)) (tLstRg (tRg1 (tVar 4)))) (gName 7))
    (tSeq (tAsg (tBM K "list" rPopAt (tVar 7) (tCons (tCall (spW F__law_next_c) [] E0 (tCons (tVar 0) (tCons (tCB (rLenQ K) (tCons (tVar 7) tNil)) tNil))) tNil)) (gName 8))
    (tDrop (tBM K "list" rAppend (tVar 5) (tCons (tTupF (tCons (tVar 8) (tCons (tCall (spW F__law_one_b) [] E0 (tCons (tVar 0) (tCons (tVar 7) tNil))) (tCons (tOp (rIx K) (tLst (tCons (tC (.int 1)) (tCons (tC (.int 2)) (tCons (tC (.int 1)) (tCons (tC (.int 0)) (tCons (tC (.int 2)) (tCons (tC (.int 1)) tNil))))))) (tCall (spW F__law_next_c) [] E0 (tCons (tVar 0) (tCons (tC (.int 6)) tNil)))) tNil)))) tNil))))))
    (tSeq (tAsg (tLc (iRng1 (tCons (tVar 4) tNil)) (gName 11) tYes (tLc (iRng1 (tCons (tCB (rLenQ K) (tCons (tVar 5) tNil)) tNil)) (gName 6) (tTest (tOp (rEqX K) (tOp (rIx K) (tOp (rIx K) (tVar 5) (tVar 6)) (tC (.int 0))) (tVar 11))) (tVar 6) [6]) [11]) (gName 9))
    (tSeq (tAsg (tLc (iRng1 (tCons (tVar 4) tNil)) (gName 11) tYes (tLc (iRng1 (tCons (tCB (rLenQ K) (tCons (tVar 5) tNil)) tNil)) (gName 6) (tTest (tOp (rEqX K) (tOp (rIx K) (tOp (rIx K) (tVar 5) (tVar 6)) (tC (.int 1))) (tVar 11))) (tVar 6) [6]) [11]) (gName 10))
    (tSeq (tIfS (tTest (tOp oLt (tVar 3) (tC (.int 2)))) (tRet (tTupF (tCons (tCB (rTupF K) (tCons (tVar 5) tNil)) (tCons (tCB (rTupF K) (tCons (tLc (iSeq K (tVar 9)) (gName 12) tYes (tCB (rTupF K) (tCons (tVar 12) tNil)) [12]) tNil)) (tCons (tCB (rTupF K) (tCons (tLc (iSeq K (tVar 10)) (gName 12) tYes (tCB (rTupF K) (tCons (tBack K (tVar 12)) tNil)) [12]) tNil)) tNil))))) tNext)
    (tSeq (tAsg (tCB (rTupF K) (tCons (tLc (iSeq K (tVar 9)) (gName 12) tYes (tCall (spW F__law_order_d) [] E0 (tCons (tVar 0) (tCons (tVar 12) tNil))) [12]) tNil)) (gName 9))
    (tRet (tTupF (tCons (tCB (rTupF K) (tCons (tVar 5) tNil)) (tCons (tVar 9) (tCons (tCB (rTupF K) (tCons (tLc (iSeq K (tVar 10)) (gName 12) tYes (tCall (spW F__law_order_d) [] E0 (tCons (tVar 0) (tCons (tVar 12) tNil))) [12]) tNil)) tNil)))))))))))
theorem ss__law_web_f : SS T__law_web_f X__law_web_f := by
  unfold X__law_web_f T__law_web_f
  exact ss_seq (ss_unp3 (by decide) (by decide) (by decide) (swc_dat (sw_callK (swa_cons (sw_M se_int) swa_nil)) (swc_dat (sw_op so_add (sw_M se_int) (sw_callK (swa_cons (sw_M se_var) swa_nil))) (swc_sub (swo_lst swc_nil) swc_nil))))
    (ss_seq (ss_if (swt_M (st_and (st_test (se_op so_eq se_var se_int)) (st_test (se_op so_gtU se_var se_int)))) (ss_fz (ss_seq (ss_asg (sg_name (by decide)) (sw_M (se_cb sc_max (sa_cons se_int (sa_cons se_var sa_nil)))))
    (ss_own (by decide) (swo_lst (swc_dat (sw_M (se_tup (sa_cons se_non (sa_cons se_int (sa_cons se_int sa_nil))))) (swc_dat (sw_tup (swa_cons (sw_M se_int) (swa_cons (sw_M se_int) (swa_cons (sw_op so_add (sw_M se_int) (sw_callK (swa_cons (sw_M se_int) swa_nil))) swa_nil)))) (swc_dat (sw_tup (swa_cons (sw_M se_int) (swa_cons (sw_M se_int) (swa_cons (sw_op so_add (sw_M se_int) (sw_callK (swa_cons (sw_M se_int) swa_nil))) swa_nil)))) (swc_dat (sw_M (se_tup (sa_cons se_int (sa_cons se_non (sa_cons se_int sa_nil))))) swc_nil)))))))) ss_next)
    (ss_seq (ss_for (swi_rng (swa_cons (sw_op so_sub (sw_op so_add (sw_M se_int) (sw_callK (swa_cons (sw_M se_var) swa_nil))) (sw_V (se_cb sc_len (sa_cons se_var sa_nil)))) swa_nil)) (sg_name (by decide)) ss_X__law_web_f_b1)
    (ss_fz (ss_seq (ss_asg (sg_name (by decide)) (sw_M (SEF.se (sef_lc (si_rng (sa_cons se_var sa_nil)) sgv_name (by decide) st_yes (SEF.se (sef_lc (si_rng (sa_cons (se_cb sc_len (sa_cons se_var sa_nil)) sa_nil)) sgv_name (by decide) (st_test (se_op so_eq (se_op so_ix (se_op so_ix se_var se_var) se_int) se_var)) se_var))))))
    (ss_seq (ss_asg (sg_name (by decide)) (sw_M (SEF.se (sef_lc (si_rng (sa_cons se_var sa_nil)) sgv_name (by decide) st_yes (SEF.se (sef_lc (si_rng (sa_cons (se_cb sc_len (sa_cons se_var sa_nil)) sa_nil)) sgv_name (by decide) (st_test (se_op so_eq (se_op so_ix (se_op so_ix se_var se_var) se_int) se_var)) se_var))))))
    (ss_seq (ss_if (swt_M (st_test (se_op so_lt se_var se_int))) (ss_ret (sw_M (se_tup (sa_cons (se_cb sc_tup (sa_cons se_var sa_nil)) (sa_cons (se_cb sc_tup (sa_cons (SEF.se (sef_lc (si_seq se_var) sgv_name (by decide) st_yes (se_cb sc_tup (sa_cons se_var sa_nil)))) sa_nil)) (sa_cons (se_cb sc_tup (sa_cons (SEF.se (sef_lc (si_seq se_var) sgv_name (by decide) st_yes (se_cb sc_tup (sa_cons (se_back se_var) sa_nil)))) sa_nil)) sa_nil)))))) ss_next)
    (ss_seq (ss_asg (sg_name (by decide)) (sw_cb sc_tup (swa_cons (sw_fz (swo_lc (swi_seq (sw_M se_var)) (sg_name (by decide)) (by decide) (by decide) (swt_M st_yes) (sw_callK (swa_cons (sw_M se_var) swa_nil)))) swa_nil)))
    (ss_ret (sw_tup (swa_cons (sw_M (se_cb sc_tup (sa_cons se_var sa_nil))) (swa_cons (sw_M se_var) (swa_cons (sw_cb sc_tup (swa_cons (sw_fz (swo_lc (swi_seq (sw_M se_var)) (sg_name (by decide)) (by decide) (by decide) (swt_M st_yes) (sw_callK (swa_cons (sw_M se_var) swa_nil)))) swa_nil)) swa_nil))))))))))))
theorem ss_X__law_wide_f_b1 : SS (tSeq (tAsg (tOp (rAddU K) (tLst (tCons (tC .non) tNil)) (tLstRg (tRg1 (tVar 1)))) (gName 4))
    (tSeq (tAsg (tBM K "list" rPopAt (tVar 4) (tCons (tCall (spW F__law_next_c) [] E0 (tCons (tVar 0) (tCons (tCB (rLenQ K) (tCons (tVar 4) tNil)) tNil))) tNil)) (gName 5))
    (tSeq (tAsg (tOp (rIx K) (tLst (tCons (tC (.int 0)) (tCons (tC (.int 1)) (tCons (tC (.int 2)) (tCons (tCall (spW F__law_next_c) [] E0 (tCons (tVar 0) (tCons (tOp oPow (tC (.int 10)) (tC (.int 6))) tNil))) (tCons (tOp oSub (tOp oPow (tC (.int 10)) (tC (.int 12))) (tCall (spW F__law_next_c) [] E0 (tCons (tVar 0) (tCons (tC (.int 3)) tNil)))) tNil)))))) (tCall (spW F__law_next_c) [] E0 (tCons (tVar 0) (tCons (tC (.int 5)) tNil)))) (gName 6))
    (tDrop (tBM K "list" rAppend (tVar 2) (tCons (tTupF (tCons (tVar 5) (tCons (tCall (spW F__law_one_b) [] E0 (tCons (tVar 0) (tCons (tVar 4) tNil))) (tCons (tVar 6) tNil)))) tNil)))))) X__law_wide_f_b1 := by
  unfold X__law_wide_f_b1
  exact ss_seq (ss_own (by decide) (swo_M (sef_op sof_cat (SEF.se (sef_lst (sa_cons se_non sa_nil))) (SEF.se (sef_rgL se_var)))))
    (ss_seq (ss_asg (sg_name (by decide)) (sw_pop (sw_callK (swa_cons (sw_V (se_cb sc_len (sa_cons se_var sa_nil))) swa_nil))))
    (ss_fz (ss_seq (ss_asg (sg_name (by decide)) (sw_op so_ix (sw_lst (swa_cons (sw_M se_int) (swa_cons (sw_M se_int) (swa_cons (sw_M se_int) (swa_cons (sw_callK (swa_cons (sw_M (se_op so_pow se_int se_int)) swa_nil)) (swa_cons (sw_op so_sub (sw_M (se_op so_pow se_int se_int)) (sw_callK (swa_cons (sw_M se_int) swa_nil))) swa_nil)))))) (sw_callK (swa_cons (sw_M se_int) swa_nil))))
    (ss_app (sw_tup (swa_cons (sw_M se_var) (swa_cons (sw_callK (swa_cons (sw_M se_var) swa_nil)) (swa_cons (sw_M se_var) swa_nil))))))))
theorem ss_X__law_wide_f_b2 : SS (tSeq (tDrop (tBM K "list" rAppend (tVar 7) (tCons (tCall (spW F__law_order_d) [] E0 (tCons (tVar 0) (tCons (tLc (iRng1 (tCons (tCB (rLenQ K) (tCons (tVar 2) tNil)) tNil)) (gName 3) (tTest (tOp (rEqX K) (tOp (rIx K) (tOp (rIx K) (tVar 2) (tVar 3)) (tC (.int 0))) (tVar 9))) (tVar 3) [3]) tNil))) tNil)))
    (tDrop (tBM K "list" rAppend (tVar 8) (tCons (tCall (spW F__law_order_d) [] E0 (tCons (tVar 0) (tCons (tLc (iRng1 (tCons (tCB (rLenQ K) (tCons (tVar 2) tNil)) tNil)) (gName 3) (tTest (tOp (rEqX K) (tOp (rIx K) (tOp (rIx K) (tVar 2) (tVar 3)) (tC (.int 1))) (tVar 9))) (tVar 3) [3]) tNil))) tNil)))) X__law_wide_f_b2 := by
  unfold X__law_wide_f_b2
  exact ss_seq (ss_app (sw_callK (swa_cons (sw_M (SEF.se (sef_lc (si_rng (sa_cons (se_cb sc_len (sa_cons se_var sa_nil)) sa_nil)) sgv_name (by decide) (st_test (se_op so_eq (se_op so_ix (se_op so_ix se_var se_var) se_int) se_var)) se_var))) swa_nil)))
    (ss_app (sw_callK (swa_cons (sw_M (SEF.se (sef_lc (si_rng (sa_cons (se_cb sc_len (sa_cons se_var sa_nil)) sa_nil)) sgv_name (by decide) (st_test (se_op so_eq (se_op so_ix (se_op so_ix se_var se_var) se_int) se_var)) se_var))) swa_nil)))
def T__law_wide_f : TS :=
    tSeq (tAsg (tOp (rAddU K) (tC (.int 1)) (tCall (spW F__law_next_c) [] E0 (tCons (tVar 0) (tCons (tC (.int 8)) tNil)))) (gName 1))
    (tSeq (tAsg (tLst tNil) (gName 2))
    (tSeq (tFor (iRng1 (tCons (tOp (rAddU K) (tC (.int 1)) (tCall (spW F__law_next_c) [] E0 (tCons (tVar 0) (tCons (tC (.int 20)) tNil)))) tNil)) (gName 3) (tSeq (tAsg (tOp (rAddU K) (tLst (tCons (tC .non) tNil)) (tLstRg (tRg1 (tVar 1)))) (gName 4))
    (tSeq (tAsg (tBM K "list" rPopAt (tVar 4) (tCons (tCall (spW F__law_next_c) [] E0 (tCons (tVar 0) (tCons (tCB (rLenQ K) (tCons (tVar 4) tNil)) tNil))) tNil)) (gName 5))
    (tSeq (tAsg (tOp (rIx K) (tLst (tCons (tC (.int 0)) (tCons (tC (.int 1)) (tCons (tC (.int 2)) (tCons (tCall (spW F__law_next_c) [] E0 (tCons (tVar 0) (tCons (tOp oPow (tC (.int 10)) (tC (.int 6))) tNil))) (tCons (tOp oSub (tOp oPow (tC (.int 10)) (tC (.int 12))) (tCall (spW F__law_next_c) [] E0 (tCons (tVar 0) (tCons (tC (.int 3)) tNil)))) tNil)))))) (tCall (spW F__law_next_c) [] E0 (tCons (tVar 0) (tCons (tC (.int 5)) tNil)))) (gName 6))
    (tDrop (tBM K "list" rAppend (tVar 2) (tCons (tTupF (tCons (tVar 5) (tCons (tCall (spW F__law_one_b) [] E0 (tCons (tVar 0) (tCons (tVar 4) tNil))) (tCons (tVar 6) tNil)))) tNil)))))))
    (tSeq (tPar 7 8 (tCons (tLst tNil) (tCons (tLst tNil) tNil)))
    (tSeq (tFor (iRng1 (tCons (tVar 1) tNil)) (gName 9) (tSeq (tDrop (tBM K "list" rAppend (tVar 7) (tCons (tCall (spW F__law_order_d) [] E0 (tCons (tVar 0) (tCons (tLc (iRng1 (tCons (tCB (rLenQ K) (tCons (tVar 2) tNil)) tNil)) (gName 3) (tTest (tOp (rEqX K) (tOp (rIx K) (tOp (rIx K) (tVar 2) (tVar 3)) (tC (.int 0))) (tVar 9))) (tVar 3) [3]) tNil))) tNil)))
    (tDrop (tBM K "list" rAppend (tVar 8) (tCons (tCall (spW F__law_order_d) [] E0 (tCons (tVar 0) (tCons (tLc (iRng1 (tCons (tCB (rLenQ K) (tCons (tVar 2) tNil)) tNil)) (gName 3) (tTest (tOp (rEqX K) (tOp (rIx K) (tOp (rIx K) (tVar 2) (tVar 3)) (tC (.int 1))) (tVar 9))) (tVar 3) [3]) tNil))) tNil)))))
    (tRet (tTupF (tCons (tCB (rTupF K) (tCons (tVar 2) tNil)) (tCons (tCB (rTupF K) (tCons (tVar 7) tNil)) (tCons (tCB (rTupF K) (tCons (tVar 8) tNil)) tNil)))))))))
theorem ss__law_wide_f : SS T__law_wide_f X__law_wide_f := by
  unfold X__law_wide_f T__law_wide_f
  exact ss_seq (ss_asg (sg_name (by decide)) (sw_op so_add (sw_M se_int) (sw_callK (swa_cons (sw_M se_int) swa_nil))))
    (ss_seq (ss_own (by decide) (swo_lst swc_nil))
    (ss_seq (ss_for (swi_rng (swa_cons (sw_op so_add (sw_M se_int) (sw_callK (swa_cons (sw_M se_int) swa_nil))) swa_nil)) (sg_name (by decide)) ss_X__law_wide_f_b1)
    (ss_fz (ss_seq (ss_par (by decide) (by decide) (swc_sub (swo_lst swc_nil) (swc_sub (swo_lst swc_nil) swc_nil)))
    (ss_seq (ss_for (swi_rng (swa_cons (sw_M se_var) swa_nil)) (sg_name (by decide)) ss_X__law_wide_f_b2)
    (ss_fz (ss_fz (ss_ret (sw_M (se_tup (sa_cons (se_cb sc_tup (sa_cons se_var sa_nil)) (sa_cons (se_cb sc_tup (sa_cons se_var sa_nil)) (sa_cons (se_cb sc_tup (sa_cons se_var sa_nil)) sa_nil)))))))))))))
theorem ss_X_law_z179_b1 : SS (tSeq (tAsg (tCall (spW F__law_next_c) [] E0 (tCons (tVar 1) (tCons (tCB (rLenQ K) (tCons (tOp (rIx K) (tVar 3) (tC (.int 0))) tNil)) tNil))) (gName 5))
    (tIfS (tNot (tB (tCall (spF F__law_right_z39) [] E0 (tCons (tVar 3) (tCons (tVar 5) (tCons (tCall (spW F__law_room_e) [] E0 (tCons (tVar 1) (tCons (tVar 3) (tCons (tVar 5) tNil)))) tNil)))))) (tRet (tC (.bl false))) tNext)) X_law_z179_b1 := by
  unfold X_law_z179_b1
  exact ss_seq (ss_asg (sg_name (by decide)) (sw_callK (swa_cons (sw_M (se_cb sc_len (sa_cons (se_op so_ix se_var se_int) sa_nil))) swa_nil)))
    (ss_if (swt_not (swt_B (sw_call (swa_cons (sw_M se_var) (swa_cons (sw_M se_var) (swa_cons (sw_callK (swa_cons (sw_M se_var) (swa_cons (sw_M se_var) swa_nil))) swa_nil)))))) (ss_fz (ss_ret (sw_M se_bl))) ss_next)
theorem ss_X_law_z179_b2 : SS (tSeq (tAsg (tCall (spW F__law_next_c) [] E0 (tCons (tVar 1) (tCons (tCB (rLenQ K) (tCons (tOp (rIx K) (tVar 3) (tC (.int 0))) tNil)) tNil))) (gName 5))
    (tSeq (tAsg (tCall (spW F__law_room_e) [] E0 (tCons (tVar 1) (tCons (tVar 3) (tCons (tVar 5) tNil)))) (gName 6))
    (tSeq (tIfS (tNot (tB (tCall (spF F__law_right_z39) [] E0 (tCons (tVar 3) (tCons (tVar 5) (tCons (tVar 6) tNil)))))) (tRet (tC (.bl false))) tNext)
    (tIfS (tTest (tOp oLt (tCB (rLenQ K) (tCons (tOp (rIx K) (tVar 3) (tC (.int 0))) tNil)) (tC (.int 20)))) (tAsg (tCall (spF F__law_parted_c) [] E0 (tCons (tVar 3) (tCons (tVar 5) (tCons (tVar 6) tNil)))) (gName 3)) tNext)))) X_law_z179_b2 := by
  unfold X_law_z179_b2
  exact ss_seq (ss_asg (sg_name (by decide)) (sw_callK (swa_cons (sw_M (se_cb sc_len (sa_cons (se_op so_ix se_var se_int) sa_nil))) swa_nil)))
    (ss_seq (ss_asg (sg_name (by decide)) (sw_callK (swa_cons (sw_M se_var) (swa_cons (sw_M se_var) swa_nil))))
    (ss_seq (ss_if (swt_M (st_not (st_B (se_call (sa_cons se_var (sa_cons se_var (sa_cons se_var sa_nil))))))) (ss_fz (ss_ret (sw_M se_bl))) ss_next)
    (ss_if (swt_M (st_test (se_op so_lt (se_cb sc_len (sa_cons (se_op so_ix se_var se_int) sa_nil)) se_int))) (ss_asg (sg_name (by decide)) (sw_M (se_call (sa_cons se_var (sa_cons se_var (sa_cons se_var sa_nil)))))) ss_next)))
theorem ss_X_law_z179_b3 : SS (tSeq (tAsg (tOp (rIx K) (tLst (tCons (tCall (spW F__law_web_f) [] E0 (tCons (tVar 1) (tCons (tC (.int 3)) (tCons (tC (.int 6)) tNil)))) (tCons (tCall (spW F__law_wide_f) [] E0 (tCons (tVar 1) tNil)) tNil))) (tCall (spW F__law_next_c) [] E0 (tCons (tVar 1) (tCons (tC (.int 2)) tNil)))) (gName 3))
    (tSeq (tFor (iRng1 (tCons (tC (.int 4)) tNil)) (gName 4) (tSeq (tAsg (tCall (spW F__law_next_c) [] E0 (tCons (tVar 1) (tCons (tCB (rLenQ K) (tCons (tOp (rIx K) (tVar 3) (tC (.int 0))) tNil)) tNil))) (gName 5))
    (tIfS (tNot (tB (tCall (spF F__law_right_z39) [] E0 (tCons (tVar 3) (tCons (tVar 5) (tCons (tCall (spW F__law_room_e) [] E0 (tCons (tVar 1) (tCons (tVar 3) (tCons (tVar 5) tNil)))) tNil)))))) (tRet (tC (.bl false))) tNext)))
    (tFor (iRng1 (tCons (tC (.int 20)) tNil)) (gName 4) (tSeq (tAsg (tCall (spW F__law_next_c) [] E0 (tCons (tVar 1) (tCons (tCB (rLenQ K) (tCons (tOp (rIx K) (tVar 3) (tC (.int 0))) tNil)) tNil))) (gName 5))
    (tSeq (tAsg (tCall (spW F__law_room_e) [] E0 (tCons (tVar 1) (tCons (tVar 3) (tCons (tVar 5) tNil)))) (gName 6))
    (tSeq (tIfS (tNot (tB (tCall (spF F__law_right_z39) [] E0 (tCons (tVar 3) (tCons (tVar 5) (tCons (tVar 6) tNil)))))) (tRet (tC (.bl false))) tNext)
    (tIfS (tTest (tOp oLt (tCB (rLenQ K) (tCons (tOp (rIx K) (tVar 3) (tC (.int 0))) tNil)) (tC (.int 20)))) (tAsg (tCall (spF F__law_parted_c) [] E0 (tCons (tVar 3) (tCons (tVar 5) (tCons (tVar 6) tNil)))) (gName 3)) tNext))))))) X_law_z179_b3 := by
  unfold X_law_z179_b3
  exact ss_seq (ss_asg (sg_name (by decide)) (sw_op so_ix (sw_lst (swa_cons (sw_callK (swa_cons (sw_M se_int) (swa_cons (sw_M se_int) swa_nil))) (swa_cons (sw_callK swa_nil) swa_nil))) (sw_callK (swa_cons (sw_M se_int) swa_nil))))
    (ss_seq (ss_for (swi_rng (swa_cons (sw_M se_int) swa_nil)) (sg_name (by decide)) ss_X_law_z179_b1)
    (ss_for (swi_rng (swa_cons (sw_M se_int) swa_nil)) (sg_name (by decide)) ss_X_law_z179_b2))
def T_law_z179 : TS :=
    tSeq (tAsg (tCall (spD F__law_deck_f) [] E0 (tCons (tVar 0) tNil)) (gName 1))
    (tSeq (tFor (iRng1 (tCons (tC (.int 3)) tNil)) (gName 2) (tSeq (tAsg (tOp (rIx K) (tLst (tCons (tCall (spW F__law_web_f) [] E0 (tCons (tVar 1) (tCons (tC (.int 3)) (tCons (tC (.int 6)) tNil)))) (tCons (tCall (spW F__law_wide_f) [] E0 (tCons (tVar 1) tNil)) tNil))) (tCall (spW F__law_next_c) [] E0 (tCons (tVar 1) (tCons (tC (.int 2)) tNil)))) (gName 3))
    (tSeq (tFor (iRng1 (tCons (tC (.int 4)) tNil)) (gName 4) (tSeq (tAsg (tCall (spW F__law_next_c) [] E0 (tCons (tVar 1) (tCons (tCB (rLenQ K) (tCons (tOp (rIx K) (tVar 3) (tC (.int 0))) tNil)) tNil))) (gName 5))
    (tIfS (tNot (tB (tCall (spF F__law_right_z39) [] E0 (tCons (tVar 3) (tCons (tVar 5) (tCons (tCall (spW F__law_room_e) [] E0 (tCons (tVar 1) (tCons (tVar 3) (tCons (tVar 5) tNil)))) tNil)))))) (tRet (tC (.bl false))) tNext)))
    (tFor (iRng1 (tCons (tC (.int 20)) tNil)) (gName 4) (tSeq (tAsg (tCall (spW F__law_next_c) [] E0 (tCons (tVar 1) (tCons (tCB (rLenQ K) (tCons (tOp (rIx K) (tVar 3) (tC (.int 0))) tNil)) tNil))) (gName 5))
    (tSeq (tAsg (tCall (spW F__law_room_e) [] E0 (tCons (tVar 1) (tCons (tVar 3) (tCons (tVar 5) tNil)))) (gName 6))
    (tSeq (tIfS (tNot (tB (tCall (spF F__law_right_z39) [] E0 (tCons (tVar 3) (tCons (tVar 5) (tCons (tVar 6) tNil)))))) (tRet (tC (.bl false))) tNext)
    (tIfS (tTest (tOp oLt (tCB (rLenQ K) (tCons (tOp (rIx K) (tVar 3) (tC (.int 0))) tNil)) (tC (.int 20)))) (tAsg (tCall (spF F__law_parted_c) [] E0 (tCons (tVar 3) (tCons (tVar 5) (tCons (tVar 6) tNil)))) (gName 3)) tNext))))))))
    (tRet (tC (.bl true))))
theorem ss_law_z179 : SS T_law_z179 X_law_z179 := by
  unfold X_law_z179 T_law_z179
  exact ss_seq (ss_own (by decide) (sw_callD (swa_cons (sw_M se_var) swa_nil)))
    (ss_seq (ss_for (swi_rng (swa_cons (sw_M se_int) swa_nil)) (sg_name (by decide)) ss_X_law_z179_b3)
    (ss_fz (ss_ret (sw_M se_bl))))
end
end Fn
namespace Uv
open PySem PySem.Spec PyProof.Rows L2
@[simp] theorem q_toInt_b {b : Bool} : toIntP (.bool b) = some (.int (if b = true then 1 else 0)) := by cases b <;> rfl
@[simp] theorem q_toInt_i {i : Int} : toIntP (.int i) = some (.int i) := (rfl)
theorem wp_cut1 {A R : XS} {ρ : Env} {Q : Out → Prop} (P : XS → Prop) (hR : P R) (h : ∀ R, P R → wp (sSeq A R ρ) (tag Q)) : wp (sSeq A R ρ) (tag Q) := h R hR
theorem wp_cut2 {A B R : XS} {ρ : Env} {Q : Out → Prop} (P : XS → Prop) (hR : P R) (h : ∀ R, P R → wp (sSeq A (sSeq B R) ρ) (tag Q)) : wp (sSeq A (sSeq B R) ρ) (tag Q) := h R hR
theorem wp_cut3 {A B C R : XS} {ρ : Env} {Q : Out → Prop} (P : XS → Prop) (hR : P R) (h : ∀ R, P R → wp (sSeq A (sSeq B (sSeq C R)) ρ) (tag Q)) : wp (sSeq A (sSeq B (sSeq C R)) ρ) (tag Q) := h R hR
theorem mkWeb {rs : List Road} {gs ts : List (List Nat)} {m : Nat} (m1 : 1 ≤ m) (m8 : m ≤ 8) (r1 : 1 ≤ rs.length) (r20 : rs.length ≤ 20) (hr : ∀ x ∈ rs, OkRoad m x) (hg : gs.length = m) (ht : ts.length = m) (pg : ∀ (h : Nat) (l : List Nat), gs[h]? = some l → l.Perm (atR rs 0 h)) (pt : ∀ (h : Nat) (l : List Nat), ts[h]? = some l → l.Perm (atR rs 1 h)) : IsWeb ⟨rs, gs, ts⟩ :=
  ⟨⟨by show 1 ≤ gs.length; omega, by show gs.length ≤ 8; omega⟩, by show ts.length = gs.length; omega, ⟨r1, r20⟩, fun x hx => by show OkRoad gs.length x; rw [hg]; exact hr x hx, pg, pt⟩
def isAt (rs : List Road) (s h k : Nat) : Bool := match rs[k]? with
  | some x => side s x == some h
  | none => false
theorem filter_atR {rs : List Road} {s h : Nat} : (List.range rs.length).filter (isAt rs s h) = atR rs s h := by
  have e : List.range rs.length = rs.zipIdx.map (·.2) := by
    rw [show (fun (p : Road × Nat) => p.2) = Prod.snd from rfl, List.zipIdx_map_snd, List.range_eq_range']
  unfold atR
  rw [e, List.filter_map]
  congr 1
  apply List.filter_congr
  rintro ⟨x, k⟩ hx
  have hx := List.mem_zipIdx' hx
  obtain ⟨h1, h2⟩ := hx
  have h2 : x = rs[k] := h2
  show isAt rs s h k = _
  unfold isAt
  rw [List.getElem?_eq_getElem h1, ← h2]
theorem mem_atR {rs : List Road} {s h k : Nat} : k ∈ atR rs s h ↔ ∃ x, rs[k]? = some x ∧ side s x = some h := by
  rw [← filter_atR, List.mem_filter]
  unfold isAt
  constructor
  · rintro ⟨h1, h2⟩
    have h1 : k < rs.length := List.mem_range.mp h1
    rw [List.getElem?_eq_getElem h1] at h2
    exact ⟨_, List.getElem?_eq_getElem h1, by simpa using h2⟩
  · rintro ⟨x, h1, h2⟩
    rw [h1]
    exact ⟨List.mem_range.mpr (List.getElem?_eq_some_iff.mp h1).1, by simpa using h2⟩
theorem atR_len {rs : List Road} {s h : Nat} : (atR rs s h).length ≤ rs.length := by
  unfold atR
  rw [List.length_map]
  exact Nat.le_trans (List.length_filter_le ..) (by simp)
def spots (n : Nat) : List (Option Nat) := none :: (List.range n).map some
theorem spots_eq {n : Nat} : PyData.none :: (List.range n).map natD = (spots n).map endD := by
  unfold spots
  rw [List.map_cons, List.map_map]
  rfl
theorem spots_len {n : Nat} : (spots n).length = n + 1 := by simp [spots]
theorem spots_nodup {n : Nat} : (spots n).Nodup := by
  unfold spots
  rw [List.nodup_cons]
  refine ⟨by simp, ?_⟩
  rw [List.nodup_iff_pairwise_ne, List.pairwise_map]
  exact (List.nodup_range).imp fun h e => h (Option.some.inj e)
theorem spots_mem {n : Nat} {x : Option Nat} (h : x ∈ spots n) : ∀ k, x = some k → k < n := by
  rintro k rfl
  simpa [spots] using h
theorem erase_mem {α : Type} {l : List α} {r : Nat} {x : α} (h : x ∈ l.eraseIdx r) : x ∈ l := List.mem_of_mem_eraseIdx h
theorem erase_ne {α : Type} {l : List α} (nd : l.Nodup) {r : Nat} (hr : r < l.length) {x : α} (h : x ∈ l.eraseIdx r) : l[r] ≠ x := by
  rintro rfl
  have p := (erase_perm hr).nodup_iff.mpr nd
  exact (List.nodup_cons.mp p).1 h
theorem ord_snoc {rs : List Road} {s : Nat} {gs : List (List Nat)} {l : List Nat} (hg : ∀ (h : Nat) (l : List Nat), gs[h]? = some l → l.Perm (atR rs s h)) (hl : l.Perm (atR rs s gs.length)) : ∀ (h : Nat) (l' : List Nat), (gs ++ [l])[h]? = some l' → l'.Perm (atR rs s h) := by
  intro h l' e
  by_cases c : h < gs.length
  · rw [List.getElem?_append_left c] at e
    exact hg h l' e
  · rw [List.getElem?_append_right (by omega)] at e
    have : h - gs.length = 0 := by
      apply Classical.byContradiction
      intro z
      rw [List.getElem?_eq_none (by simp; omega)] at e
      exact nomatch e
    rw [this] at e
    have hh : h = gs.length := by omega
    simp at e
    subst e
    rw [hh]
    exact hl
theorem ord_map {rs : List Road} {s n : Nat} (f : Nat → List Nat) (hf : ∀ h, (f h).Perm (atR rs s h)) : ∀ (h : Nat) (l : List Nat), ((List.range n).map f)[h]? = some l → l.Perm (atR rs s h) := by
  intro h l e
  rw [List.getElem?_map] at e
  obtain ⟨k, e1, e2⟩ := Option.map_eq_some_iff.mp e
  have := (List.getElem?_eq_some_iff.mp e1).2
  rw [List.getElem_range] at this
  rw [← e2, ← this]
  exact hf h
end Uv

namespace Calm
def sm (l : List Nat) (g : Nat → Int) : Int := (l.map g).sum
theorem sm_cons {x : Nat} {l : List Nat} {g : Nat → Int} : sm (x :: l) g = g x + sm l g := by simp [sm]
theorem sm_same {l : List Nat} {g g' : Nat → Int} (h : ∀ j ∈ l, g' j = g j) : sm l g' = sm l g := by
  unfold sm
  rw [List.map_congr_left h]
theorem sm_le {l : List Nat} {g g' : Nat → Int} (h : ∀ j ∈ l, g j ≤ g' j) : sm l g ≤ sm l g' := by
  induction l with
  | nil => exact Int.le_refl _
  | cons x xs ih =>
    have h1 := h x (List.mem_cons_self ..)
    have h2 := ih fun j hj => h j (List.mem_cons_of_mem _ hj)
    rw [sm_cons, sm_cons]
    omega
theorem sm_nn {l : List Nat} {g : Nat → Int} (h : ∀ j ∈ l, 0 ≤ g j) : 0 ≤ sm l g := by
  have := sm_le (g := fun _ => 0) h
  have e : ∀ l : List Nat, sm l (fun _ => 0) = 0 := fun l => by
    induction l with
    | nil => rfl
    | cons x xs ih => rw [sm_cons, ih]; rfl
  rw [e] at this
  exact this
theorem sm_zero {l : List Nat} {g : Nat → Int} (h : ∀ j ∈ l, 0 ≤ g j) (hs : sm l g ≤ 0) : ∀ j ∈ l, g j = 0 := by
  induction l with
  | nil => intro j hj; exact nomatch hj
  | cons x xs ih =>
    rw [sm_cons] at hs
    have h1 := h x (List.mem_cons_self ..)
    have h2 := sm_nn fun j hj => h j (List.mem_cons_of_mem _ hj)
    intro j hj
    rcases List.mem_cons.mp hj with rfl | hj
    · omega
    · exact ih (fun j hj => h j (List.mem_cons_of_mem _ hj)) (by omega) j hj
theorem sm_pos {l : List Nat} {g : Nat → Int} (h : ∀ j ∈ l, 0 ≤ g j) (hs : 0 < sm l g) : ∃ j ∈ l, 0 < g j := by
  apply Classical.byContradiction
  intro z
  have := sm_le (l := l) (g := g) (g' := fun _ => 0) fun j hj => by
    have := h j hj
    apply Classical.byContradiction
    intro z'
    exact z ⟨j, hj, by omega⟩
  have e : ∀ l : List Nat, sm l (fun _ => 0) = 0 := fun l => by
    induction l with
    | nil => rfl
    | cons x xs ih => rw [sm_cons, ih]; rfl
  rw [e] at this
  omega
structure Net where
  n : Nat
  hs : Nat
  b : Nat → Option Nat
  e : Nat → Option Nat
  r : Nat → Int
  g : Nat → List Nat
  t : Nat → List Nat
structure Net.Ok (N : Net) : Prop where
  ne : ∀ k, k < N.n → N.b k ≠ N.e k
  r0 : ∀ k, 0 ≤ N.r k
  gm : ∀ h k, k ∈ N.g h ↔ k < N.n ∧ N.b k = some h
  tm : ∀ h k, k ∈ N.t h ↔ k < N.n ∧ N.e k = some h
  gn : ∀ h, (N.g h).Nodup
  tn : ∀ h, (N.t h).Nodup
  bh : ∀ k h, k < N.n → N.b k = some h → h < N.hs
  eh : ∀ k h, k < N.n → N.e k = some h → h < N.hs
variable {N : Net}
def outs (N : Net) (D R : Nat → Int) (h : Nat) : Int := sm (N.g h) fun k => D k - R k
def ins (N : Net) (D R : Nat → Int) (h : Nat) : Int := sm (N.t h) fun k => D k - R k
def worse (N : Net) (D R : Nat → Int) (h k : Nat) : Int := sm (N.t h) fun j => if (N.t h).idxOf k < (N.t h).idxOf j then D j - R j else 0
structure St (N : Net) (D R : Nat → Int) : Prop where
  i1 : ∀ k, 0 ≤ R k ∧ R k ≤ D k ∧ D k ≤ N.r k
  i2 : ∀ k, N.b k = none → D k = N.r k
  i3 : ∀ h k j, k ∈ N.g h → j ∈ N.g h → (N.g h).idxOf k < (N.g h).idxOf j → 0 < D j → D k = N.r k
  i4 : ∀ k, N.e k = none → R k = 0
  i5 : ∀ h, outs N D R h ≤ ins N D R h
  i6 : ∀ h k, k ∈ N.t h → 0 < R k → (∀ j ∈ N.g h, D j = N.r j) ∧ worse N D R h k ≤ ins N D R h - outs N D R h
def up (D : Nat → Int) (k : Nat) : Nat → Int := fun j => if j = k then D j + 1 else D j
def left (N : Net) (D R : Nat → Int) : Int := sm (List.range N.n) fun k => 2 * N.r k - D k - R k
theorem start (ok : N.Ok) : St N (fun k => if N.b k = none then N.r k else 0) fun _ => 0 := by
  refine ⟨fun k => ?_, fun k hk => if_pos hk, fun h k j hk hj hij hD => ?_, fun _ _ => rfl, fun h => ?_, fun h k hk hR => by omega⟩
  · have := ok.r0 k
    split <;> omega
  · have : N.b j ≠ none := fun z => by rw [((ok.gm h j).mp hj).2] at z; exact nomatch z
    rw [if_neg this] at hD
    omega
  · have e : outs N (fun k => if N.b k = none then N.r k else 0) (fun _ => 0) h = sm (N.g h) fun _ => 0 := sm_same fun j hj => by
      have : N.b j ≠ none := fun z => by rw [((ok.gm h j).mp hj).2] at z; exact nomatch z
      show (if N.b j = none then N.r j else 0) - 0 = 0
      rw [if_neg this]; rfl
    have z : sm (N.g h) (fun _ => 0) ≤ sm (N.g h) (fun _ => 0) := Int.le_refl _
    have e0 : ∀ l : List Nat, sm l (fun _ => 0) = 0 := fun l => by
      induction l with
      | nil => rfl
      | cons x xs ih => rw [sm_cons, ih]; rfl
    rw [e, e0]
    exact sm_nn fun j _ => by
      have := ok.r0 j
      show 0 ≤ (if N.b j = none then N.r j else 0) - 0
      split <;> omega
structure Rests (N : Net) (f : Nat → Int) (L : Nat → Prop) : Prop where
  lo : ∀ k, 0 ≤ f k
  hi : ∀ k, f k ≤ N.r k
  even : ∀ h, sm (N.g h) f = sm (N.t h) f
  calm : ∀ k, k < N.n → f k < N.r k → (∀ h, N.b k = some h → L h ∨ ∃ j ∈ N.g h, (N.g h).idxOf k < (N.g h).idxOf j ∧ 0 < f j) → ∃ h, N.e k = some h ∧ L h ∧ ∀ j ∈ N.t h, (N.t h).idxOf k < (N.t h).idxOf j → f j = 0
end Calm

namespace Calm
theorem sm_add {l : List Nat} {g g' : Nat → Int} : sm l (fun k => g k + g' k) = sm l g + sm l g' := by
  induction l with
  | nil => rfl
  | cons x xs ih => rw [sm_cons, sm_cons, sm_cons, ih]; omega
theorem sm_sub {l : List Nat} {g g' : Nat → Int} : sm l (fun k => g k - g' k) = sm l g - sm l g' := by
  induction l with
  | nil => rfl
  | cons x xs ih => rw [sm_cons, sm_cons, sm_cons, ih]; omega
theorem sm_nul {l : List Nat} {g : Nat → Int} (h : ∀ k ∈ l, g k = 0) : sm l g = 0 := by
  induction l with
  | nil => rfl
  | cons x xs ih =>
    rw [sm_cons, h x (List.mem_cons_self ..), ih fun k hk => h k (List.mem_cons_of_mem _ hk)]; rfl
theorem sm_perm {l m : List Nat} {g : Nat → Int} (p : l.Perm m) : sm l g = sm m g := by
  induction p with
  | nil => rfl
  | cons x _ ih => rw [sm_cons, sm_cons, ih]
  | swap x y l => rw [sm_cons, sm_cons, sm_cons, sm_cons]; omega
  | trans _ _ h1 h2 => rw [h1, h2]
theorem sm_swap {l m : List Nat} {G : Nat → Nat → Int} : sm l (fun h => sm m fun k => G h k) = sm m fun k => sm l fun h => G h k := by
  induction l with
  | nil => exact (sm_nul fun _ _ => rfl).symm
  | cons x xs ih => rw [sm_cons, ih, ← sm_add]; rfl
theorem sm_single {l : List Nat} {g : Nat → Int} {a : Nat} (nd : l.Nodup) (ha : a ∈ l) (h : ∀ k ∈ l, k ≠ a → g k = 0) : sm l g = g a := by
  induction l with
  | nil => exact nomatch ha
  | cons x xs ih =>
    obtain ⟨n1, n2⟩ := List.nodup_cons.mp nd
    rw [sm_cons]
    by_cases e : x = a
    · subst e
      rw [sm_nul fun k hk => h k (List.mem_cons_of_mem _ hk) fun z => n1 (z ▸ hk)]
      omega
    · rw [h x (List.mem_cons_self ..) e, ih n2 ((List.mem_cons.mp ha).resolve_left fun z => e z.symm) fun k hk => h k (List.mem_cons_of_mem _ hk)]
      omega
theorem sm_filter {l : List Nat} {p : Nat → Bool} {g : Nat → Int} : sm (l.filter p) g = sm l fun k => if p k = true then g k else 0 := by
  induction l with
  | nil => rfl
  | cons x xs ih =>
    rw [List.filter_cons, sm_cons]
    by_cases c : p x = true
    · rw [if_pos c, if_pos c, sm_cons, ih]
    · rw [if_neg c, if_neg c, ih]; omega
variable {N : Net}
open Classical in
/-- a sum over the roads of one side, house by house -/
theorem sides {n hs : Nat} {b : Nat → Option Nat} {l : Nat → List Nat} (lm : ∀ h k, k ∈ l h ↔ k < n ∧ b k = some h) (ln : ∀ h, (l h).Nodup) (bh : ∀ k h, k < n → b k = some h → h < hs) (P : Nat → Prop) (Q : Nat → Prop) (hQ : ∀ k, Q k ↔ ∃ h, b k = some h ∧ P h) (F : Nat → Int) :
    sm (List.range n) (fun k => if Q k then F k else 0) = sm (List.range hs) (fun h => if P h then sm (l h) F else 0) := by
  have e1 : ∀ h, sm (l h) F = sm (List.range n) (fun k => if b k = some h then F k else 0) := fun h => by
    have p : (l h).Perm ((List.range n).filter fun k => decide (b k = some h)) := (List.perm_ext_iff_of_nodup (ln h) (List.nodup_range.filter _)).mpr fun k => by
      rw [lm, List.mem_filter, List.mem_range, decide_eq_true_iff]
    rw [sm_perm p, sm_filter]
    exact sm_same fun k _ => by simp
  have e2 : sm (List.range hs) (fun h => if P h then sm (l h) F else 0) = sm (List.range hs) (fun h => sm (List.range n) fun k => if P h ∧ b k = some h then F k else 0) := sm_same fun h _ => by
    by_cases c : P h
    · rw [if_pos c, e1]
      exact sm_same fun k _ => by simp [c]
    · rw [if_neg c]
      exact (sm_nul fun k _ => by simp [c]).symm
  rw [e2, sm_swap]
  apply sm_same
  intro k hk
  have hk := List.mem_range.mp hk
  cases hb : b k with
  | none =>
    rw [if_neg (by rw [hQ]; rintro ⟨h, e, _⟩; rw [hb] at e; exact nomatch e)]
    exact (sm_nul fun h _ => by simp).symm
  | some h0 =>
    rw [sm_single List.nodup_range (List.mem_range.mpr (bh k h0 hk hb)) (fun h _ hne => if_neg fun z => hne (Option.some.inj z.2).symm)]
    by_cases c : P h0
    · rw [if_pos ((hQ k).mpr ⟨h0, hb, c⟩), if_pos ⟨c, rfl⟩]
    · rw [if_neg (by rw [hQ]; rintro ⟨h, e, ph⟩; rw [hb] at e; exact c (Option.some.inj e ▸ ph)), if_neg fun z => c z.1]
def thr (N : Net) (f : Nat → Int) (h : Nat) : Int := sm (N.g h) f
def Up (N : Net) (f : Nat → Int) (S : Nat → Prop) (g : Nat → Int) (T : Nat → Prop) (h : Nat) : Prop :=
  (∃ k ∈ N.g h, g k < f k ∧ ¬ T h ∧ ∀ j ∈ N.g h, (N.g h).idxOf k < (N.g h).idxOf j → g j = 0) ∨ (S h ∧ (¬ T h ∨ thr N f h < thr N g h))
def Vp (N : Net) (f : Nat → Int) (S : Nat → Prop) (g : Nat → Int) (T : Nat → Prop) (h : Nat) : Prop :=
  (∃ k ∈ N.t h, g k < f k ∧ T h ∧ ∀ j ∈ N.t h, (N.t h).idxOf k < (N.t h).idxOf j → g j = 0) ∨ (¬ S h ∧ (T h ∨ thr N f h < thr N g h))
def UU (N : Net) (f : Nat → Int) (S : Nat → Prop) (g : Nat → Int) (T : Nat → Prop) (k : Nat) : Prop := ∃ h, N.b k = some h ∧ Up N f S g T h
def VV (N : Net) (f : Nat → Int) (S : Nat → Prop) (g : Nat → Int) (T : Nat → Prop) (k : Nat) : Prop := ∃ h, N.e k = some h ∧ Vp N f S g T h
section
variable {f g : Nat → Int} {S T : Nat → Prop}
theorem idx_inj {l : List Nat} {a b : Nat} (ha : a ∈ l) (h : l.idxOf a = l.idxOf b) : a = b := by
  have h1 := List.idxOf_lt_length_iff.mpr ha
  have e1 := List.getElem_idxOf h1
  have h2 : l.idxOf b < l.length := h ▸ h1
  have e2 := List.getElem_idxOf h2
  rw [← e1, ← e2]
  simp only [h]
theorem both_ex {l : List Nat} {k j : Nat} (hk : k ∈ l) (hj : j ∈ l) (f0 : ∀ k, 0 ≤ f k) (g0 : ∀ k, 0 ≤ g k) (h1 : g k < f k) (h2 : f j < g j) (z1 : ∀ j ∈ l, l.idxOf k < l.idxOf j → g j = 0) (z2 : ∀ k ∈ l, l.idxOf j < l.idxOf k → f k = 0) : False := by
  rcases Nat.lt_trichotomy (l.idxOf k) (l.idxOf j) with c | c | c
  · have := z1 j hj c; have := f0 j; omega
  · have := idx_inj hk c; subst this; omega
  · have := z2 k hk c; have := g0 k; omega
theorem ex_U (rf : Rests N f S) (rg : Rests N g T) {h : Nat} (a : Up N f S g T h) (b : Up N g T f S h) : False := by
  rcases a with ⟨k, hk, h1, nT, z1⟩ | ⟨s, h1⟩ <;> rcases b with ⟨j, hj, h2, nS, z2⟩ | ⟨t, h2⟩
  · exact both_ex hk hj rf.lo rg.lo h1 h2 z1 z2
  · exact nT t
  · exact nS s
  · rcases h1 with h1 | h1
    · exact h1 t
    · rcases h2 with h2 | h2
      · exact h2 s
      · omega
theorem ex_V (rf : Rests N f S) (rg : Rests N g T) {h : Nat} (a : Vp N f S g T h) (b : Vp N g T f S h) : False := by
  rcases a with ⟨k, hk, h1, tT, z1⟩ | ⟨s, h1⟩ <;> rcases b with ⟨j, hj, h2, sS, z2⟩ | ⟨t, h2⟩
  · exact both_ex hk hj rf.lo rg.lo h1 h2 z1 z2
  · exact t tT
  · exact s sS
  · rcases h1 with h1 | h1
    · exact t h1
    · rcases h2 with h2 | h2
      · exact s h2
      · omega
theorem ex_UU (rf : Rests N f S) (rg : Rests N g T) {k : Nat} (a : UU N f S g T k) (b : UU N g T f S k) : False := by
  obtain ⟨h, e, a⟩ := a
  obtain ⟨h', e', b⟩ := b
  rw [e] at e'
  have := Option.some.inj e'
  subst this
  exact ex_U rf rg a b
theorem ex_VV (rf : Rests N f S) (rg : Rests N g T) {k : Nat} (a : VV N f S g T k) (b : VV N g T f S k) : False := by
  obtain ⟨h, e, a⟩ := a
  obtain ⟨h', e', b⟩ := b
  rw [e] at e'
  have := Option.some.inj e'
  subst this
  exact ex_V rf rg a b
theorem why (ok : N.Ok) (rf : Rests N f S) (rg : Rests N g T) {k : Nat} (kn : k < N.n) (h : g k < f k) :
    (∃ h, N.b k = some h ∧ ¬ T h ∧ ∀ j ∈ N.g h, (N.g h).idxOf k < (N.g h).idxOf j → g j = 0) ∨ (∃ h, N.e k = some h ∧ T h ∧ ∀ j ∈ N.t h, (N.t h).idxOf k < (N.t h).idxOf j → g j = 0) := by
  by_cases c : ∀ h, N.b k = some h → T h ∨ ∃ j ∈ N.g h, (N.g h).idxOf k < (N.g h).idxOf j ∧ 0 < g j
  · exact .inr (rg.calm k kn (by have := rf.hi k; omega) c)
  · left
    apply Classical.byContradiction
    intro z
    apply c
    intro h hb
    apply Classical.byContradiction
    intro z'
    refine z ⟨h, hb, fun t => z' (.inl t), fun j hj hij => ?_⟩
    have := rg.lo j
    apply Classical.byContradiction
    intro z''
    exact z' (.inr ⟨j, hj, hij, by omega⟩)
theorem expl (ok : N.Ok) (rf : Rests N f S) (rg : Rests N g T) {k : Nat} (kn : k < N.n) (h : g k < f k) : UU N f S g T k ∨ VV N f S g T k := by
  rcases why ok rf rg kn h with ⟨h', e, t, z⟩ | ⟨h', e, t, z⟩
  · exact .inl ⟨h', e, .inl ⟨k, (ok.gm h' k).mpr ⟨kn, e⟩, h, t, z⟩⟩
  · exact .inr ⟨h', e, .inl ⟨k, (ok.tm h' k).mpr ⟨kn, e⟩, h, t, z⟩⟩
open Classical in
theorem half (ok : N.Ok) (rf : Rests N f S) (rg : Rests N g T) :
    (∀ k, k < N.n → f k ≠ g k → (UU N f S g T k ↔ VV N g T f S k)) ∧ (∀ h, h < N.hs → thr N f h ≠ thr N g h → (Up N f S g T h ↔ Vp N g T f S h)) := by
  have s1 := sides ok.gm ok.gn ok.bh (Up N f S g T) (UU N f S g T) (fun _ => Iff.rfl) (fun k => f k - g k)
  have s2 := sides ok.tm ok.tn ok.eh (Vp N g T f S) (VV N g T f S) (fun _ => Iff.rfl) (fun k => f k - g k)
  have a1 : ∀ h, sm (N.g h) (fun k => f k - g k) = thr N f h - thr N g h := fun h => sm_sub
  have a2 : ∀ h, sm (N.t h) (fun k => f k - g k) = thr N f h - thr N g h := fun h => by
    rw [sm_sub, ← rf.even, ← rg.even]; rfl
  simp only [a1] at s1
  simp only [a2] at s2
  -- the parts
  have p1 : ∀ k ∈ List.range N.n, 0 ≤ (if UU N f S g T k then f k - g k else 0) - (if VV N g T f S k then f k - g k else 0) := fun k hk => by
    have hk := List.mem_range.mp hk
    by_cases cu : UU N f S g T k <;> by_cases cv : VV N g T f S k
    · rw [if_pos cu, if_pos cv]; omega
    · rw [if_pos cu, if_neg cv]
      apply Classical.byContradiction
      intro z
      rcases expl ok rg rf hk (by omega) with y | y
      · exact ex_UU rf rg cu y
      · exact cv y
    · rw [if_neg cu, if_pos cv]
      apply Classical.byContradiction
      intro z
      rcases expl ok rf rg hk (by omega) with y | y
      · exact cu y
      · exact ex_VV rf rg y cv
    · rw [if_neg cu, if_neg cv]; omega
  have p2 : ∀ h ∈ List.range N.hs, 0 ≤ (if Vp N g T f S h then thr N f h - thr N g h else 0) - (if Up N f S g T h then thr N f h - thr N g h else 0) := fun h _ => by
    by_cases cu : Up N f S g T h <;> by_cases cv : Vp N g T f S h
    · rw [if_pos cu, if_pos cv]; omega
    · rw [if_neg cv, if_pos cu]
      apply Classical.byContradiction
      intro z
      by_cases s : S h <;> by_cases t : T h
      · exact ex_U rf rg cu (.inr ⟨t, .inr (by omega)⟩)
      · exact cv (.inr ⟨t, .inl s⟩)
      · exact ex_U rf rg cu (.inr ⟨t, .inl s⟩)
      · exact cv (.inr ⟨t, .inr (by omega)⟩)
    · rw [if_pos cv, if_neg cu]
      apply Classical.byContradiction
      intro z
      by_cases s : S h <;> by_cases t : T h
      · exact cu (.inr ⟨s, .inr (by omega)⟩)
      · exact cu (.inr ⟨s, .inl t⟩)
      · exact ex_V rf rg (.inr ⟨s, .inl t⟩) cv
      · exact ex_V rf rg (.inr ⟨s, .inr (by omega)⟩) cv
    · rw [if_neg cv, if_neg cu]; omega
  have t1 := sm_sub (l := List.range N.n) (g := fun k => if UU N f S g T k then f k - g k else 0) (g' := fun k => if VV N g T f S k then f k - g k else 0)
  have t2 := sm_sub (l := List.range N.hs) (g := fun h => if Vp N g T f S h then thr N f h - thr N g h else 0) (g' := fun h => if Up N f S g T h then thr N f h - thr N g h else 0)
  have n1 := sm_nn p1
  have n2 := sm_nn p2
  have z1 := sm_zero p1 (by omega)
  have z2 := sm_zero p2 (by omega)
  constructor
  · intro k hk hne
    have := z1 k (List.mem_range.mpr hk)
    constructor
    · intro cu
      apply Classical.byContradiction
      intro cv
      rw [if_pos cu, if_neg cv] at this
      omega
    · intro cv
      apply Classical.byContradiction
      intro cu
      rw [if_neg cu, if_pos cv] at this
      omega
  · intro h hh hne
    have := z2 h (List.mem_range.mpr hh)
    constructor
    · intro cu
      apply Classical.byContradiction
      intro cv
      rw [if_pos cu, if_neg cv] at this
      omega
    · intro cv
      apply Classical.byContradiction
      intro cu
      rw [if_neg cu, if_pos cv] at this
      omega
end
end Calm

namespace Calm
def lx : List Int → List Int → Bool
  | [], [] => false
  | [], _ :: _ => true
  | _ :: _, [] => false
  | a :: l, b :: m => if a = b then lx l m else decide (a < b)
variable {N : Net} {f g : Nat → Int} {S T : Nat → Prop}
theorem sm_lt {l : List Nat} (h : ∀ k ∈ l, g k ≤ f k) {j : Nat} (hj : j ∈ l) (hl : g j < f j) : sm l g < sm l f := by
  apply Classical.byContradiction
  intro z
  have := sm_zero (l := l) (g := fun k => f k - g k) (fun k hk => by have := h k hk; omega) (by rw [sm_sub]; omega) j hj
  omega
open Classical in
/-- what a house goes by when it likes one of two pairs -/
noncomputable def key (N : Net) (f : Nat → Int) (S : Nat → Prop) (h : Nat) : List Int := if S h then 0 :: 0 :: (N.g h).map f else 1 :: -(sm (N.t h) f) :: (N.g h).map f
theorem Up.to (h : Nat) {k : Nat} (ok : N.Ok) (hk : k ∈ N.g h) : UU N f S g T k ↔ Up N f S g T h := by
  obtain ⟨_, kb⟩ := (ok.gm h k).mp hk
  constructor
  · rintro ⟨h', e, u⟩
    rw [kb] at e
    exact Option.some.inj e ▸ u
  · exact fun u => ⟨h, kb, u⟩
theorem Vp.to (h : Nat) {k : Nat} (ok : N.Ok) (hk : k ∈ N.t h) : VV N f S g T k ↔ Vp N f S g T h := by
  obtain ⟨_, kb⟩ := (ok.tm h k).mp hk
  constructor
  · rintro ⟨h', e, u⟩
    rw [kb] at e
    exact Option.some.inj e ▸ u
  · exact fun u => ⟨h, kb, u⟩
open Classical in
noncomputable def jn (N : Net) (f : Nat → Int) (S : Nat → Prop) (g : Nat → Int) (T : Nat → Prop) (k : Nat) : Int := if UU N f S g T k then g k else f k
end Calm

namespace Fr
open Calm (sm sm_cons sm_le sm_sub sm_add sm_single sm_nn sm_zero sm_pos sm_same sm_lt idx_inj)
theorem sm_one {l : List Nat} {g g' : Nat → Int} {k : Nat} (nd : l.Nodup) (hk : k ∈ l) (h : ∀ j ∈ l, j ≠ k → g' j = g j) : sm l g' = sm l g + (g' k - g k) := by
  have e := sm_single (g := fun j => g' j - g j) nd hk fun j hj hn => by show g' j - g j = 0; rw [h j hj hn]; omega
  rw [sm_sub] at e
  omega
def put (g : Nat → Int) (a : Nat) (c : Int) : Nat → Int := fun j => if j = a then c else g j
theorem put_at {g : Nat → Int} {a : Nat} {c : Int} : put g a c a = c := if_pos rfl
theorem put_ne {g : Nat → Int} {a j : Nat} {c : Int} (h : j ≠ a) : put g a c j = g j := if_neg h
theorem sm_put {l : List Nat} {g : Nat → Int} {a : Nat} {c : Int} (nd : l.Nodup) (ha : a ∈ l) : sm l (put g a c) = sm l g + (c - g a) := by
  rw [sm_one nd ha fun j _ hn => put_ne hn, put_at]
theorem sm_gap {l : List Nat} {g g' : Nat → Int} {a : Nat} (nd : l.Nodup) (ha : a ∈ l) (h : ∀ j ∈ l, g j ≤ g' j) : sm l g + (g' a - g a) ≤ sm l g' := by
  rw [← sm_put nd ha]
  refine sm_le fun j hj => ?_
  by_cases c : j = a
  · rw [c, put_at]; exact Int.le_refl _
  · rw [put_ne c]; exact h j hj
theorem sm_ex {l : List Nat} {g g' : Nat → Int} (h : sm l g < sm l g') : ∃ j ∈ l, g j < g' j := by
  apply Classical.byContradiction
  intro q
  have : sm l g' ≤ sm l g := sm_le fun j hj => by
    apply Classical.byContradiction
    intro q2
    exact q ⟨j, hj, by omega⟩
  omega
structure Side where
  m : Nat → Int
  o : Nat → List Nat
  of : Nat → Nat
structure Mk where
  n : Nat
  r : Nat → Int
  G : Side
  P : Side
structure Side.Ok (n : Nat) (S : Side) : Prop where
  mem : ∀ t, t < n → t ∈ S.o (S.of t)
  back : ∀ h t, t ∈ S.o h → t < n ∧ S.of t = h
  nd : ∀ h, (S.o h).Nodup
structure Mk.Ok (M : Mk) : Prop where
  g : M.G.Ok M.n
  p : M.P.Ok M.n
def aft (S : Side) (t s : Nat) : Prop := s ∈ S.o (S.of t) ∧ (S.o (S.of t)).idxOf t < (S.o (S.of t)).idxOf s
def less (S : Side) (x : Nat → Int) (t : Nat) : Prop := ∃ s, aft S t s ∧ 0 < x s
def tot (S : Side) (x : Nat → Int) (h : Nat) : Int := sm (S.o h) x
def will (S : Side) (x : Nat → Int) (t : Nat) : Prop := tot S x (S.of t) < S.m (S.of t) ∨ less S x t
structure Sh (M : Mk) (x : Nat → Int) : Prop where
  lo : ∀ t, 0 ≤ x t
  hi : ∀ t, t < M.n → x t ≤ M.r t
  g : ∀ h, tot M.G x h ≤ M.G.m h
  p : ∀ h, tot M.P x h ≤ M.P.m h
def closed (M : Mk) (x : Nat → Int) (t : Nat) : Prop := x t < M.r t → ¬ will M.P x t
def I1 (M : Mk) (x : Nat → Int) : Prop := ∀ t, t < M.n → x t < M.r t → less M.G x t → ¬ will M.P x t
structure Stl (M : Mk) (x : Nat → Int) : Prop where
  sh : Sh M x
  no : ∀ t, t < M.n → x t < M.r t → will M.G x t → will M.P x t → False
def I2 (M : Mk) (x : Nat → Int) : Prop := ∀ z, Stl M z → ∀ t, t < M.n → ¬ will M.P x t → z t ≤ x t
section
variable {M : Mk} {S : Side} {n : Nat} {x y z : Nat → Int} {t s u : Nat}
theorem aft.lt (ok : S.Ok n) (h : aft S t s) : s < n ∧ S.of s = S.of t := ok.back _ _ h.1
theorem aft.trans (ok : S.Ok n) (h : aft S t s) (h2 : aft S s u) : aft S t u := by
  have e := (h.lt ok).2
  unfold aft at h2
  rw [e] at h2
  exact ⟨h2.1, Nat.lt_trans h.2 h2.2⟩
theorem aft.asym (ok : S.Ok n) (h : aft S t s) (h2 : aft S s t) : False := by
  have e := (h.lt ok).2
  unfold aft at h2
  rw [e] at h2
  have := h.2
  omega
theorem aft.ne (h : aft S t s) : t ≠ s := fun e => by
  rw [e] at h
  exact Nat.lt_irrefl _ h.2
theorem aft.tri (ok : S.Ok n) (ht : t < n) (hs : s < n) (e : S.of t = S.of s) : aft S t s ∨ t = s ∨ aft S s t := by
  have h1 := ok.mem t ht
  have h2 := ok.mem s hs
  rcases Nat.lt_trichotomy ((S.o (S.of t)).idxOf t) ((S.o (S.of t)).idxOf s) with q | q | q
  · exact .inl ⟨by rw [e]; exact h2, q⟩
  · exact .inr (.inl (idx_inj h1 q))
  · exact .inr (.inr ⟨by rw [← e]; exact h1, by rw [← e]; exact q⟩)
theorem not_will (ok : S.Ok n) (tle : tot S x (S.of t) ≤ S.m (S.of t)) (lo : ∀ s, 0 ≤ x s) (h : ¬ will S x t) : tot S x (S.of t) = S.m (S.of t) ∧ ∀ s, aft S t s → x s = 0 := by
  refine ⟨?_, fun s hs => ?_⟩
  · apply Classical.byContradiction
    intro q
    exact h (.inl (by omega))
  · have := lo s
    apply Classical.byContradiction
    intro q
    exact h (.inr ⟨s, hs, by omega⟩)
theorem no_will (hf : tot S x (S.of t) = S.m (S.of t)) (h : ∀ s, aft S t s → x s = 0) : ¬ will S x t := by
  rintro (q | ⟨s, hs, q⟩)
  · omega
  · rw [h s hs] at q; omega
theorem better_ex (ok : S.Ok n) (hs : s < n) (zm : tot S z (S.of s) = S.m (S.of s)) (z0 : ∀ j, aft S s j → z j = 0) (xl : ∀ j, 0 ≤ x j) (xm : tot S x (S.of s) ≤ S.m (S.of s)) (lt : z s < x s) : ∃ r, r < n ∧ aft S r s ∧ x r < z r := by
  apply Classical.byContradiction
  intro q
  have h : ∀ j ∈ S.o (S.of s), z j ≤ x j := fun j hj => by
    obtain ⟨jn, je⟩ := ok.back _ _ hj
    rcases aft.tri ok jn hs je with a | a | a
    · apply Classical.byContradiction
      intro q2
      exact q ⟨j, jn, a, by omega⟩
    · rw [a]; omega
    · rw [z0 j a]; exact xl j
  have := sm_gap (ok.nd _) (ok.mem s hs) h
  unfold tot at zm xm
  omega
end
structure Row (M : Mk) (x y : Nat → Int) (c : Int) (U D : Nat → Prop) : Prop where
  c1 : 1 ≤ c
  up : ∀ t, U t → y t = x t + c
  dn : ∀ t, D t → y t = x t - c
  st : ∀ t, ¬ U t → ¬ D t → y t = x t
  un : ∀ t, U t → t < M.n
  dl : ∀ t, D t → t < M.n
  ur : ∀ t, U t → x t + c ≤ M.r t
  dr : ∀ t, D t → c ≤ x t
  dis : ∀ t, U t → D t → False
  gu : ∀ t s, U t → U s → M.G.of t = M.G.of s → t = s
  gd : ∀ t s, D t → D s → M.G.of t = M.G.of s → t = s
  pu : ∀ t s, U t → U s → M.P.of t = M.P.of s → t = s
  pd : ∀ t s, D t → D s → M.P.of t = M.P.of s → t = s
  want : ∀ t, U t → will M.P x t ∧ ∀ s, aft M.G s t → s < M.n → closed M x s
  full : ∀ t, D t → tot M.P x (M.P.of t) = M.P.m (M.P.of t) ∧ ∀ s, aft M.P t s → x s = 0
  link : ∀ t, D t → ∃ u, U u ∧ M.P.of u = M.P.of t ∧ aft M.P u t
  ptop : ∀ u, U u → (∃ t, D t ∧ M.P.of t = M.P.of u) ∨ ((∀ t, D t → M.P.of t ≠ M.P.of u) ∧ tot M.P x (M.P.of u) + c ≤ M.P.m (M.P.of u))
  next : ∀ t, D t → (∃ u, U u ∧ M.G.of u = M.G.of t) ∨ ∀ s, s < M.n → M.G.of s = M.G.of t → closed M x s
  gtop : ∀ u, U u → (∃ t, D t ∧ M.G.of t = M.G.of u) ∨ ((∀ t, D t → M.G.of t ≠ M.G.of u) ∧ tot M.G x (M.G.of u) + c ≤ M.G.m (M.G.of u))
section
variable {M : Mk} {S : Side} {n : Nat} {x y z : Nat → Int} {t s u : Nat} {c : Int} {U D : Nat → Prop}
abbrev TotC (S : Side) (x y : Nat → Int) (c : Int) (U D : Nat → Prop) (h : Nat) : Prop := ((∃ u, U u ∧ S.of u = h) → (∃ t, D t ∧ S.of t = h) → tot S y h = tot S x h) ∧ ((∃ u, U u ∧ S.of u = h) → (∀ t, D t → S.of t ≠ h) → tot S y h = tot S x h + c) ∧ ((∀ t, U t → S.of t ≠ h) → (∃ u, D u ∧ S.of u = h) → tot S y h = tot S x h - c) ∧ ((∀ t, U t → S.of t ≠ h) → (∀ t, D t → S.of t ≠ h) → tot S y h = tot S x h)
theorem tot_cases (ok : S.Ok n) (c1 : 1 ≤ c) (up : ∀ t, U t → y t = x t + c) (dn : ∀ t, D t → y t = x t - c) (st : ∀ t, ¬ U t → ¬ D t → y t = x t) (un : ∀ t, U t → t < n) (dl : ∀ t, D t → t < n) (dis : ∀ t, U t → D t → False) (gu : ∀ t s, U t → U s → S.of t = S.of s → t = s) (gd : ∀ t s, D t → D s → S.of t = S.of s → t = s) (h : Nat) : TotC S x y c U D h := by
  have nd := ok.nd h
  unfold TotC tot
  refine ⟨?_, ?_, ?_, ?_⟩
  · rintro ⟨u, hu, eu⟩ ⟨d, hd, ed⟩
    have mu : u ∈ S.o h := by rw [← eu]; exact ok.mem u (un u hu)
    have md : d ∈ S.o h := by rw [← ed]; exact ok.mem d (dl d hd)
    have ne : u ≠ d := fun e => dis u hu (by rw [e]; exact hd)
    have e1 := sm_put (g := x) (c := x u + c) nd mu
    have e2 := sm_one (g := put x u (x u + c)) (g' := y) nd md fun j hj hn => by
      by_cases q : j = u
      · rw [q, put_at]; exact up u hu
      · rw [put_ne q]
        refine st j (fun z => q (gu j u z hu ?_)) fun z => hn (gd j d z hd ?_)
        · rw [(ok.back _ _ hj).2, eu]
        · rw [(ok.back _ _ hj).2, ed]
    rw [e2, e1, dn d hd, put_ne (fun e => ne e.symm)]
    omega
  · rintro ⟨u, hu, eu⟩ nod
    have mu : u ∈ S.o h := by rw [← eu]; exact ok.mem u (un u hu)
    rw [sm_one (g := x) (g' := y) nd mu fun j hj hn => st j (fun z => hn (gu j u z hu (by rw [(ok.back _ _ hj).2, eu]))) fun z => nod j z (ok.back _ _ hj).2, up u hu]
    omega
  · rintro nou ⟨d, hd, ed⟩
    have md : d ∈ S.o h := by rw [← ed]; exact ok.mem d (dl d hd)
    rw [sm_one (g := x) (g' := y) nd md fun j hj hn => st j (fun z => nou j z (ok.back _ _ hj).2) fun z => hn (gd j d z hd (by rw [(ok.back _ _ hj).2, ed])), dn d hd]
    omega
  · intro nou nod
    exact sm_same fun j hj => st j (fun z => nou j z (ok.back _ _ hj).2) fun z => nod j z (ok.back _ _ hj).2
theorem Row.totG (ok : M.Ok) (w : Row M x y c U D) (h : Nat) : TotC M.G x y c U D h := tot_cases ok.g w.c1 w.up w.dn w.st w.un w.dl w.dis w.gu w.gd h
theorem Row.totP (ok : M.Ok) (w : Row M x y c U D) (h : Nat) : TotC M.P x y c U D h := tot_cases ok.p w.c1 w.up w.dn w.st w.un w.dl w.dis w.pu w.pd h
theorem Row.p_up (ok : M.Ok) (w : Row M x y c U D) (h : Nat) : tot M.P x h ≤ tot M.P y h := by
  have c1 := w.c1
  obtain ⟨h1, h2, h3, h4⟩ := w.totP ok h
  by_cases a : ∃ d, D d ∧ M.P.of d = h
  · obtain ⟨d, hd, ed⟩ := a
    obtain ⟨u, hu, eu, _⟩ := w.link d hd
    rw [h1 ⟨u, hu, by rw [eu, ed]⟩ ⟨d, hd, ed⟩]
    exact Int.le_refl _
  · have a : ∀ t, D t → M.P.of t ≠ h := fun t ht e => a ⟨t, ht, e⟩
    by_cases b : ∃ u, U u ∧ M.P.of u = h
    · rw [h2 b a]; omega
    · rw [h4 (fun t ht e => b ⟨t, ht, e⟩) a]; exact Int.le_refl _
theorem Row.le (w : Row M x y c U D) {t : Nat} (h : ¬ U t) : y t ≤ x t := by
  have := w.c1
  by_cases a : D t
  · rw [w.dn t a]; omega
  · rw [w.st t h a]; exact Int.le_refl _
theorem Row.ge (w : Row M x y c U D) {t : Nat} (h : ¬ D t) : x t ≤ y t := by
  have := w.c1
  by_cases a : U t
  · rw [w.up t a]; omega
  · rw [w.st t a h]; exact Int.le_refl _
theorem Row.sh (ok : M.Ok) (sx : Sh M x) (w : Row M x y c U D) : Sh M y := by
  have c1 := w.c1
  refine ⟨fun t => ?_, fun t ht => ?_, fun h => ?_, fun h => ?_⟩
  · by_cases a : D t
    · rw [w.dn t a]; have := w.dr t a; omega
    · have := w.ge a; have := sx.lo t; omega
  · by_cases a : U t
    · rw [w.up t a]; exact w.ur t a
    · have := w.le a; have := sx.hi t ht; omega
  · obtain ⟨h1, h2, h3, h4⟩ := w.totG ok h
    have b := sx.g h
    by_cases a : ∃ u, U u ∧ M.G.of u = h
    · obtain ⟨u, hu, eu⟩ := a
      rcases w.gtop u hu with ⟨d, hd, ed⟩ | ⟨q1, q2⟩
      · rw [h1 ⟨u, hu, eu⟩ ⟨d, hd, by rw [ed, eu]⟩]; exact b
      · rw [eu] at q1 q2
        rw [h2 ⟨u, hu, eu⟩ q1]; exact q2
    · have a : ∀ t, U t → M.G.of t ≠ h := fun t ht e => a ⟨t, ht, e⟩
      by_cases d : ∃ u, D u ∧ M.G.of u = h
      · rw [h3 a d]; omega
      · rw [h4 a (fun t ht e => d ⟨t, ht, e⟩)]; exact b
  · obtain ⟨h1, h2, h3, h4⟩ := w.totP ok h
    have b := sx.p h
    by_cases a : ∃ u, U u ∧ M.P.of u = h
    · obtain ⟨u, hu, eu⟩ := a
      rcases w.ptop u hu with ⟨d, hd, ed⟩ | ⟨q1, q2⟩
      · rw [h1 ⟨u, hu, eu⟩ ⟨d, hd, by rw [ed, eu]⟩]; exact b
      · rw [eu] at q1 q2
        rw [h2 ⟨u, hu, eu⟩ q1]; exact q2
    · have a : ∀ t, U t → M.P.of t ≠ h := fun t ht e => a ⟨t, ht, e⟩
      by_cases d : ∃ u, D u ∧ M.P.of u = h
      · rw [h3 a d]; omega
      · rw [h4 a (fun t ht e => d ⟨t, ht, e⟩)]; exact b
theorem Row.keep (ok : M.Ok) (sx : Sh M x) (w : Row M x y c U D) {t : Nat} (ht : t < M.n) (h : ¬ will M.P x t) : ¬ will M.P y t := by
  obtain ⟨f, z0⟩ := not_will ok.p (sx.p _) sx.lo h
  have sy := w.sh ok sx
  refine no_will (by have := w.p_up ok (M.P.of t); have := sy.p (M.P.of t); omega) fun s hs => ?_
  have x0 := z0 s hs
  have y0 := sy.lo s
  by_cases us : U s
  · have ws := (w.want s us).1
    exfalso
    rcases ws with q | ⟨v, hv, q⟩
    · rw [(hs.lt ok.p).2] at q; omega
    · have := z0 v (hs.trans ok.p hv); omega
  · have := w.le us; omega
theorem Row.gone (ok : M.Ok) (sx : Sh M x) (w : Row M x y c U D) {t : Nat} (h : D t) : ¬ will M.P y t := by
  have ht := w.dl t h
  refine w.keep ok sx ht ?_
  obtain ⟨a, b⟩ := w.full t h
  exact no_will a b
theorem Row.i1 (ok : M.Ok) (sx : Sh M x) (ix : I1 M x) (w : Row M x y c U D) : I1 M y := fun t ht lt ⟨s, hs, ps⟩ => by
  by_cases d : D t
  · exact w.gone ok sx d
  · have lx : x t < M.r t := by have := w.ge d; omega
    refine w.keep ok sx ht ?_
    by_cases q : 0 < x s
    · exact ix t ht lx ⟨s, hs, q⟩
    · have us : U s := by
        apply Classical.byContradiction
        intro q2
        have := w.le q2
        omega
      exact (w.want s us).2 t hs ht lx
end
end Fr

namespace Fr
open Calm (sm sm_cons sm_le sm_sub sm_add sm_single sm_nn sm_zero sm_pos sm_same sm_lt idx_inj)
section
variable {M : Mk} {x y z : Nat → Int} {t s u : Nat} {c : Int} {U D : Nat → Prop}
theorem claimA (ok : M.Ok) (sx : Sh M x) (ix : I1 M x) (i2 : ∀ t, t < M.n → ¬ will M.P x t → z t ≤ x t) (sz : Stl M z) (hs : s < M.n) (lt : z s < x s) : ¬ will M.P z s := fun wp => by
  have wg : ¬ will M.G z s := fun q => sz.no s hs (by have := sx.hi s hs; omega) q wp
  obtain ⟨f, z0⟩ := not_will ok.g (sz.sh.g _) sz.sh.lo wg
  obtain ⟨r, rn, a, b⟩ := better_ex ok.g hs f z0 sx.lo (sx.g _) lt
  have zl := sz.sh.lo s
  have := i2 r rn (ix r rn (by have := sz.sh.hi r rn; omega) ⟨s, a, by omega⟩)
  omega
structure Chn (M : Mk) (x : Nat → Int) (kt k q : Nat) (T S g : Nat → Nat) : Prop where
  k1 : k ≤ kt
  k2 : kt ≤ k + 1
  tn : ∀ j, j < kt → T j < M.n
  sn : ∀ j, j < k → S j < M.n
  gt : ∀ j, j < kt → M.G.of (T j) = g j
  gs : ∀ j, j < k → M.G.of (S j) = g (j + 1)
  room : ∀ j, j < kt → x (T j) < M.r (T j)
  want : ∀ j, j < kt → will M.P x (T j)
  best : ∀ j, j < kt → ∀ s, aft M.G s (T j) → s < M.n → closed M x s
  same : ∀ j, j < k → M.P.of (S j) = M.P.of (T j)
  full : ∀ j, j < k → tot M.P x (M.P.of (T j)) = M.P.m (M.P.of (T j))
  pos : ∀ j, j < k → 0 < x (S j)
  last : ∀ j, j < k → ∀ s, aft M.P (S j) s → x s = 0
  start : tot M.G x (g 0) < M.G.m (g 0)
  dis : ∀ i j, i < q → j < q → g i = g j → i = j
section
variable {kt k q : Nat} {T S g : Nat → Nat}
theorem Chn.less (ok : M.Ok) (h : Chn M x kt k q T S g) {j : Nat} (hj : j < k) : aft M.P (T j) (S j) := by
  have k1 := h.k1
  rcases h.want j (by omega) with a | ⟨v, hv, pv⟩
  · rw [h.full j hj] at a; omega
  · obtain ⟨vn, ve⟩ := hv.lt ok.p
    rcases aft.tri ok.p vn (h.sn j hj) (by rw [ve, h.same j hj]) with a | a | a
    · exact hv.trans ok.p a
    · rw [← a]; exact hv
    · have := h.last j hj v a; omega
theorem Chn.one (ok : M.Ok) (h : Chn M x kt k q T S g) {i j : Nat} (hi : i < k) (hj : j < k) (e : M.P.of (T i) = M.P.of (T j)) : S i = S j := by
  have e : M.P.of (S i) = M.P.of (S j) := by rw [h.same i hi, h.same j hj, e]
  rcases aft.tri ok.p (h.sn i hi) (h.sn j hj) e with a | a | a
  · have := h.last i hi _ a; have := h.pos j hj; omega
  · exact a
  · have := h.last j hj _ a; have := h.pos i hi; omega
end
end
end Fr

namespace Fr
open Calm (sm sm_cons sm_le sm_sub sm_add sm_single sm_nn sm_zero sm_pos sm_same sm_lt idx_inj)
section
variable {M : Mk} {x y z : Nat → Int} {t s u : Nat} {c : Int} {U D : Nat → Prop} {k m : Nat} {T S g : Nat → Nat}
end
end Fr

namespace Fr
open Calm (sm sm_cons sm_le sm_sub sm_add sm_single sm_nn sm_zero sm_pos sm_same sm_lt idx_inj sm_swap)
open Classical in
noncomputable def cnt (l : List Nat) (p : Nat → Prop) : Nat := (l.filter fun j => decide (p j)).length
section
variable {M : Mk} {S : Side} {n : Nat} {x y z : Nat → Int} {t s u : Nat} {c : Int} {U D : Nat → Prop}
def opn (M : Mk) (x : Nat → Int) (t : Nat) : Prop := x t < M.r t ∧ will M.P x t
noncomputable def pot (M : Mk) (a b : Nat) (x : Nat → Int) : Nat :=
  cnt (List.range M.n) (opn M x) + cnt (List.range M.n) (fun t => ¬ (¬ will M.P x t ∧ x t = 0)) + cnt (List.range b) (fun h => tot M.P x h < M.P.m h) + cnt (List.range a) (fun h => tot M.G x h < M.G.m h ∧ ∃ t, t < M.n ∧ M.G.of t = h ∧ opn M x t)
structure Good (M : Mk) (x : Nat → Int) : Prop where
  sh : Sh M x
  i1 : I1 M x
  i2 : I2 M x
structure Best (M : Mk) (y : Nat → Int) : Prop where
  stl : Stl M y
  i1 : I1 M y
  i2 : I2 M y
theorem Good.best (ok : M.Ok) (g : Good M x) (no : ∀ t, t < M.n → tot M.G x (M.G.of t) < M.G.m (M.G.of t) → closed M x t) : Best M x := by
  refine ⟨⟨g.sh, fun t ht lt wg wp => ?_⟩, g.i1, g.i2⟩
  rcases wg with q | q
  · exact no t ht q lt wp
  · exact g.i1 t ht lt q wp
theorem Best.first (ok : M.Ok) (b : Best M y) (sz : Stl M z) (ht : t < M.n) (eq : ∀ s, aft M.G s t → s < M.n → z s = y s) : z t ≤ y t := by
  apply Classical.byContradiction
  intro q
  have lt : y t < M.r t := by have := sz.sh.hi t ht; omega
  have sy := b.stl.sh
  have wp : will M.P y t := by
    apply Classical.byContradiction
    intro q2
    have := b.i2 z sz t ht q2
    omega
  have wg : ¬ will M.G y t := fun w => b.stl.no t ht lt w wp
  obtain ⟨f, y0⟩ := not_will ok.g (sy.g _) sy.lo wg
  have := sm_gap (g := y) (g' := z) (ok.g.nd _) (ok.g.mem t ht) fun j hj => by
    obtain ⟨jn, je⟩ := ok.g.back _ _ hj
    rcases aft.tri ok.g jn ht je with a | a | a
    · rw [eq j a jn]; exact Int.le_refl _
    · rw [a]; omega
    · rw [y0 j a]; exact sz.sh.lo j
  have zg := sz.sh.g (M.G.of t)
  unfold tot at f zg
  omega
end
end Fr

namespace Fn
open PySem PySem.Spec PyProof.Rows L2 Uv
@[simp] theorem p_is_number {i : Int} : F_is_number [.int i] = some (.bool true) := by
  unfold F_is_number
  refine eq_of_wp (wp_runP rfl ?_)
  unfold X_is_number
  simp -implicitDefEqProofs
@[simp] theorem p_is_number_to {i m : Int} : F_is_number_to [.int i, .int m] = some (.bool (decide (0 ≤ i) && decide (i ≤ m))) := by
  unfold F_is_number_to
  refine eq_of_wp (wp_runP rfl ?_)
  unfold X_is_number_to
  simp -implicitDefEqProofs
@[simp] theorem p_is_tuple_of {ds : List PD} {a b : Int} : F_is_tuple_of [.tuple ds, .int a, .int b] = some (.bool (decide (a ≤ ds.length) && decide ((ds.length : Int) ≤ b))) := by
  unfold F_is_tuple_of
  refine eq_of_wp (wp_runP rfl ?_)
  unfold X_is_tuple_of
  simp -implicitDefEqProofs
def tside (s : Nat) (x : Tie) : Nat := if s = 0 then x.g else x.t
def atT (ts : List Tie) (s k : Nat) : List Nat := (ts.zipIdx.filter fun p => tside s p.1 == k).map (·.2)
structure OkTie (g t : Nat) (x : Tie) : Prop where
  g : x.g < g
  t : x.t < t
  r0 : 0 ≤ x.r
  r1 : x.r ≤ 1000000000000000
structure OkSeat (ts : List Tie) (s k : Nat) (x : Seat) : Prop where
  m0 : 0 ≤ x.much
  m1 : x.much ≤ 1000000000000000
  p : x.order.Perm (atT ts s k)
structure IsFair (F : Fair) : Prop where
  g : 1 ≤ F.givers.length ∧ F.givers.length ≤ 28
  t : 1 ≤ F.takers.length ∧ F.takers.length ≤ 28
  n : F.ties.length ≤ 36
  tie : ∀ x ∈ F.ties, OkTie F.givers.length F.takers.length x
  give : ∀ (k : Nat) (x : Seat), F.givers[k]? = some x → OkSeat F.ties 0 k x
  take : ∀ (k : Nat) (x : Seat), F.takers[k]? = some x → OkSeat F.ties 1 k x
theorem atT_sorted (ts : List Tie) (s k : Nat) : (atT ts s k).Pairwise (· < ·) := (zip_sorted ts 0 _).1
end Fn

namespace Fn
open PySem PySem.Spec PyProof.Rows L2 Uv
def doorP (W : Web) (s : Nat) : List (Road × Nat) := W.roads.zipIdx.filter fun p => (side s p.1).isNone
def doorsOf (W : Web) (s : Nat) : List Nat := (doorP W s).map (·.2)
def bigOf (W : Web) : Int := (W.roads.map (·.r)).sum + 1
def seatOf (W : Web) (s : Nat) (p : Road × Nat) : Nat := match side s p.1 with
  | none => W.gives.length + (doorsOf W s).idxOf p.2
  | some h => h
def roadTies (W : Web) : List Tie := W.roads.zipIdx.map fun p => ⟨seatOf W 0 p, seatOf W 1 p, p.1.r⟩
def houseTies (W : Web) : List Tie := (List.range W.gives.length).flatMap fun h => [⟨h, h, bigOf W⟩, ⟨h, h, bigOf W⟩]
def lyingOf (W : Web) (h : Nat) : Nat := W.roads.length + 2 * h
def doorSeats (W : Web) (s : Nat) : List Seat := (doorP W s).map fun p => ⟨p.1.r, [p.2]⟩
def giversOf (W : Web) : List Seat := (W.gives.zipIdx.map fun p => ⟨bigOf W, lyingOf W p.2 :: (p.1 ++ [lyingOf W p.2 + 1])⟩) ++ doorSeats W 0
def takersOf (W : Web) : List Seat := (W.takes.zipIdx.map fun p => ⟨bigOf W, (lyingOf W p.2 + 1) :: (p.1 ++ [lyingOf W p.2])⟩) ++ doorSeats W 1
def fairOf (W : Web) : Fair := ⟨roadTies W ++ houseTies W, giversOf W, takersOf W⟩
theorem doorP_mem {W : Web} {s : Nat} {p : Road × Nat} (h : p ∈ doorP W s) : ∃ hk : p.2 < W.roads.length, W.roads[p.2] = p.1 ∧ side s p.1 = none := by
  unfold doorP at h
  obtain ⟨h1, h2⟩ := List.mem_filter.mp h
  obtain ⟨x, i⟩ := p
  obtain ⟨h3, h4⟩ := List.mem_zipIdx' h1
  exact ⟨h3, h4.symm, by simpa using h2⟩
theorem doors_len {W : Web} {s : Nat} : (doorP W s).length ≤ W.roads.length := by
  unfold doorP
  exact Nat.le_trans (List.length_filter_le _ _) (by simp)
theorem give_len {W : Web} (hw : IsWeb W) {i : Nat} (hi : i < W.gives.length) : W.gives[i].length ≤ 20 := by
  rw [(hw.give i _ (List.getElem?_eq_getElem hi)).length_eq]
  unfold atR
  rw [List.length_map]
  exact Nat.le_trans (List.length_filter_le _ _) (by simpa using hw.count.2)
theorem take_len {W : Web} (hw : IsWeb W) {i : Nat} (hi : i < W.takes.length) : W.takes[i].length ≤ 20 := by
  rw [(hw.take i _ (List.getElem?_eq_getElem hi)).length_eq]
  unfold atR
  rw [List.length_map]
  exact Nat.le_trans (List.length_filter_le _ _) (by simpa using hw.count.2)
theorem house_len {W : Web} : (houseTies W).length = 2 * W.gives.length := by
  unfold houseTies
  generalize W.gives.length = n
  induction n with
  | zero => rfl
  | succ n ih => rw [List.range_succ, List.flatMap_append, List.length_append, ih]; simp; omega
end Fn

namespace Fn
open PySem PySem.Spec PyProof.Rows L2 Uv
theorem mem_atT {ts : List Tie} {s k j : Nat} : j ∈ atT ts s k ↔ ∃ x, ts[j]? = some x ∧ tside s x = k := by
  unfold atT
  constructor
  · intro h
    obtain ⟨⟨x, i⟩, h1, rfl⟩ := List.mem_map.mp h
    obtain ⟨h2, h3⟩ := List.mem_filter.mp h1
    exact ⟨x, List.mem_zipIdx_iff_getElem?.mp h2, by simpa using h3⟩
  · rintro ⟨x, h1, h2⟩
    exact List.mem_map.mpr ⟨(x, j), List.mem_filter.mpr ⟨List.mem_zipIdx_iff_getElem?.mpr h1, by simpa using h2⟩, rfl⟩
theorem mem_atR {rs : List Road} {s h j : Nat} : j ∈ atR rs s h ↔ ∃ x, rs[j]? = some x ∧ side s x = some h := by
  unfold atR
  constructor
  · intro h
    obtain ⟨⟨x, i⟩, h1, rfl⟩ := List.mem_map.mp h
    obtain ⟨h2, h3⟩ := List.mem_filter.mp h1
    exact ⟨x, List.mem_zipIdx_iff_getElem?.mp h2, by simpa using h3⟩
  · rintro ⟨x, h1, h2⟩
    exact List.mem_map.mpr ⟨(x, j), List.mem_filter.mpr ⟨List.mem_zipIdx_iff_getElem?.mpr h1, by simpa using h2⟩, rfl⟩
theorem mem_doors {W : Web} {s j : Nat} : j ∈ doorsOf W s ↔ ∃ x, W.roads[j]? = some x ∧ side s x = none := by
  unfold doorsOf doorP
  constructor
  · intro h
    obtain ⟨⟨x, i⟩, h1, rfl⟩ := List.mem_map.mp h
    obtain ⟨h2, h3⟩ := List.mem_filter.mp h1
    exact ⟨x, List.mem_zipIdx_iff_getElem?.mp h2, by simpa using h3⟩
  · rintro ⟨x, h1, h2⟩
    exact List.mem_map.mpr ⟨(x, j), List.mem_filter.mpr ⟨List.mem_zipIdx_iff_getElem?.mpr h1, by simp [h2]⟩, rfl⟩
theorem nodup_of_lt {l : List Nat} (h : l.Pairwise (· < ·)) : l.Nodup := h.imp fun h => by omega
theorem doors_sorted {W : Web} {s : Nat} : (doorsOf W s).Pairwise (· < ·) := (zip_sorted W.roads 0 _).1
theorem house_get {W : Web} {i : Nat} (h : i < 2 * W.gives.length) : (houseTies W)[i]? = some ⟨i / 2, i / 2, bigOf W⟩ := by
  unfold houseTies
  revert h
  generalize W.gives.length = n
  intro h
  have len : ∀ n : Nat, ((List.range n).flatMap fun h => [(⟨h, h, bigOf W⟩ : Tie), ⟨h, h, bigOf W⟩]).length = 2 * n := fun n => by
    induction n with
    | zero => rfl
    | succ n ih => rw [List.range_succ, List.flatMap_append, List.length_append, ih]; simp; omega
  induction n with
  | zero => omega
  | succ n ih =>
    rw [List.range_succ, List.flatMap_append]
    by_cases c : i < 2 * n
    · rw [List.getElem?_append_left (by rw [len]; exact c)]
      exact ih c
    · rw [List.getElem?_append_right (by rw [len]; omega), len]
      have : i = 2 * n ∨ i = 2 * n + 1 := by omega
      rcases this with rfl | rfl
      · simp
      · rw [show 2 * n + 1 - 2 * n = 1 by omega, show (2 * n + 1) / 2 = n by omega]
        simp
theorem tie_road {W : Web} {j : Nat} {x : Road} (h : W.roads[j]? = some x) : (fairOf W).ties[j]? = some ⟨seatOf W 0 (x, j), seatOf W 1 (x, j), x.r⟩ := by
  have hj : j < W.roads.length := (List.getElem?_eq_some_iff.mp h).1
  show (roadTies W ++ houseTies W)[j]? = _
  rw [List.getElem?_append_left (by unfold roadTies; simpa using hj)]
  unfold roadTies
  rw [List.getElem?_map, List.getElem?_zipIdx, h]
  simp
theorem tie_house {W : Web} {j : Nat} (h1 : W.roads.length ≤ j) (h2 : j < W.roads.length + 2 * W.gives.length) : (fairOf W).ties[j]? = some ⟨(j - W.roads.length) / 2, (j - W.roads.length) / 2, bigOf W⟩ := by
  have e : (roadTies W).length = W.roads.length := by unfold roadTies; simp
  show (roadTies W ++ houseTies W)[j]? = _
  rw [List.getElem?_append_right (by rw [e]; exact h1), e]
  exact house_get (by omega)
theorem ties_len {W : Web} : (fairOf W).ties.length = W.roads.length + 2 * W.gives.length := by
  show (roadTies W ++ houseTies W).length = _
  rw [List.length_append, house_len]
  unfold roadTies
  simp
theorem tside_seat {W : Web} {s : Nat} {p : Road × Nat} {r : Int} (hs : s < 2) : tside s ⟨seatOf W 0 p, seatOf W 1 p, r⟩ = seatOf W s p := by
  have : s = 0 ∨ s = 1 := by omega
  rcases this with rfl | rfl <;> rfl
theorem tside_same {s k : Nat} {r : Int} : tside s ⟨k, k, r⟩ = k := by unfold tside; split <;> rfl
theorem mem_ties {W : Web} {s k j : Nat} (hs : s < 2) : j ∈ atT (fairOf W).ties s k ↔ (∃ x, W.roads[j]? = some x ∧ seatOf W s (x, j) = k) ∨ (W.roads.length ≤ j ∧ j < W.roads.length + 2 * W.gives.length ∧ (j - W.roads.length) / 2 = k) := by
  rw [mem_atT]
  constructor
  · rintro ⟨x, h1, h2⟩
    have hj := (List.getElem?_eq_some_iff.mp h1).1
    rw [ties_len] at hj
    by_cases c : j < W.roads.length
    · rw [tie_road (List.getElem?_eq_getElem c)] at h1
      cases h1
      rw [tside_seat hs] at h2
      exact .inl ⟨_, List.getElem?_eq_getElem c, h2⟩
    · rw [tie_house (by omega) hj] at h1
      cases h1
      rw [tside_same] at h2
      exact .inr ⟨by omega, hj, h2⟩
  · rintro (⟨x, h1, h2⟩ | ⟨h1, h2, h3⟩)
    · exact ⟨_, tie_road h1, by rw [tside_seat hs]; exact h2⟩
    · exact ⟨_, tie_house h1 h2, by rw [tside_same]; exact h3⟩
theorem sum_le {l : List Int} {m : Int} (h : ∀ x ∈ l, x ≤ m) : l.sum ≤ l.length * m := by
  induction l with
  | nil => simp
  | cons x xs ih =>
    have h1 := h x (List.mem_cons_self ..)
    have h2 := ih fun y hy => h y (List.mem_cons_of_mem _ hy)
    rw [List.sum_cons, List.length_cons, Int.natCast_add, Int.add_mul]
    omega
theorem sum_nn {l : List Int} (h : ∀ x ∈ l, 0 ≤ x) : 0 ≤ l.sum := by
  induction l with
  | nil => simp
  | cons x xs ih =>
    have h1 := h x (List.mem_cons_self ..)
    have h2 := ih fun y hy => h y (List.mem_cons_of_mem _ hy)
    rw [List.sum_cons]
    omega
theorem big_ok {W : Web} (hw : IsWeb W) : 1 ≤ bigOf W ∧ bigOf W ≤ 20000000000001 := by
  have hc := hw.count
  have h1 : 0 ≤ (W.roads.map (·.r)).sum := sum_nn fun x hx => by
    obtain ⟨y, hy, rfl⟩ := List.mem_map.mp hx
    exact (hw.road y hy).2.2.2.1
  have h2 : (W.roads.map (·.r)).sum ≤ (W.roads.map (·.r)).length * 1000000000000 := sum_le fun x hx => by
    obtain ⟨y, hy, rfl⟩ := List.mem_map.mp hx
    exact (hw.road y hy).2.2.2.2
  rw [List.length_map] at h2
  unfold bigOf
  omega
theorem seat_perm {W : Web} (hw : IsWeb W) {s k : Nat} {l : List Nat} {a b : Nat} (hs : s < 2) (hk : k < W.gives.length) (hp : l.Perm (atR W.roads s k)) (hab : (a = lyingOf W k ∧ b = lyingOf W k + 1) ∨ (a = lyingOf W k + 1 ∧ b = lyingOf W k)) : (a :: (l ++ [b])).Perm (atT (fairOf W).ties s k) := by
  have ht := nodup_of_lt (atT_sorted (fairOf W).ties s k)
  have hl : ∀ j ∈ l, j < W.roads.length := fun j hj => atR_lt (hp.mem_iff.mp hj)
  have nl : l.Nodup := hp.nodup_iff.mpr (nodup_of_lt (atR_sorted _ _ _))
  unfold lyingOf at hab
  have na : (a :: (l ++ [b])).Nodup := by
    rw [List.nodup_cons, List.nodup_append]
    refine ⟨fun h => ?_, nl, by simp, fun x hx y hy => ?_⟩
    · rcases List.mem_append.mp h with h | h
      · have := hl a h; omega
      · have := List.mem_singleton.mp h; omega
    · have := hl x hx
      have := List.mem_singleton.mp hy
      omega
  refine (List.perm_ext_iff_of_nodup na ht).mpr fun j => ?_
  rw [mem_ties hs, List.mem_cons, List.mem_append, List.mem_singleton, hp.mem_iff, mem_atR]
  constructor
  · rintro (h | ⟨x, h1, h2⟩ | h)
    · right; omega
    · left; exact ⟨x, h1, by unfold seatOf; rw [show side s (x, j).1 = some k from h2]⟩
    · right; omega
  · rintro (⟨x, h1, h2⟩ | ⟨h1, h2, h3⟩)
    · right; left
      refine ⟨x, h1, ?_⟩
      unfold seatOf at h2
      cases e : side s (x, j).1 with
      | none => rw [e] at h2; simp at h2; omega
      | some g => rw [e] at h2; simp at h2; rw [← h2]
    · omega
theorem idx_of {l : List Nat} (nd : l.Nodup) {d : Nat} (h : d < l.length) : l.idxOf l[d] = d := by
  induction l generalizing d with
  | nil => simp at h
  | cons x xs ih =>
    rw [List.nodup_cons] at nd
    cases d with
    | zero => simp
    | succ d =>
      have h' : d < xs.length := by simpa using h
      have ne : x ≠ xs[d] := fun e => nd.1 (by rw [e]; exact List.getElem_mem h')
      rw [List.getElem_cons_succ, List.idxOf_cons]
      rw [ih nd.2 h', show (x == xs[d]) = false by simpa using ne]
      rfl
theorem door_perm {W : Web} (hw : IsWeb W) {s d : Nat} {p : Road × Nat} (hs : s < 2) (hd : (doorP W s)[d]? = some p) : [p.2].Perm (atT (fairOf W).ties s (W.gives.length + d)) := by
  have ht := nodup_of_lt (atT_sorted (fairOf W).ties s (W.gives.length + d))
  have nd : (doorsOf W s).Nodup := nodup_of_lt doors_sorted
  obtain ⟨hk, h1, h2⟩ := doorP_mem (List.mem_of_getElem? hd)
  have hl : d < (doorsOf W s).length := by unfold doorsOf; simpa using (List.getElem?_eq_some_iff.mp hd).1
  have hv : (doorsOf W s)[d] = p.2 := by
    have : (doorsOf W s)[d]? = some p.2 := by unfold doorsOf; rw [List.getElem?_map, hd]; rfl
    exact (List.getElem?_eq_some_iff.mp this).2
  refine (List.perm_ext_iff_of_nodup (by simp) ht).mpr fun j => ?_
  rw [mem_ties hs, List.mem_singleton]
  constructor
  · rintro rfl
    left
    refine ⟨p.1, by rw [List.getElem?_eq_getElem hk, h1], ?_⟩
    unfold seatOf
    rw [h2]
    show W.gives.length + (doorsOf W s).idxOf p.2 = _
    rw [← hv, idx_of nd hl]
  · rintro (⟨x, g1, g2⟩ | ⟨g1, g2, g3⟩)
    · unfold seatOf at g2
      cases e : side s (x, j).1 with
      | none =>
        rw [e] at g2
        have g3 : (doorsOf W s).idxOf j = d := by have : W.gives.length + (doorsOf W s).idxOf j = W.gives.length + d := g2; omega
        have hm : j ∈ doorsOf W s := mem_doors.mpr ⟨x, g1, e⟩
        have := List.getElem_idxOf (List.idxOf_lt_length_iff.mpr hm)
        rw [← this, ← hv]
        congr 1
      | some g =>
        rw [e] at g2
        have g2 : g = W.gives.length + d := g2
        have hx := hw.road x (List.mem_of_getElem? g1)
        have : g < W.gives.length := by
          have : s = 0 ∨ s = 1 := by omega
          rcases this with rfl | rfl
          · exact hx.2.1 g (by simpa [side] using e)
          · exact hx.2.2.1 g (by simpa [side] using e)
        omega
    · omega
theorem seat_lt {W : Web} (hw : IsWeb W) {s j : Nat} {x : Road} (hs : s < 2) (h : W.roads[j]? = some x) : seatOf W s (x, j) < W.gives.length + (doorP W s).length := by
  have hx := hw.road x (List.mem_of_getElem? h)
  unfold seatOf
  cases e : side s (x, j).1 with
  | none =>
    have hm : j ∈ doorsOf W s := mem_doors.mpr ⟨x, h, e⟩
    have := List.idxOf_lt_length_iff.mpr hm
    have e2 : (doorsOf W s).length = (doorP W s).length := by unfold doorsOf; simp
    show W.gives.length + (doorsOf W s).idxOf j < _
    omega
  | some g =>
    show g < _
    have : s = 0 ∨ s = 1 := by omega
    rcases this with rfl | rfl
    · have := hx.2.1 g (by simpa [side] using e); omega
    · have := hx.2.2.1 g (by simpa [side] using e); omega
theorem fair_ok {W : Web} (hw : IsWeb W) : IsFair (fairOf W) := by
  have hc := hw.count
  have hh := hw.houses
  have hm := hw.same
  have hb := big_ok hw
  have d0 := doors_len (W := W) (s := 0)
  have d1 := doors_len (W := W) (s := 1)
  have lg : (fairOf W).givers.length = W.gives.length + (doorP W 0).length := by show (giversOf W).length = _; unfold giversOf doorSeats; simp
  have lt : (fairOf W).takers.length = W.gives.length + (doorP W 1).length := by show (takersOf W).length = _; unfold takersOf doorSeats; simp [hm]
  refine ⟨by omega, by omega, by rw [ties_len]; omega, fun x hx => ?_, fun k x hk => ?_, fun k x hk => ?_⟩
  · obtain ⟨j, hj⟩ := List.getElem?_of_mem hx
    have hl := (List.getElem?_eq_some_iff.mp hj).1
    rw [ties_len] at hl
    rw [lg, lt]
    by_cases c : j < W.roads.length
    · have hr := List.getElem?_eq_getElem c
      rw [tie_road hr] at hj
      cases hj
      have ho := hw.road _ (List.mem_of_getElem? hr)
      exact ⟨seat_lt hw (by omega) hr, seat_lt hw (by omega) hr, ho.2.2.2.1, by have := ho.2.2.2.2; show W.roads[j].r ≤ _; omega⟩
    · rw [tie_house (by omega) hl] at hj
      cases hj
      exact ⟨by show (j - W.roads.length) / 2 < _; omega, by show (j - W.roads.length) / 2 < _; omega, by show 0 ≤ bigOf W; omega, by show bigOf W ≤ _; omega⟩
  · have hk : (giversOf W)[k]? = some x := hk
    unfold giversOf at hk
    by_cases c : k < W.gives.length
    · rw [List.getElem?_append_left (by simpa using c), List.getElem?_map, List.getElem?_zipIdx, List.getElem?_eq_getElem c] at hk
      simp at hk
      subst hk
      exact ⟨by show 0 ≤ bigOf W; omega, by show bigOf W ≤ _; omega, seat_perm hw (by omega) c (hw.give k _ (List.getElem?_eq_getElem c)) (.inl ⟨rfl, rfl⟩)⟩
    · rw [List.getElem?_append_right (by simp; omega)] at hk
      simp only [List.length_map, List.length_zipIdx] at hk
      unfold doorSeats at hk
      rw [List.getElem?_map] at hk
      cases e : (doorP W 0)[k - W.gives.length]? with
      | none => rw [e] at hk; cases hk
      | some p =>
        rw [e] at hk
        cases hk
        obtain ⟨g1, g2, g3⟩ := doorP_mem (List.mem_of_getElem? e)
        have ho := hw.road _ (List.getElem_mem g1)
        rw [g2] at ho
        have pp := door_perm hw (by omega) e
        rw [show W.gives.length + (k - W.gives.length) = k by omega] at pp
        exact ⟨ho.2.2.2.1, by have := ho.2.2.2.2; show p.1.r ≤ _; omega, pp⟩
  · have hk : (takersOf W)[k]? = some x := hk
    unfold takersOf at hk
    by_cases c : k < W.takes.length
    · rw [List.getElem?_append_left (by simpa using c), List.getElem?_map, List.getElem?_zipIdx, List.getElem?_eq_getElem c] at hk
      simp at hk
      subst hk
      exact ⟨by show 0 ≤ bigOf W; omega, by show bigOf W ≤ _; omega, seat_perm hw (by omega) (by omega) (hw.take k _ (List.getElem?_eq_getElem c)) (.inr ⟨rfl, rfl⟩)⟩
    · rw [List.getElem?_append_right (by simp; omega)] at hk
      simp only [List.length_map, List.length_zipIdx] at hk
      unfold doorSeats at hk
      rw [List.getElem?_map] at hk
      cases e : (doorP W 1)[k - W.takes.length]? with
      | none => rw [e] at hk; cases hk
      | some p =>
        rw [e] at hk
        cases hk
        obtain ⟨g1, g2, g3⟩ := doorP_mem (List.mem_of_getElem? e)
        have ho := hw.road _ (List.getElem_mem g1)
        rw [g2] at ho
        have pp := door_perm hw (by omega) e
        rw [show W.gives.length + (k - W.takes.length) = k by omega] at pp
        exact ⟨ho.2.2.2.1, by have := ho.2.2.2.2; show p.1.r ≤ _; omega, pp⟩
end Fn

namespace Fn
open PySem PySem.Spec PyProof.Rows L2 Uv
theorem sho_end {k : Nat} {o : Option Nat} {n : Nat} (h : ∀ j, o = some j → j < n) (hn : n ≤ 1000) : Sho k 41 (endD o) := by
  cases o with
  | none => exact Sho.non.mono (Nat.le_refl _) (by decide)
  | some j => have := h j rfl; exact Sho.nat (by omega)
theorem sho_room {k : Nat} {r : Int} (h0 : 0 ≤ r) (h1 : r ≤ 1000000000000000) : Sho k 41 (.int r) := Sho.int (by omega)
theorem sho_road {k n : Nat} {x : Road} (h : OkRoad n x) (hn : n ≤ 1000) : Sho (k + 1) 132 (roadD x) := by
  refine Sho.tup (k := k) (n := 41) (L := 3) (fun d hd => ?_) (by simp)
  simp only [List.mem_cons, List.not_mem_nil, or_false] at hd
  rcases hd with rfl | rfl | rfl
  · exact sho_end h.2.1 hn
  · exact sho_end h.2.2.1 hn
  · exact sho_room h.2.2.2.1 (by have := h.2.2.2.2; omega)
theorem sho_orders {k : Nat} {os : List (List Nat)} (h1 : os.length ≤ 8) (h2 : ∀ l ∈ os, l.length ≤ 20 ∧ ∀ j ∈ l, j < 1000) : Sho (k + 2) 6923 (.tuple (os.map natsD)) := by
  refine Sho.tup (k := k + 1) (n := 863) (L := 8) (fun d hd => ?_) (by simpa using h1)
  obtain ⟨l, hl, rfl⟩ := List.mem_map.mp hd
  exact Sho.nats (L := 20) (fun j hj => Nat.lt_trans ((h2 l hl).2 j hj) (by decide)) (h2 l hl).1
theorem sho_web {W : Web} (hw : IsWeb W) : Sho 60 10000000 (webD W) := by
  have hc := hw.count
  have hh := hw.houses
  have hm := hw.same
  refine (Sho.tup (k := 2) (n := 6923) (L := 3) (fun d hd => ?_) (by simp)).mono (by decide) (by decide)
  simp only [List.mem_cons, List.not_mem_nil, or_false] at hd
  rcases hd with rfl | rfl | rfl
  · refine (Sho.tup (k := 1) (n := 132) (L := 20) (fun d hd => ?_) (by simpa using hc.2)).mono (by decide) (by decide)
    obtain ⟨x, hx, rfl⟩ := List.mem_map.mp hd
    exact sho_road (hw.road x hx) (by omega)
  · refine sho_orders hh.2 fun l hl => ?_
    obtain ⟨k, hk⟩ := List.getElem?_of_mem hl
    obtain ⟨h1, h2⟩ := List.getElem?_eq_some_iff.mp hk
    exact ⟨by rw [← h2]; exact give_len hw h1, fun j hj => by have := atR_lt ((hw.give k l hk).mem_iff.mp hj); omega⟩
  · refine sho_orders (by omega) fun l hl => ?_
    obtain ⟨k, hk⟩ := List.getElem?_of_mem hl
    obtain ⟨h1, h2⟩ := List.getElem?_eq_some_iff.mp hk
    exact ⟨by rw [← h2]; exact take_len hw h1, fun j hj => by have := atR_lt ((hw.take k l hk).mem_iff.mp hj); omega⟩
end Fn

namespace Uv
open PySem PySem.Spec PyProof.Rows L2
def inO (l : List Nat) (o : Option Nat) : Bool := match o with
  | none => false
  | some h => l.contains h
theorem eqv_nat {a b : Nat} : PyData.eqv (natD a) (natD b) = (a == b) := by
  show ((a : Int) == (b : Int)) = _
  exact Bool.eq_iff_iff.mpr (by simp; omega)
theorem any_nat {l : List Nat} {h : Nat} : ((l.map natD).any fun z => PyData.eqv z (natD h)) = l.contains h := by
  induction l with
  | nil => rfl
  | cons x xs ih =>
    rw [List.map_cons, List.any_cons, ih, eqv_nat, List.contains_cons]
    congr 1
    exact Bool.eq_iff_iff.mpr (by simp; exact eq_comm)
theorem any_none {l : List Nat} : ((l.map natD).any fun z => PyData.eqv z .none) = false := by
  induction l with
  | nil => rfl
  | cons x xs ih => rw [List.map_cons, List.any_cons, ih]; rfl
theorem lay_end {k : Nat} {o : Option Nat} : Lay k (endD o) := by cases o; exact Lay.non; exact Lay.int
theorem any_end {l : List Nat} {o : Option Nat} : ((l.map natD).any fun z => PyData.eqv z (endD o)) = inO l o := by
  cases o with
  | none => exact any_none
  | some h => exact any_nat
theorem notin_end {l : List Nat} {o : Option Nat} : notinP (endD o) (natsD l) = some (.bool (!inO l o)) := by
  unfold notinP
  rw [if_pos ⟨lay_end.sh, (Lay.natsT (k := 59)).sh⟩]
  show some (PyData.bool _) = _
  rw [any_end]
theorem notin_nat {l : List Nat} {h : Nat} : notinP (natD h) (natsD l) = some (.bool (!l.contains h)) := notin_end (o := some h)
theorem cut_from {ds : List PD} {k : Nat} : cutD ds (some ((k : Int) + 1)) none = ds.drop (k + 1) := by
  unfold cutD
  rw [show (some ((k : Int) + 1)) = some (((k + 1 : Nat)) : Int) by simp, HT.sIx_nat, HT.sIx_none]
  by_cases c : k + 1 ≤ ds.length
  · rw [Nat.min_eq_left c, List.take_of_length_le (by simp)]
  · rw [Nat.min_eq_right (by omega), List.drop_eq_nil_of_le (Nat.le_refl _), List.drop_eq_nil_of_le (by omega)]
    simp
def rd (W : Web) (k : Nat) : Road := W.roads.getD k ⟨none, none, 0⟩
def giv (W : Web) (h : Nat) : List Nat := W.gives.getD h []
def tak (W : Web) (h : Nat) : List Nat := W.takes.getD h []
def at0 (f : List Int) (k : Nat) : Int := f.getD k 0
def lessB (f : List Int) (o : List Nat) (k : Nat) : Bool := (o.drop (o.idxOf k + 1)).any fun j => decide (0 < at0 f j)
def pushB (W : Web) (f : List Int) (lot : List Nat) (k : Nat) : Bool := match (rd W k).b with
  | none => true
  | some h => lot.contains h || lessB f (giv W h) k
def pullB (W : Web) (f : List Int) (lot : List Nat) (k : Nat) : Bool := match (rd W k).e with
  | none => true
  | some h => !lot.contains h || lessB f (tak W h) k
def openB (W : Web) (f : List Int) (k : Nat) : Bool := decide (at0 f k < (rd W k).r)
def calmB (W : Web) (f : List Int) (lot : List Nat) : Bool := (List.range W.roads.length).all fun k => !(openB W f k && pushB W f lot k && pullB W f lot k)
structure Bears (W : Web) (f : List Int) : Prop where
  len : f.length = W.roads.length
  nn : ∀ x ∈ f, 0 ≤ x
structure IsLot (n : Nat) (l : List Nat) : Prop where
  up : l.Pairwise (· < ·)
  lt : ∀ x ∈ l, x < n
theorem rd_eq {W : Web} {k : Nat} (h : k < W.roads.length) : rd W k = W.roads[k] := by simp [rd, h]
theorem giv_eq {W : Web} {k : Nat} (h : k < W.gives.length) : giv W k = W.gives[k] := by simp [giv, h]
theorem tak_eq {W : Web} {k : Nat} (h : k < W.takes.length) : tak W k = W.takes[k] := by simp [tak, h]
theorem at0_eq {f : List Int} {k : Nat} (h : k < f.length) : at0 f k = f[k] := by simp [at0, h]
theorem atI_road {W : Web} {k : Nat} (h : k < W.roads.length) : atI (W.roads.map roadD) (k : Int) = some (roadD (rd W k)) := by rw [atI_map h, rd_eq h]
section
variable {W : Web} {f : List Int}
theorem IsWeb.rd (hw : IsWeb W) {k : Nat} (h : k < W.roads.length) : OkRoad W.gives.length (rd W k) := by rw [rd_eq h]; exact hw.road _ (List.getElem_mem h)
theorem IsWeb.giv (hw : IsWeb W) {h : Nat} (hh : h < W.gives.length) : (giv W h).Perm (atR W.roads 0 h) := by rw [giv_eq hh]; exact hw.give h _ (List.getElem?_eq_getElem hh)
theorem IsWeb.tak (hw : IsWeb W) {h : Nat} (hh : h < W.gives.length) : (tak W h).Perm (atR W.roads 1 h) := by
  have hh' : h < W.takes.length := by rw [hw.same]; exact hh
  rw [tak_eq hh']; exact hw.take h _ (List.getElem?_eq_getElem hh')
theorem IsWeb.mem_giv (hw : IsWeb W) {h k : Nat} (hh : h < W.gives.length) : k ∈ Uv.giv W h ↔ k < W.roads.length ∧ (Uv.rd W k).b = some h := by
  rw [(hw.giv hh).mem_iff, Uv.mem_atR]
  constructor
  · rintro ⟨x, h1, h2⟩
    obtain ⟨h3, h4⟩ := List.getElem?_eq_some_iff.mp h1
    exact ⟨h3, by rw [rd_eq h3, h4]; exact h2⟩
  · rintro ⟨h1, h2⟩
    exact ⟨_, List.getElem?_eq_getElem h1, by rw [← rd_eq h1]; exact h2⟩
theorem IsWeb.mem_tak (hw : IsWeb W) {h k : Nat} (hh : h < W.gives.length) : k ∈ Uv.tak W h ↔ k < W.roads.length ∧ (Uv.rd W k).e = some h := by
  rw [(hw.tak hh).mem_iff, Uv.mem_atR]
  constructor
  · rintro ⟨x, h1, h2⟩
    obtain ⟨h3, h4⟩ := List.getElem?_eq_some_iff.mp h1
    exact ⟨h3, by rw [rd_eq h3, h4]; exact h2⟩
  · rintro ⟨h1, h2⟩
    exact ⟨_, List.getElem?_eq_getElem h1, by rw [← rd_eq h1]; exact h2⟩
theorem nodup_atR {rs : List Road} {s h : Nat} : (atR rs s h).Nodup := (atR_sorted rs s h).imp fun h => by omega
theorem IsWeb.nd_giv (hw : IsWeb W) {h : Nat} (hh : h < W.gives.length) : (Uv.giv W h).Nodup := (hw.giv hh).nodup_iff.mpr nodup_atR
theorem IsWeb.nd_tak (hw : IsWeb W) {h : Nat} (hh : h < W.gives.length) : (Uv.tak W h).Nodup := (hw.tak hh).nodup_iff.mpr nodup_atR
theorem Bears.at (hf : Bears W f) (k : Nat) : 0 ≤ at0 f k := by
  by_cases h : k < f.length
  · rw [at0_eq h]; exact hf.nn _ (List.getElem_mem h)
  · simp [at0, h]
theorem mem_after {l : List Nat} (nd : l.Nodup) {k j : Nat} : j ∈ l.drop (l.idxOf k + 1) ↔ j ∈ l ∧ l.idxOf k < l.idxOf j := by
  constructor
  · intro h
    have hm := List.mem_of_mem_drop h
    refine ⟨hm, ?_⟩
    obtain ⟨i, hi, e⟩ := List.mem_iff_getElem.mp h
    rw [List.getElem_drop] at e
    have hl : l.idxOf k + 1 + i < l.length := by simp at hi; omega
    have := Fn.idx_of nd hl
    rw [e] at this
    omega
  · rintro ⟨h1, h2⟩
    have hl := List.idxOf_lt_length_iff.mpr h1
    refine List.mem_iff_getElem.mpr ⟨l.idxOf j - (l.idxOf k + 1), by simp; omega, ?_⟩
    rw [List.getElem_drop]
    have e : l.idxOf k + 1 + (l.idxOf j - (l.idxOf k + 1)) = l.idxOf j := by omega
    simp only [e]
    exact List.getElem_idxOf hl
theorem lessB_iff {o : List Nat} (nd : o.Nodup) {k : Nat} : lessB f o k = true ↔ ∃ j ∈ o, o.idxOf k < o.idxOf j ∧ 0 < at0 f j := by
  unfold lessB
  rw [List.any_eq_true]
  constructor
  · rintro ⟨j, hj, h⟩
    obtain ⟨h1, h2⟩ := (mem_after nd).mp hj
    exact ⟨j, h1, h2, of_decide_eq_true h⟩
  · rintro ⟨j, h1, h2, h3⟩
    exact ⟨j, (mem_after nd).mpr ⟨h1, h2⟩, decide_eq_true h3⟩
end
end Uv

namespace Fn
open PySem PySem.Spec PyProof.Rows L2 Uv
section
variable {W : Web} {f : List Int} {lot : List Nat}
end
end Fn

namespace Fn
open PySem PySem.Spec PyProof.Rows L2 Uv
def tiF (F : Fair) (t : Nat) : Tie := F.ties.getD t ⟨0, 0, 0⟩
def gvF (F : Fair) (h : Nat) : Seat := F.givers.getD h ⟨0, []⟩
def tkF (F : Fair) (h : Nat) : Seat := F.takers.getD h ⟨0, []⟩
def mkF (F : Fair) : Fr.Mk := ⟨F.ties.length, fun t => (tiF F t).r, ⟨fun h => (gvF F h).much, fun h => (gvF F h).order, fun t => (tiF F t).g⟩, ⟨fun h => (tkF F h).much, fun h => (tkF F h).order, fun t => (tiF F t).t⟩⟩
section
variable {F : Fair} {X : List Int} {b : Bool} {k t h : Nat}
theorem tiF_eq (hk : t < F.ties.length) : tiF F t = F.ties[t] := by simp [tiF, hk]
theorem gvF_eq (hk : h < F.givers.length) : gvF F h = F.givers[h] := by simp [gvF, hk]
theorem tkF_eq (hk : h < F.takers.length) : tkF F h = F.takers[h] := by simp [tkF, hk]
theorem IsFair.ti (hF : IsFair F) (ht : t < F.ties.length) : OkTie F.givers.length F.takers.length (tiF F t) := by rw [tiF_eq ht]; exact hF.tie _ (List.getElem_mem ht)
theorem IsFair.gv (hF : IsFair F) (hh : h < F.givers.length) : OkSeat F.ties 0 h (gvF F h) := by rw [gvF_eq hh]; exact hF.give h _ (List.getElem?_eq_getElem hh)
theorem IsFair.tk (hF : IsFair F) (hh : h < F.takers.length) : OkSeat F.ties 1 h (tkF F h) := by rw [tkF_eq hh]; exact hF.take h _ (List.getElem?_eq_getElem hh)
theorem mem_at {s : Nat} (hs : s < 2) : t ∈ atT F.ties s h ↔ t < F.ties.length ∧ (if s = 0 then (tiF F t).g else (tiF F t).t) = h := by
  rw [mem_atT]
  constructor
  · rintro ⟨x, h1, h2⟩
    obtain ⟨h3, h4⟩ := List.getElem?_eq_some_iff.mp h1
    refine ⟨h3, ?_⟩
    rw [tiF_eq h3, h4]
    unfold tside at h2
    exact h2
  · rintro ⟨h1, h2⟩
    refine ⟨_, List.getElem?_eq_getElem h1, ?_⟩
    rw [tiF_eq h1] at h2
    unfold tside
    exact h2
theorem nodup_atT {s : Nat} : (atT F.ties s h).Nodup := (atT_sorted F.ties s h).imp fun h => by omega
theorem mk_ok (hF : IsFair F) : (mkF F).Ok := by
  refine ⟨⟨fun t ht => ?_, fun h t ht => ?_, fun h => ?_⟩, ⟨fun t ht => ?_, fun h t ht => ?_, fun h => ?_⟩⟩
  · have ht : t < F.ties.length := ht
    exact ((hF.gv (hF.ti ht).g).p.mem_iff).mpr ((mem_at (s := 0) (by omega)).mpr ⟨ht, rfl⟩)
  · have ht : t ∈ (gvF F h).order := ht
    by_cases c : h < F.givers.length
    · have := (mem_at (s := 0) (by omega)).mp ((hF.gv c).p.mem_iff.mp ht)
      exact this
    · simp [gvF, c] at ht
  · show (gvF F h).order.Nodup
    by_cases c : h < F.givers.length
    · exact (hF.gv c).p.nodup_iff.mpr nodup_atT
    · simp [gvF, c]
  · have ht : t < F.ties.length := ht
    exact ((hF.tk (hF.ti ht).t).p.mem_iff).mpr ((mem_at (s := 1) (by omega)).mpr ⟨ht, rfl⟩)
  · have ht : t ∈ (tkF F h).order := ht
    by_cases c : h < F.takers.length
    · have := (mem_at (s := 1) (by omega)).mp ((hF.tk c).p.mem_iff.mp ht)
      exact this
    · simp [tkF, c] at ht
  · show (tkF F h).order.Nodup
    by_cases c : h < F.takers.length
    · exact (hF.tk c).p.nodup_iff.mpr nodup_atT
    · simp [tkF, c]
theorem r_0 (hF : IsFair F) : 0 ≤ (tiF F t).r := by
  by_cases c : t < F.ties.length
  · exact (hF.ti c).r0
  · simp [tiF, c]
def spaS (s : Seat) (X : List Int) : Int := s.much - Calm.sm s.order (at0 X)
def willB (s : Seat) (X : List Int) (t : Nat) : Bool := decide (0 < spaS s X) || lessB X s.order t
structure Shr (F : Fair) (X : List Int) : Prop where
  len : X.length = F.ties.length
  nn : ∀ j, 0 ≤ at0 X j
def openL (F : Fair) (X : List Int) (t : Nat) : Bool := decide (at0 X t < (tiF F t).r) && willB (tkF F (tiF F t).t) X t
def wantL (F : Fair) (X : List Int) (h : Nat) : Option Nat := (gvF F h).order.find? (openL F X)
end
end Fn

namespace Uv
open PySem PySem.Spec PyProof.Rows L2
variable {ρ : Env}
@[simp] theorem q_wSl {a : XW} {lo hi : XWP} : wSl a lo hi ρ = (a ρ).bind fun x => (lo x.2).bind fun l => (hi l.2).bind fun u => (slP x.1 l.1 u.1).bind fun d => some (d, u.2) := (rfl)
@[simp] theorem q_wpNo : wpNo ρ = some (none, ρ) := (rfl)
@[simp] theorem q_wpPt {w : XW} : wpPt w ρ = (w ρ).bind fun x => (isI x.1).bind fun i => some (some i, x.2) := (rfl)
end Uv
namespace Fn
open PySem PySem.Spec PyProof.Rows L2 Uv
section
variable {F : Fair} {X : List Int} {b : Bool} {k t h : Nat}
def leastL (s : Seat) (X : List Int) : Option Nat := (s.order.filter fun j => decide (0 < at0 X j)).getLast?
structure WkF (F : Fair) (X : List Int) (g0 : Nat) (ps : List (Nat × Nat)) (gl : List Nat) (c : Nat) : Prop where
  len : gl.length = ps.length
  one : ∀ (j : Nat) (hj : j < ps.length), wantL F X (gl.getD j 0) = some ps[j].1
  two : ∀ (j : Nat) (hj : j < ps.length), ¬ 0 < spaS (tkF F (tiF F ps[j].1).t) X
  three : ∀ (j : Nat) (hj : j < ps.length), leastL (tkF F (tiF F ps[j].1).t) X = some ps[j].2
  four : ∀ (j : Nat) (hj : j < ps.length), (tiF F ps[j].2).g = (gl ++ [c]).getD (j + 1) 0
  nd : gl.Nodup
  lt : ∀ h ∈ gl ++ [c], h < F.givers.length
  st : (gl ++ [c]).getD 0 0 = g0
theorem WkF.step {g0 c t s : Nat} {ps : List (Nat × Nat)} {gl : List Nat} (w : WkF F X g0 ps gl c) (nc : c ∉ gl) (h1 : wantL F X c = some t) (h2 : ¬ 0 < spaS (tkF F (tiF F t).t) X) (h3 : leastL (tkF F (tiF F t).t) X = some s) (h4 : (tiF F s).g < F.givers.length) : WkF F X g0 (ps ++ [(t, s)]) (gl ++ [c]) (tiF F s).g := by
  have len := w.len
  have old : ∀ {j : Nat}, j < ps.length → (gl ++ [c]).getD j 0 = gl.getD j 0 := fun {j} hj => by
    rw [List.getD_eq_getElem?_getD, List.getD_eq_getElem?_getD, List.getElem?_append_left (by omega)]
  have new : (gl ++ [c]).getD ps.length 0 = c := by
    rw [List.getD_eq_getElem?_getD, List.getElem?_append_right (by omega)]
    simp [len]
  have cs : ∀ (j : Nat) (hj : j < (ps ++ [(t, s)]).length), (∃ h : j < ps.length, (ps ++ [(t, s)])[j] = ps[j]) ∨ (j = ps.length ∧ (ps ++ [(t, s)])[j] = (t, s)) := fun j hj => by
    by_cases q : j < ps.length
    · exact .inl ⟨q, List.getElem_append_left q⟩
    · have : j = ps.length := by simp at hj; omega
      subst this
      exact .inr ⟨rfl, by simp⟩
  refine ⟨by simp [len], fun j hj => ?_, fun j hj => ?_, fun j hj => ?_, fun j hj => ?_, ?_, fun h hh => ?_, ?_⟩
  · rcases cs j hj with ⟨q, e⟩ | ⟨q, e⟩
    · rw [e, old q]; exact w.one j q
    · rw [e, q, new]; exact h1
  · rcases cs j hj with ⟨q, e⟩ | ⟨q, e⟩
    · rw [e]; exact w.two j q
    · rw [e]; exact h2
  · rcases cs j hj with ⟨q, e⟩ | ⟨q, e⟩
    · rw [e]; exact w.three j q
    · rw [e]; exact h3
  · rcases cs j hj with ⟨q, e⟩ | ⟨q, e⟩
    · rw [e, w.four j q]
      rw [List.getD_eq_getElem?_getD, List.getD_eq_getElem?_getD, List.getElem?_append_left (l₁ := gl ++ [c]) (by simp; omega)]
    · rw [e, q]
      rw [List.getD_eq_getElem?_getD, List.getElem?_append_right (by simp; omega)]
      simp [len]
  · refine List.nodup_append.mpr ⟨w.nd, by simp, fun a ha b hb e => nc ?_⟩
    rw [List.mem_singleton.mp hb] at e
    rw [← e]; exact ha
  · rcases List.mem_append.mp hh with z | z
    · exact w.lt h z
    · rw [List.mem_singleton.mp z]; exact h4
  · have := w.st
    rw [List.getD_eq_getElem?_getD] at this ⊢
    rw [List.getElem?_append_left (by simp)]
    exact this
end
end Fn

namespace Fn
open PySem PySem.Spec PyProof.Rows L2 Uv
section
variable {F : Fair} {X : List Int} {b : Bool} {k t h : Nat}
end
end Fn

namespace Fn
open PySem PySem.Spec PyProof.Rows L2 Uv
def addRF : List Int → List Nat → Int → List Int
  | X, [], _ => X
  | X, t :: R, c => addRF (X.set t (at0 X t + c)) R (-c)
def dl : List Nat → Int → Nat → Int
  | [], _, _ => 0
  | t :: R, c, u => (if t = u then c else 0) + dl R (-c) u
section
variable {F : Fair} {X : List Int} {b : Bool} {k t h : Nat} {R : List Nat} {c : Int}
end
end Fn

namespace Fn
open PySem PySem.Spec PyProof.Rows L2 Uv
section
variable {F : Fair} {X : List Int} {b : Bool} {k t h c0 : Nat} {R : List Nat} {c : Int} {ps : List (Nat × Nat)} {gl : List Nat}
structure RowQ (F : Fair) (X : List Int) (R : List Nat) (c : Int) : Prop where
  ne : R ≠ []
  lt : ∀ t ∈ R, t < F.ties.length
  len : R.length ≤ 60
  c1 : 1 ≤ c
  c2 : c ≤ 1000000000000000
  sh : Shr F (addRF X R c)
  good : Fr.Good (mkF F) (at0 (addRF X R c))
  pot : Fr.pot (mkF F) F.givers.length F.takers.length (at0 (addRF X R c)) < Fr.pot (mkF F) F.givers.length F.takers.length (at0 X)
  div : ∀ k : Int, (∀ t, t < F.ties.length → k ∣ (tiF F t).r) → (∀ h, k ∣ (gvF F h).much) → (∀ h, k ∣ (tkF F h).much) → (∀ t, k ∣ at0 X t) → ∀ t, k ∣ at0 (addRF X R c) t
end
end Fn

namespace Fn
open PySem PySem.Spec PyProof.Rows L2 Uv
section
variable {F : Fair} {X : List Int} {b : Bool} {k t h c0 : Nat} {R : List Nat} {c : Int} {ps : List (Nat × Nat)} {gl : List Nat}
end
end Fn

namespace Fn
open PySem PySem.Spec PyProof.Rows L2 Uv
section
variable {F : Fair} {X : List Int} {b : Bool} {k t h c0 : Nat} {R : List Nat} {c : Int} {ps : List (Nat × Nat)} {gl : List Nat}
end
end Fn

namespace Fn
open PySem PySem.Spec PyProof.Rows L2 Uv
section
variable {F : Fair} {X : List Int} {b : Bool} {k t h c0 : Nat} {R : List Nat} {c : Int}
inductive Led (F : Fair) : List Int → List (List Nat × Int) → List Int → Prop
  | done {X : List Int} : (∀ h, h < F.givers.length → 0 < spaS (gvF F h) X → wantL F X h = none) → Led F X [] X
  | row {X Y : List Int} {R : List Nat} {c : Int} {rs : List (List Nat × Int)} : RowQ F X R c → Led F (addRF X R c) rs Y → Led F X ((R, c) :: rs) Y
inductive LedTo (F : Fair) : List Int → List (List Nat × Int) → List Int → Prop
  | done {X : List Int} : LedTo F X [] X
  | row {X Y : List Int} {R : List Nat} {c : Int} {rs : List (List Nat × Int)} : LedTo F X rs Y → RowQ F Y R c → LedTo F X (rs ++ [(R, c)]) (addRF Y R c)
theorem LedTo.len {F : Fair} {X Y : List Int} {rs : List (List Nat × Int)} (a : LedTo F X rs Y) : rs.length + Fr.pot (mkF F) F.givers.length F.takers.length (at0 Y) ≤ Fr.pot (mkF F) F.givers.length F.takers.length (at0 X) := by
  induction a with
  | done => simp
  | row a1 r ih =>
    have := r.pot
    simp
    omega
theorem Led.len {F : Fair} {X Y : List Int} {rs : List (List Nat × Int)} (a : Led F X rs Y) : rs.length + Fr.pot (mkF F) F.givers.length F.takers.length (at0 Y) ≤ Fr.pot (mkF F) F.givers.length F.takers.length (at0 X) := by
  induction a with
  | done => simp
  | row r l ih =>
    have := r.pot
    simp
    omega
theorem Led.end {X Y : List Int} {rs : List (List Nat × Int)} (a : Led F X rs Y) : ∀ h, h < F.givers.length → 0 < spaS (gvF F h) Y → wantL F Y h = none := by
  induction a with
  | done h => exact h
  | row r l ih => exact ih
end
end Fn

namespace Fr
open Calm (sm sm_le sm_lt)
section
variable {M : Mk} {y z : Nat → Int} {h : Nat}
theorem Best.rowG (ok : M.Ok) (b : Best M y) (sz : Stl M z) (eq : tot M.G z h = tot M.G y h) (lt : tot M.G y h < M.G.m h) : ∀ t ∈ M.G.o h, y t = z t := fun t ht => by
  have le : ∀ t ∈ M.G.o h, z t ≤ y t := fun t ht => by
    obtain ⟨tn, te⟩ := ok.g.back _ _ ht
    by_cases r : y t < M.r t
    · refine b.i2 z sz t tn fun wp => b.stl.no t tn r (.inl (by rw [te]; exact lt)) wp
    · have := sz.sh.hi t tn; omega
  have := le t ht
  apply Classical.byContradiction
  intro q
  have := sm_lt (l := M.G.o h) (g := z) (f := y) le ht (by omega)
  unfold tot at eq
  omega
theorem Best.rowP (ok : M.Ok) (b : Best M y) (sz : Stl M z) (eq : tot M.P z h = tot M.P y h) (lt : tot M.P y h < M.P.m h) : ∀ t ∈ M.P.o h, y t = z t := fun t ht => by
  have le : ∀ t ∈ M.P.o h, y t ≤ z t := fun t ht => by
    obtain ⟨tn, te⟩ := ok.p.back _ _ ht
    apply Classical.byContradiction
    intro q
    exact claimA ok b.stl.sh b.i1 (b.i2 z sz) sz tn (by omega) (.inl (by rw [te, eq]; exact lt))
  have := le t ht
  apply Classical.byContradiction
  intro q
  have := sm_lt (l := M.P.o h) (g := y) (f := z) le ht (by omega)
  unfold tot at eq
  omega
end
end Fr

namespace Fr
open Calm (sm sm_cons sm_le sm_sub sm_add sm_single sm_nn sm_zero sm_pos sm_same sm_lt idx_inj sm_swap)
def flip (M : Mk) : Mk := ⟨M.n, M.r, M.P, M.G⟩
section
variable {M : Mk} {S : Side} {n a b : Nat} {x y z w : Nat → Int} {t s u h : Nat}
theorem Mk.Ok.flip (ok : M.Ok) : (flip M).Ok := ⟨ok.p, ok.g⟩
theorem Stl.flip (h : Stl M x) : Stl (flip M) x := ⟨⟨h.sh.lo, h.sh.hi, h.sh.p, h.sh.g⟩, fun t ht lt a b => h.no t ht lt b a⟩
theorem sum_sides (okS : S.Ok n) (lt : ∀ t, t < n → S.of t < a) (f : Nat → Int) : sm (List.range a) (fun h => tot S f h) = sm (List.range n) f := by
  have e1 : ∀ h, tot S f h = sm (List.range n) fun t => if S.of t = h then f t else 0 := fun h => by
    have p : (S.o h).Perm ((List.range n).filter fun t => decide (S.of t = h)) := by
      refine (List.perm_ext_iff_of_nodup (okS.nd h) (List.nodup_range.filter _)).mpr fun t => ?_
      rw [List.mem_filter, List.mem_range, decide_eq_true_iff]
      exact ⟨okS.back h t, fun ⟨q1, q2⟩ => by rw [← q2]; exact okS.mem t q1⟩
    unfold tot
    rw [Calm.sm_perm p, Calm.sm_filter]
    refine sm_same fun t _ => ?_
    by_cases q : S.of t = h <;> simp [q]
  have e2 : sm (List.range a) (fun h => tot S f h) = sm (List.range a) fun h => sm (List.range n) fun t => if S.of t = h then f t else 0 := sm_same fun h _ => e1 h
  rw [e2, sm_swap]
  refine sm_same fun t ht => ?_
  have tn := List.mem_range.mp ht
  have := sm_single (g := fun h => if S.of t = h then f t else 0) List.nodup_range (List.mem_range.mpr (lt t tn)) fun h _ hn => if_neg fun e => hn e.symm
  rw [this]
  exact if_pos rfl
def TA (M : Mk) (x y : Nat → Int) (t : Nat) : Prop := t < M.n ∧ x t < y t ∧ ¬ will M.G x t
def TD (M : Mk) (x y : Nat → Int) (t : Nat) : Prop := t < M.n ∧ y t < x t ∧ ¬ will M.P y t
theorem TA.nul (ok : M.Ok) (sx : Stl M x) (h : TA M x y t) : tot M.G x (M.G.of t) = M.G.m (M.G.of t) ∧ ∀ s, aft M.G t s → x s = 0 := not_will ok.g (sx.sh.g _) sx.sh.lo h.2.2
theorem TA.bef (ok : M.Ok) (sx : Stl M x) (h : TA M x y t) (hs : s < M.n) (e : M.G.of s = M.G.of t) (ps : 0 < x s) (ne : s ≠ t) : aft M.G s t := by
  rcases aft.tri ok.g hs h.1 e with q | q | q
  · exact q
  · exact absurd q ne
  · have := (h.nul ok sx).2 s q
    omega
theorem a_d (ok : M.Ok) (sx : Stl M x) (sy : Stl M y) (h : TA M x y t) (hs : s < M.n) (e : M.G.of s = M.G.of t) (lt : y s < x s) : TD M x y s := by
  have y0 := sy.sh.lo s
  have b := h.bef ok sx hs e (by omega) (fun q => by have := h.2.1; rw [q] at lt; omega)
  refine ⟨hs, lt, fun wp => sy.no s hs (by have := sx.sh.hi s hs; omega) (.inr ⟨t, b, ?_⟩) wp⟩
  have := sx.sh.lo t
  have := h.2.1
  omega
open Classical in
noncomputable def wa (M : Mk) (x y : Nat → Int) (t : Nat) : Int := if TA M x y t then y t - x t else 0
open Classical in
noncomputable def wd (M : Mk) (x y : Nat → Int) (t : Nat) : Int := if TD M x y t then x t - y t else 0
theorem wa_nn : 0 ≤ wa M x y t := by
  unfold wa
  by_cases q : TA M x y t
  · rw [if_pos q]; have := q.2.1; omega
  · rw [if_neg q]; exact Int.le_refl _
theorem wd_nn : 0 ≤ wd M x y t := by
  unfold wd
  by_cases q : TD M x y t
  · rw [if_pos q]; have := q.2.1; omega
  · rw [if_neg q]; exact Int.le_refl _
theorem wa_pos (q : TA M x y t) : 0 < wa M x y t := by unfold wa; rw [if_pos q]; have := q.2.1; omega
theorem wd_pos (q : TD M x y t) : 0 < wd M x y t := by unfold wd; rw [if_pos q]; have := q.2.1; omega
theorem wa_le (ok : M.Ok) (sx : Stl M x) (sy : Stl M y) (h : Nat) : tot M.G (wa M x y) h ≤ tot M.G (wd M x y) h ∧ ((∃ t, TA M x y t ∧ M.G.of t = h) → tot M.G (wd M x y) h ≤ tot M.G (wa M x y) h → tot M.G x h = tot M.G y h ∧ ∀ t, t < M.n → M.G.of t = h → x t < y t → TA M x y t) := by
  by_cases q : ∃ t, TA M x y t ∧ M.G.of t = h
  · obtain ⟨t, ta, th⟩ := q
    have le : ∀ j ∈ M.G.o h, x j - y j ≤ wd M x y j - wa M x y j := fun j hj => by
      obtain ⟨jn, je⟩ := ok.g.back _ _ hj
      have d0 := wd_nn (M := M) (x := x) (y := y) (t := j)
      have a0 := wa_nn (M := M) (x := x) (y := y) (t := j)
      by_cases l1 : y j < x j
      · have d := a_d ok sx sy ta jn (by rw [je, th]) l1
        have e1 : wd M x y j = x j - y j := by unfold wd; rw [if_pos d]
        have e2 : wa M x y j = 0 := by unfold wa; rw [if_neg fun z => by have := z.2.1; omega]
        omega
      · have : wa M x y j ≤ y j - x j := by
          unfold wa
          by_cases z : TA M x y j
          · rw [if_pos z]; exact Int.le_refl _
          · rw [if_neg z]; omega
        omega
    have s1 := sm_le le
    rw [sm_sub, sm_sub] at s1
    have f := (ta.nul ok sx).1
    have yg := sy.sh.g h
    rw [th] at f
    unfold tot at f yg ⊢
    refine ⟨by omega, fun _ ge => ⟨by omega, fun j jn je lt => ?_⟩⟩
    apply Classical.byContradiction
    intro na
    have := sm_lt le (by rw [← je]; exact ok.g.mem j jn) (by
      have e2 : wa M x y j = 0 := by unfold wa; rw [if_neg na]
      have d0 := wd_nn (M := M) (x := x) (y := y) (t := j)
      omega)
    rw [sm_sub, sm_sub] at this
    omega
  · refine ⟨?_, fun z => absurd z q⟩
    unfold tot
    refine sm_le fun j hj => ?_
    obtain ⟨jn, je⟩ := ok.g.back _ _ hj
    have e2 : wa M x y j = 0 := by unfold wa; rw [if_neg fun z => q ⟨j, z, je⟩]
    rw [e2]
    exact wd_nn
structure Two (M : Mk) (a b : Nat) (x y : Nat → Int) : Prop where
  ok : M.Ok
  ga : ∀ t, t < M.n → M.G.of t < a
  pb : ∀ t, t < M.n → M.P.of t < b
  sx : Stl M x
  sy : Stl M y
theorem Two.swap (T : Two M a b x y) : Two M a b y x := ⟨T.ok, T.ga, T.pb, T.sy, T.sx⟩
theorem Two.flip (T : Two M a b x y) : Two (flip M) b a x y := ⟨T.ok.flip, T.pb, T.ga, T.sx.flip, T.sy.flip⟩
theorem Two.even (T : Two M a b x y) (h : Nat) : tot M.G (wd M x y) h ≤ tot M.G (wa M x y) h := by
  have g := fun h => (wa_le T.ok T.sx T.sy h).1
  have p := fun h => (wa_le (M := Fr.flip M) T.ok.flip T.sy.flip T.sx.flip h).1
  have s1 := sum_sides T.ok.g T.ga (wa M x y)
  have s2 := sum_sides T.ok.g T.ga (wd M x y)
  have s3 := sum_sides T.ok.p T.pb (wa M x y)
  have s4 := sum_sides T.ok.p T.pb (wd M x y)
  have l2 : sm (List.range b) (fun h => tot M.P (wd M x y) h) ≤ sm (List.range b) (fun h => tot M.P (wa M x y) h) := sm_le fun h _ => p h
  by_cases q : h < a
  · apply Classical.byContradiction
    intro ne
    have := sm_lt (l := List.range a) (g := fun h => tot M.G (wa M x y) h) (f := fun h => tot M.G (wd M x y) h) (fun h _ => g h) (List.mem_range.mpr q) (by omega)
    omega
  · have e : ∀ f : Nat → Int, tot M.G f h = 0 := fun f => Calm.sm_nul fun t ht => by
      obtain ⟨tn, te⟩ := T.ok.g.back _ _ ht
      have := T.ga t tn
      omega
    rw [e, e]
    exact Int.le_refl _
def XB (M : Mk) (x y : Nat → Int) (h : Nat) : Prop := ∃ t, TA M x y t ∧ M.G.of t = h
theorem ex_pos {f : Nat → Int} {l : List Nat} (h : 0 < sm l f) : ∃ j ∈ l, 0 < f j := by
  obtain ⟨j, hj, lt⟩ := sm_ex (l := l) (g := fun _ => 0) (g' := f) (by rw [Calm.sm_nul fun _ _ => rfl]; exact h)
  exact ⟨j, hj, lt⟩
theorem pos_sm {f : Nat → Int} {l : List Nat} {t : Nat} (ht : t ∈ l) (h0 : ∀ j ∈ l, 0 ≤ f j) (h : 0 < f t) : 0 < sm l f := by
  have := sm_lt (l := l) (g := fun _ => 0) (f := f) h0 ht h
  rw [Calm.sm_nul fun _ _ => rfl] at this
  exact this
theorem Two.d_x (T : Two M a b x y) (d : TD M x y t) : XB M x y (M.G.of t) := by
  have e := T.even (M.G.of t)
  have : 0 < tot M.G (wd M x y) (M.G.of t) := pos_sm (T.ok.g.mem t d.1) (fun _ _ => wd_nn) (wd_pos d)
  obtain ⟨j, hj, lt⟩ := ex_pos (show 0 < sm (M.G.o (M.G.of t)) (wa M x y) by unfold tot at *; omega)
  obtain ⟨jn, je⟩ := T.ok.g.back _ _ hj
  refine ⟨j, ?_, je⟩
  apply Classical.byContradiction
  intro q
  unfold wa at lt
  rw [if_neg q] at lt
  omega
theorem Two.a_ex (T : Two M a b x y) (d : TA M x y t) : ∃ s, TD M x y s ∧ M.G.of s = M.G.of t := by
  have e := (wa_le T.ok T.sx T.sy (M.G.of t)).1
  have : 0 < tot M.G (wa M x y) (M.G.of t) := pos_sm (T.ok.g.mem t d.1) (fun _ _ => wa_nn) (wa_pos d)
  obtain ⟨j, hj, lt⟩ := ex_pos (show 0 < sm (M.G.o (M.G.of t)) (wd M x y) by unfold tot at *; omega)
  obtain ⟨jn, je⟩ := T.ok.g.back _ _ hj
  refine ⟨j, ?_, je⟩
  apply Classical.byContradiction
  intro q
  unfold wd at lt
  rw [if_neg q] at lt
  omega
theorem Two.xb (T : Two M a b x y) (q : XB M x y h) : tot M.G x h = tot M.G y h ∧ tot M.G x h = M.G.m h ∧ (∀ t, t < M.n → M.G.of t = h → x t < y t → TA M x y t) ∧ (∀ t, t < M.n → M.G.of t = h → y t < x t → TD M x y t) ∧ ∃ s, TD M x y s ∧ M.G.of s = h := by
  obtain ⟨e1, e2⟩ := (wa_le T.ok T.sx T.sy h).2 q (T.even h)
  obtain ⟨t, ta, th⟩ := q
  refine ⟨e1, by rw [← th]; exact (ta.nul T.ok T.sx).1, e2, fun s hs es lt => a_d T.ok T.sx T.sy ta hs (by rw [es, th]) lt, ?_⟩
  obtain ⟨s, h1, h2⟩ := T.a_ex ta
  exact ⟨s, h1, by rw [h2, th]⟩
theorem Two.not_both (T : Two M a b x y) (q : XB M x y h) (q2 : XB M y x h) : False := by
  obtain ⟨t, ta, th⟩ := q
  obtain ⟨s, sa, se⟩ := q2
  have t1 := ta.2.1
  have s1 := sa.2.1
  have x0 := T.sx.sh.lo t
  have y0 := T.sy.sh.lo s
  have ne : s ≠ t := fun e => by rw [e] at s1; omega
  have b1 := ta.bef T.ok T.sx sa.1 (by rw [se, th]) (by omega) ne
  have b2 := sa.bef T.ok T.sy ta.1 (by rw [se, th]) (by omega) (fun e => ne e.symm)
  exact b1.asym T.ok.g b2
theorem Two.either (T : Two M a b x y) (ht : t < M.n) (ne : x t ≠ y t) : XB M x y (M.G.of t) ∨ XB M y x (M.G.of t) := by
  by_cases lt : x t < y t
  · have r := T.sy.sh.hi t ht
    by_cases q : will M.G x t
    · exact .inr (T.swap.d_x ⟨ht, lt, fun wp => T.sx.no t ht (by omega) q wp⟩)
    · exact .inl ⟨t, ⟨ht, lt, q⟩, rfl⟩
  · have lt : y t < x t := by omega
    have r := T.sx.sh.hi t ht
    by_cases q : will M.G y t
    · exact .inl (T.d_x ⟨ht, lt, fun wp => T.sy.no t ht (by omega) q wp⟩)
    · exact .inr ⟨t, ⟨ht, lt, q⟩, rfl⟩
theorem Two.link (T : Two M a b x y) (ht : t < M.n) (ne : x t ≠ y t) (q : XB M x y (M.G.of t)) : XB (Fr.flip M) y x (M.P.of t) := by
  obtain ⟨_, _, h3, h4, _⟩ := T.xb q
  by_cases lt : x t < y t
  · exact T.flip.swap.d_x (t := t) (h3 t ht rfl lt)
  · exact ⟨t, h4 t ht rfl (by omega), rfl⟩
theorem Two.lead (T : Two M a b x y) (q : XB M x y (M.G.of t)) (ht : t < M.n) (eq : ∀ s, aft M.G s t → s < M.n → x s = y s) : y t ≤ x t := by
  obtain ⟨_, _, h3, _, s, sd, se⟩ := T.xb q
  apply Classical.byContradiction
  intro lt
  have ta := h3 t ht rfl (by omega)
  have y0 := T.sy.sh.lo s
  have s1 := sd.2.1
  have := eq s (ta.bef T.ok T.sx sd.1 se (by omega) fun e => by rw [e] at s1; omega) sd.1
  omega
theorem Two.mixed (T : Two M a b x y) (ht : t < M.n) (q : XB M x y (M.G.of t)) (e : x t = y t) (lt : x t < M.r t) (wg : will M.G x t) (wp : will M.P y t) : False := by
  have nw : ¬ will M.G y t := fun z => T.sy.no t ht (by omega) z wp
  obtain ⟨f, y0⟩ := not_will T.ok.g (T.sy.sh.g _) T.sy.sh.lo nw
  obtain ⟨h1, h2, h3, _, _⟩ := T.xb q
  rcases wg with z | ⟨r, ra, rp⟩
  · omega
  · obtain ⟨s, sa, se⟩ := q
    obtain ⟨_, x0⟩ := sa.nul T.ok T.sx
    have s1 := sa.2.1
    have sl := T.sx.sh.lo s
    have st : aft M.G s t := by
      rcases aft.tri T.ok.g sa.1 ht se with c | c | c
      · exact c
      · rw [c] at s1; omega
      · have := y0 s c; omega
    have := x0 r (st.trans T.ok.g ra)
    omega
structure Pick (M : Mk) (x y z : Nat → Int) (sel : Nat → Prop) : Prop where
  one : ∀ t, t < M.n → sel (M.G.of t) → z t = x t
  two : ∀ t, t < M.n → ¬ sel (M.G.of t) → z t = y t
  lo : ∀ t, 0 ≤ z t
  yes : ∀ h, XB M x y h → sel h
  no : ∀ h, XB M y x h → ¬ sel h
variable {sel : Nat → Prop}
theorem will_same (ok : S.Ok n) (h : ∀ j ∈ S.o (S.of t), x j = y j) (w : will S x t) : will S y t := by
  have e : tot S x (S.of t) = tot S y (S.of t) := sm_same h
  rcases w with q | ⟨s, sa, sp⟩
  · exact .inl (by omega)
  · exact .inr ⟨s, sa, by rw [← h s sa.1]; exact sp⟩
theorem Pick.rowG (T : Two M a b x y) (p : Pick M x y z sel) (h : Nat) : (¬ XB M y x h ∧ ∀ j ∈ M.G.o h, z j = x j) ∨ (¬ XB M x y h ∧ ∀ j ∈ M.G.o h, z j = y j) := by
  by_cases q : sel h
  · refine .inl ⟨fun z => p.no h z q, fun j hj => ?_⟩
    obtain ⟨jn, je⟩ := T.ok.g.back _ _ hj
    exact p.one j jn (by rw [je]; exact q)
  · refine .inr ⟨fun z => q (p.yes h z), fun j hj => ?_⟩
    obtain ⟨jn, je⟩ := T.ok.g.back _ _ hj
    exact p.two j jn (by rw [je]; exact q)
theorem Pick.rowP (T : Two M a b x y) (p : Pick M x y z sel) (h : Nat) : (¬ XB (Fr.flip M) x y h ∧ ∀ j ∈ M.P.o h, z j = x j) ∨ (¬ XB (Fr.flip M) y x h ∧ ∀ j ∈ M.P.o h, z j = y j) := by
  by_cases q : XB (Fr.flip M) x y h
  · refine .inr ⟨fun q2 => T.flip.not_both q q2, fun j hj => ?_⟩
    obtain ⟨jn, je⟩ := T.ok.p.back _ _ hj
    by_cases s : sel (M.G.of j)
    · rw [p.one j jn s]
      apply Classical.byContradiction
      intro ne
      rcases T.either jn ne with c | c
      · have := T.link jn ne c
        rw [je] at this
        exact T.flip.not_both q this
      · exact p.no _ c s
    · exact p.two j jn s
  · refine .inl ⟨q, fun j hj => ?_⟩
    obtain ⟨jn, je⟩ := T.ok.p.back _ _ hj
    by_cases s : sel (M.G.of j)
    · exact p.one j jn s
    · rw [p.two j jn s]
      apply Classical.byContradiction
      intro ne
      have ne' : x j ≠ y j := fun e => ne e.symm
      rcases T.either jn ne' with c | c
      · exact s (p.yes _ c)
      · have := T.swap.link jn ne c
        rw [je] at this
        exact q this
theorem Pick.stl (T : Two M a b x y) (p : Pick M x y z sel) : Stl M z := by
  refine ⟨⟨p.lo, fun t ht => ?_, fun h => ?_, fun h => ?_⟩, fun t ht lt wg wp => ?_⟩
  · by_cases q : sel (M.G.of t)
    · rw [p.one t ht q]; exact T.sx.sh.hi t ht
    · rw [p.two t ht q]; exact T.sy.sh.hi t ht
  · rcases p.rowG T h with ⟨_, e⟩ | ⟨_, e⟩
    · have : tot M.G z h = tot M.G x h := sm_same e
      rw [this]; exact T.sx.sh.g h
    · have : tot M.G z h = tot M.G y h := sm_same e
      rw [this]; exact T.sy.sh.g h
  · rcases p.rowP T h with ⟨_, e⟩ | ⟨_, e⟩
    · have : tot M.P z h = tot M.P x h := sm_same e
      rw [this]; exact T.sx.sh.p h
    · have : tot M.P z h = tot M.P y h := sm_same e
      rw [this]; exact T.sy.sh.p h
  · have mg := T.ok.g.mem t ht
    have mp := T.ok.p.mem t ht
    rcases p.rowG T (M.G.of t) with ⟨g1, g2⟩ | ⟨g1, g2⟩ <;> rcases p.rowP T (M.P.of t) with ⟨p1, p2⟩ | ⟨p1, p2⟩
    · exact T.sx.no t ht (by rw [← g2 t mg]; exact lt) (will_same T.ok.g g2 wg) (will_same T.ok.p p2 wp)
    · have e : x t = y t := by rw [← g2 t mg, p2 t mp]
      by_cases q : XB M x y (M.G.of t)
      · exact T.mixed ht q e (by rw [← g2 t mg]; exact lt) (will_same T.ok.g g2 wg) (will_same T.ok.p p2 wp)
      · have same : ∀ j ∈ M.G.o (M.G.of t), z j = y j := fun j hj => by
          obtain ⟨jn, je⟩ := T.ok.g.back _ _ hj
          rw [g2 j hj]
          apply Classical.byContradiction
          intro ne
          have := T.either jn ne
          rw [je] at this
          exact this.elim q g1
        exact T.sy.no t ht (by rw [← same t mg]; exact lt) (will_same T.ok.g same wg) (will_same T.ok.p p2 wp)
    · have e : y t = x t := by rw [← g2 t mg, p2 t mp]
      by_cases q : XB M y x (M.G.of t)
      · exact T.swap.mixed ht q e (by rw [← g2 t mg]; exact lt) (will_same T.ok.g g2 wg) (will_same T.ok.p p2 wp)
      · have same : ∀ j ∈ M.G.o (M.G.of t), z j = x j := fun j hj => by
          obtain ⟨jn, je⟩ := T.ok.g.back _ _ hj
          rw [g2 j hj]
          apply Classical.byContradiction
          intro ne
          have := T.either jn (fun e => ne e.symm)
          rw [je] at this
          exact this.elim g1 q
        exact T.sx.no t ht (by rw [← same t mg]; exact lt) (will_same T.ok.g same wg) (will_same T.ok.p p2 wp)
    · exact T.sy.no t ht (by rw [← g2 t mg]; exact lt) (will_same T.ok.g g2 wg) (will_same T.ok.p p2 wp)
theorem Pick.first (T : Two M a b x y) (p : Pick M x y z sel) (ht : t < M.n) : ((∀ s, aft M.G s t → s < M.n → x s = z s) → x t ≤ z t) ∧ ((∀ s, aft M.G s t → s < M.n → y s = z s) → y t ≤ z t) := by
  have mg := T.ok.g.mem t ht
  rcases p.rowG T (M.G.of t) with ⟨g1, g2⟩ | ⟨g1, g2⟩
  · refine ⟨fun _ => by rw [g2 t mg]; exact Int.le_refl _, fun eq => ?_⟩
    rw [g2 t mg]
    by_cases e : x t = y t
    · rw [e]; exact Int.le_refl _
    · exact T.lead ((T.either ht e).resolve_right g1) ht fun s sa sn => by rw [eq s sa sn, g2 s ((sa.lt T.ok.g).2 ▸ T.ok.g.mem s sn)]
  · refine ⟨fun eq => ?_, fun _ => by rw [g2 t mg]; exact Int.le_refl _⟩
    rw [g2 t mg]
    by_cases e : x t = y t
    · rw [e]; exact Int.le_refl _
    · exact T.swap.lead ((T.either ht e).resolve_left g1) ht fun s sa sn => by rw [eq s sa sn, g2 s ((sa.lt T.ok.g).2 ▸ T.ok.g.mem s sn)]
theorem Pick.other (T : Two M a b x y) (p : Pick M x y z sel) (e : ∀ t, t < M.n → w t = x t + y t - z t) (lo : ∀ t, 0 ≤ w t) : Pick (Fr.flip M) x y w (XB (Fr.flip M) x y) := by
  refine ⟨fun t ht q => ?_, fun t ht q => ?_, lo, fun h q => q, fun h q q2 => T.flip.not_both q2 q⟩
  · rw [e t ht]
    have mp := T.ok.p.mem t ht
    rcases p.rowP T (M.P.of t) with ⟨g1, g2⟩ | ⟨g1, g2⟩
    · exact absurd q g1
    · rw [g2 t mp]; omega
  · rw [e t ht]
    have mp := T.ok.p.mem t ht
    rcases p.rowP T (M.P.of t) with ⟨g1, g2⟩ | ⟨g1, g2⟩
    · rw [g2 t mp]; omega
    · rw [g2 t mp]
      have : x t = y t := by
        apply Classical.byContradiction
        intro ne
        exact (T.flip.either ht ne).elim q g1
      omega
end
end Fr

namespace Fr
open Calm (sm sm_cons sm_le sm_sub sm_add sm_single sm_nn sm_zero sm_pos sm_same sm_lt idx_inj)
def Top (M : Mk) (y : Nat → Int) : Prop := Stl M y ∧ ∀ z, Stl M z → ∀ t, t < M.n → (∀ s, aft M.G s t → s < M.n → z s = y s) → z t ≤ y t
section
variable {M M1 M' : Mk} {S S' : Side} {n n' : Nat} {x y z x' : Nat → Int} {t s u h : Nat} {φ : Nat → Nat}
theorem Best.top (ok : M.Ok) (b : Best M y) : Top M y := ⟨b.stl, fun z sz t ht eq => b.first ok sz ht eq⟩
theorem Top.eq (ok : M.Ok) (a : Top M y) (b : Top M z) : ∀ t, t < M.n → y t = z t := by
  have main : ∀ k t, (M.G.o (M.G.of t)).idxOf t < k → t < M.n → y t = z t := by
    intro k
    induction k with
    | zero => intro t h; omega
    | succ k ih =>
      intro t hk ht
      have pr : ∀ s, aft M.G s t → s < M.n → y s = z s := fun s sa sn => ih s (by
        have e := (sa.lt ok.g).2
        have := sa.2
        rw [e] at hk
        omega) sn
      have h1 := a.2 z b.1 t ht fun s sa sn => (pr s sa sn).symm
      have h2 := b.2 y a.1 t ht pr
      omega
  exact fun t ht => main _ t (Nat.lt_succ_self _) ht
theorem idxOf_map {l : List Nat} {a : Nat} (h : ∀ b ∈ l, φ b = φ a → b = a) : (l.map φ).idxOf (φ a) = l.idxOf a := by
  induction l with
  | nil => rfl
  | cons b l ih =>
    rw [List.map_cons, List.idxOf_cons, List.idxOf_cons]
    by_cases c : b = a
    · rw [c]; simp
    · have c2 : φ b ≠ φ a := fun e => c (h b (List.mem_cons_self ..) e)
      rw [beq_eq_false_iff_ne.mpr c, beq_eq_false_iff_ne.mpr c2, ih fun b hb => h b (List.mem_cons_of_mem _ hb)]
theorem sm_mapF {l : List Nat} {f : Nat → Int} : sm (l.map φ) f = sm l fun t => f (φ t) := by
  induction l with
  | nil => rfl
  | cons a l ih => rw [List.map_cons, sm_cons, sm_cons, ih]
structure EmbS (n : Nat) (S S' : Side) (φ : Nat → Nat) : Prop where
  o : ∀ t, t < n → S'.o (S'.of (φ t)) = (S.o (S.of t)).map φ
  m : ∀ t, t < n → S'.m (S'.of (φ t)) = S.m (S.of t)
structure Emb (M M' : Mk) (φ : Nat → Nat) : Prop where
  lt : ∀ t, t < M.n → φ t < M'.n
  inj : ∀ t s, t < M.n → s < M.n → φ t = φ s → t = s
  r : ∀ t, t < M.n → M.r t = M'.r (φ t)
  g : EmbS M.n M.G M'.G φ
  p : EmbS M.n M.P M'.P φ
theorem EmbS.tot (e : EmbS n S S' φ) (ht : t < n) : tot S' x (S'.of (φ t)) = tot S (fun s => x (φ s)) (S.of t) := by
  unfold Fr.tot
  rw [e.o t ht, sm_mapF]
theorem EmbS.aft (ok : S.Ok n) (inj : ∀ t s, t < n → s < n → φ t = φ s → t = s) (e : EmbS n S S' φ) (ht : t < n) (hs : s < n) : Fr.aft S' (φ t) (φ s) ↔ Fr.aft S t s := by
  unfold Fr.aft
  rw [e.o t ht]
  have i1 := idxOf_map (φ := φ) (l := S.o (S.of t)) (a := t) fun b hb h => inj b t (ok.back _ _ hb).1 ht h
  have i2 := idxOf_map (φ := φ) (l := S.o (S.of t)) (a := s) fun b hb h => inj b s (ok.back _ _ hb).1 hs h
  rw [i1, i2]
  have mm : φ s ∈ (S.o (S.of t)).map φ ↔ s ∈ S.o (S.of t) := by
    constructor
    · intro h
      obtain ⟨b, hb, eb⟩ := List.mem_map.mp h
      have := inj b s (ok.back _ _ hb).1 hs eb
      rw [← this]; exact hb
    · exact List.mem_map_of_mem
  rw [mm]
theorem EmbS.will (ok : S.Ok n) (inj : ∀ t s, t < n → s < n → φ t = φ s → t = s) (e : EmbS n S S' φ) (ht : t < n) : will S' x (φ t) ↔ will S (fun s => x (φ s)) t := by
  unfold Fr.will
  rw [e.tot ht, e.m t ht]
  have : less S' x (φ t) ↔ less S (fun s => x (φ s)) t := by
    constructor
    · rintro ⟨s', sa, sp⟩
      have hm := sa.1
      rw [e.o t ht] at hm
      obtain ⟨s, hs, rfl⟩ := List.mem_map.mp hm
      exact ⟨s, (e.aft ok inj ht (ok.back _ _ hs).1).mp sa, sp⟩
    · rintro ⟨s, sa, sp⟩
      exact ⟨φ s, (e.aft ok inj ht (sa.lt ok).1).mpr sa, sp⟩
  rw [this]
theorem tot_none (h0 : ∀ t ∈ S.o h, False) : tot S x h = 0 := Calm.sm_nul fun t ht => (h0 t ht).elim
theorem Emb.stl (ok : M.Ok) (e : Emb M M' φ) (mg : ∀ h, 0 ≤ M.G.m h) (mp : ∀ h, 0 ≤ M.P.m h) (sx : Stl M' x) : Stl M fun t => x (φ t) := by
  refine ⟨⟨fun t => sx.sh.lo _, fun t ht => ?_, fun h => ?_, fun h => ?_⟩, fun t ht lt wg wp => ?_⟩
  · rw [e.r t ht]; exact sx.sh.hi _ (e.lt t ht)
  · by_cases q : ∃ t, t ∈ M.G.o h
    · obtain ⟨t, ht⟩ := q
      obtain ⟨tn, te⟩ := ok.g.back _ _ ht
      have := sx.sh.g (M'.G.of (φ t))
      rw [e.g.tot tn, e.g.m t tn, te] at this
      exact this
    · rw [tot_none fun t ht => q ⟨t, ht⟩]; exact mg h
  · by_cases q : ∃ t, t ∈ M.P.o h
    · obtain ⟨t, ht⟩ := q
      obtain ⟨tn, te⟩ := ok.p.back _ _ ht
      have := sx.sh.p (M'.P.of (φ t))
      rw [e.p.tot tn, e.p.m t tn, te] at this
      exact this
    · rw [tot_none fun t ht => q ⟨t, ht⟩]; exact mp h
  · rw [e.r t ht] at lt
    exact sx.no _ (e.lt t ht) lt ((e.g.will ok.g e.inj ht).mpr wg) ((e.p.will ok.p e.inj ht).mpr wp)
theorem tot_same (okS : S.Ok n) (h : ∀ t, t < n → x t = y t) (k : Nat) : tot S x k = tot S y k := sm_same fun t ht => h t (okS.back _ _ ht).1
theorem will_congr (okS : S.Ok n) (h : ∀ t, t < n → x t = y t) : will S x t → will S y t := by
  intro w
  rcases w with q | ⟨s, sa, sp⟩
  · exact .inl (by rw [← tot_same okS h]; exact q)
  · exact .inr ⟨s, sa, by rw [← h s (sa.lt okS).1]; exact sp⟩
theorem Stl.congr (ok : M.Ok) (h : ∀ t, t < M.n → x t = y t) (lo : ∀ t, 0 ≤ y t) (sx : Stl M x) : Stl M y := by
  refine ⟨⟨lo, fun t ht => by rw [← h t ht]; exact sx.sh.hi t ht, fun k => by rw [← tot_same ok.g h]; exact sx.sh.g k, fun k => by rw [← tot_same ok.p h]; exact sx.sh.p k⟩, fun t ht lt wg wp => ?_⟩
  exact sx.no t ht (by rw [h t ht]; exact lt) (will_congr ok.g (fun t ht => (h t ht).symm) wg) (will_congr ok.p (fun t ht => (h t ht).symm) wp)
theorem Top.congr (ok : M.Ok) (h : ∀ t, t < M.n → x t = y t) (lo : ∀ t, 0 ≤ y t) (tx : Top M x) : Top M y := by
  refine ⟨tx.1.congr ok h lo, fun z sz t ht eq => ?_⟩
  rw [← h t ht]
  exact tx.2 z sz t ht fun s sa sn => by rw [h s sn]; exact eq s sa sn
end
end Fr

namespace Fr
open Calm (sm sm_cons sm_le sm_sub sm_add sm_single sm_nn sm_zero sm_pos sm_same sm_lt idx_inj)
structure House (M : Mk) (g p a b : Nat) (big : Int) : Prop where
  an : a < M.n
  bn : b < M.n
  ga : M.G.of a = g
  gb : M.G.of b = g
  pa : M.P.of a = p
  pb : M.P.of b = p
  ra : M.r a = big
  rb : M.r b = big
  mg : M.G.m g = big
  mp : M.P.m p = big
  gf : ∀ t, t < M.n → M.G.of t = g → t ≠ a → aft M.G a t
  gl : ∀ t, t < M.n → M.G.of t = g → t ≠ b → aft M.G t b
  pf : ∀ t, t < M.n → M.P.of t = p → t ≠ b → aft M.P b t
  pl : ∀ t, t < M.n → M.P.of t = p → t ≠ a → aft M.P t a
section
variable {M : Mk} {x : Nat → Int} {g p a b t : Nat} {big : Int}
theorem one_le (ok : M.Ok) (sx : Sh M x) (tn : t < M.n) : x t ≤ tot M.G x (M.G.of t) ∧ x t ≤ tot M.P x (M.P.of t) := by
  have h1 := sm_gap (g := fun _ => 0) (g' := x) (ok.g.nd (M.G.of t)) (ok.g.mem t tn) fun j _ => sx.lo j
  have h2 := sm_gap (g := fun _ => 0) (g' := x) (ok.p.nd (M.P.of t)) (ok.p.mem t tn) fun j _ => sx.lo j
  rw [Calm.sm_nul fun _ _ => rfl] at h1 h2
  unfold tot
  constructor <;> omega
theorem only_one {S : Side} {n k : Nat} (ok : S.Ok n) (tn : t < n) (e : S.of t = k) (z : ∀ j, j < n → S.of j = k → j ≠ t → x j = 0) : tot S x k = x t := by
  subst e
  exact sm_single (ok.nd _) (ok.mem t tn) fun j hj hn => z j (ok.back _ _ hj).1 (ok.back _ _ hj).2 hn
theorem House.full (ok : M.Ok) (sx : Stl M x) (H : House M g p a b big) : tot M.G x g = big ∧ tot M.P x p = big := by
  have G : tot M.G x g = big := by
    apply Classical.byContradiction
    intro ne
    have lt : tot M.G x g < big := by have := sx.sh.g g; have := H.mg; omega
    have lb := (one_le ok sx.sh H.bn).1
    rw [H.gb] at lb
    have nw : ¬ will M.P x b := fun w => sx.no b H.bn (by rw [H.rb]; omega) (.inl (by rw [H.gb, H.mg]; exact lt)) w
    obtain ⟨f, z⟩ := not_will ok.p (sx.sh.p _) sx.sh.lo nw
    rw [H.pb, H.mp, only_one ok.p H.bn H.pb fun j jn jp hn => z j (H.pf j jn jp hn)] at f
    omega
  refine ⟨G, ?_⟩
  apply Classical.byContradiction
  intro ne
  have lt : tot M.P x p < big := by have := sx.sh.p p; have := H.mp; omega
  have la := (one_le ok sx.sh H.an).2
  rw [H.pa] at la
  have nw : ¬ will M.G x a := fun w => sx.no a H.an (by rw [H.ra]; omega) w (.inl (by rw [H.pa, H.mp]; exact lt))
  obtain ⟨f, z⟩ := not_will ok.g (sx.sh.g _) sx.sh.lo nw
  rw [H.ga, H.mg, only_one ok.g H.an H.ga fun j jn jg hn => z j (H.gf j jn jg hn)] at f
  omega
end
end Fr

namespace Fn
open PySem PySem.Spec PyProof.Rows L2 Uv
section
variable {W : Web} {h t : Nat}
theorem idx_first {a t : Nat} {l : List Nat} (ht : t ≠ a) : (a :: l).idxOf a < (a :: l).idxOf t := by
  rw [List.idxOf_cons_self, List.idxOf_cons, beq_eq_false_iff_ne.mpr fun e => ht e.symm]
  exact Nat.succ_pos _
theorem idx_last {b t : Nat} {l : List Nat} (nd : (l ++ [b]).Nodup) (ht : t ∈ l ++ [b]) (ne : t ≠ b) : (l ++ [b]).idxOf t < (l ++ [b]).idxOf b := by
  have tl : t ∈ l := by
    rcases List.mem_append.mp ht with z | z
    · exact z
    · exact absurd (List.mem_singleton.mp z) ne
  have bl : b ∉ l := fun z => (List.nodup_append.mp nd).2.2 b z b (List.mem_singleton.mpr rfl) rfl
  rw [List.idxOf_append, if_pos tl, List.idxOf_append, if_neg bl, List.idxOf_cons_self]
  have := List.idxOf_lt_length_iff.mpr tl
  omega
theorem gv_house (hh : h < W.gives.length) : gvF (fairOf W) h = ⟨bigOf W, lyingOf W h :: (W.gives[h] ++ [lyingOf W h + 1])⟩ := by
  unfold gvF
  have : (fairOf W).givers = giversOf W := rfl
  rw [this, List.getD_eq_getElem?_getD]
  unfold giversOf
  rw [List.getElem?_append_left (by simpa using hh), List.getElem?_map, List.getElem?_zipIdx, List.getElem?_eq_getElem hh]
  simp
theorem tk_house (hh : h < W.takes.length) : tkF (fairOf W) h = ⟨bigOf W, (lyingOf W h + 1) :: (W.takes[h] ++ [lyingOf W h])⟩ := by
  unfold tkF
  have : (fairOf W).takers = takersOf W := rfl
  rw [this, List.getD_eq_getElem?_getD]
  unfold takersOf
  rw [List.getElem?_append_left (by simpa using hh), List.getElem?_map, List.getElem?_zipIdx, List.getElem?_eq_getElem hh]
  simp
theorem ti_house {j : Nat} (h1 : W.roads.length ≤ j) (h2 : j < W.roads.length + 2 * W.gives.length) : tiF (fairOf W) j = ⟨(j - W.roads.length) / 2, (j - W.roads.length) / 2, bigOf W⟩ := by
  unfold tiF
  rw [List.getD_eq_getElem?_getD, tie_house h1 h2]
  rfl
theorem house_of (hw : IsWeb W) (hh : h < W.gives.length) : Fr.House (mkF (fairOf W)) h h (lyingOf W h) (lyingOf W h + 1) (bigOf W) := by
  have ok := mk_ok (fair_ok hw)
  have hm := hw.same
  have tl := ties_len (W := W)
  have ta : tiF (fairOf W) (lyingOf W h) = ⟨h, h, bigOf W⟩ := by
    rw [ti_house (by unfold lyingOf; omega) (by unfold lyingOf; omega)]
    unfold lyingOf
    rw [show (W.roads.length + 2 * h - W.roads.length) / 2 = h by omega]
  have tb : tiF (fairOf W) (lyingOf W h + 1) = ⟨h, h, bigOf W⟩ := by
    rw [ti_house (by unfold lyingOf; omega) (by unfold lyingOf; omega)]
    unfold lyingOf
    rw [show (W.roads.length + 2 * h + 1 - W.roads.length) / 2 = h by omega]
  have gv := gv_house hh
  have tk := tk_house (W := W) (h := h) (by omega)
  have og : (mkF (fairOf W)).G.o h = lyingOf W h :: (W.gives[h] ++ [lyingOf W h + 1]) := by show (gvF (fairOf W) h).order = _; rw [gv]
  have op : (mkF (fairOf W)).P.o h = (lyingOf W h + 1) :: (W.takes[h]'(by omega) ++ [lyingOf W h]) := by show (tkF (fairOf W) h).order = _; rw [tk]
  have ndg := ok.g.nd h
  have ndp := ok.p.nd h
  rw [og] at ndg
  rw [op] at ndp
  have ga : (mkF (fairOf W)).G.of (lyingOf W h) = h := by show (tiF _ _).g = h; rw [ta]
  have gb : (mkF (fairOf W)).G.of (lyingOf W h + 1) = h := by show (tiF _ _).g = h; rw [tb]
  have pa : (mkF (fairOf W)).P.of (lyingOf W h) = h := by show (tiF _ _).t = h; rw [ta]
  have pb : (mkF (fairOf W)).P.of (lyingOf W h + 1) = h := by show (tiF _ _).t = h; rw [tb]
  refine ⟨by show _ < (fairOf W).ties.length; rw [tl]; unfold lyingOf; omega, by show _ < (fairOf W).ties.length; rw [tl]; unfold lyingOf; omega, ga, gb, pa, pb, by show (tiF _ _).r = _; rw [ta], by show (tiF _ _).r = _; rw [tb], by show (gvF _ _).much = _; rw [gv], by show (tkF _ _).much = _; rw [tk], fun t tn e ne => ?_, fun t tn e ne => ?_, fun t tn e ne => ?_, fun t tn e ne => ?_⟩
  · have m := ok.g.mem t tn
    rw [e] at m
    unfold Fr.aft
    rw [ga]
    refine ⟨m, ?_⟩
    rw [og]
    exact idx_first ne
  · have m := ok.g.mem t tn
    have mb := ok.g.mem (lyingOf W h + 1) (by show _ < (fairOf W).ties.length; rw [tl]; unfold lyingOf; omega)
    rw [e] at m
    rw [gb] at mb
    unfold Fr.aft
    rw [e]
    refine ⟨mb, ?_⟩
    rw [og] at m ⊢
    exact idx_last (l := lyingOf W h :: W.gives[h]) ndg m ne
  · have m := ok.p.mem t tn
    rw [e] at m
    unfold Fr.aft
    rw [pb]
    refine ⟨m, ?_⟩
    rw [op]
    exact idx_first ne
  · have m := ok.p.mem t tn
    have ma := ok.p.mem (lyingOf W h) (by show _ < (fairOf W).ties.length; rw [tl]; unfold lyingOf; omega)
    rw [e] at m
    rw [pa] at ma
    unfold Fr.aft
    rw [e]
    refine ⟨ma, ?_⟩
    rw [op] at m ⊢
    exact idx_last (l := (lyingOf W h + 1) :: W.takes[h]'(by omega)) ndp m ne
end
end Fn

namespace Fn
open PySem PySem.Spec PyProof.Rows L2 Uv
def DkE (b : Nat) (cs : List Cel) : Prop := ∃ (cells : List Int) (p q n : Int), cs = [.dat (.list (cells.map PyData.int)), .dat (.int p), .dat (.int q), .dat (.int n)] ∧ cells.length ≤ 63 ∧ 0 ≤ p ∧ 0 ≤ n ∧ n ≤ b
theorem DkE.mono {b c : Nat} {cs : List Cel} (h : DkE b cs) (hb : b ≤ c) : DkE c cs := by
  obtain ⟨cells, p, q, n, e, h1, h4, h2, h3⟩ := h
  exact ⟨cells, p, q, n, e, h1, h4, h2, by omega⟩
theorem in64_e1 : In64 1000003 := ⟨by decide, by decide⟩
theorem in64_e2 : In64 48271 := ⟨by decide, by decide⟩
theorem e_mixed {c t : Int} (h0 : 0 ≤ t) (h1 : t ≤ 2 ^ 41) : ∃ x : Int, F__law_mixed_b [.int c, .int t] = some (.int x) := by
  have base : In63 (c % 2147483629 + t * 1000003 + 17) := ⟨by omega, by omega⟩
  have h : wp (F__law_mixed_b [.int c, .int t]) (tag fun d => ∃ x : Int, d = .int x) := by
    unfold F__law_mixed_b
    refine wp_runP rfl ?_
    unfold X__law_mixed_b
    simp -implicitDefEqProofs [base, in64_e1]
  obtain ⟨d, e, x, rfl⟩ := h
  exact ⟨x, e⟩
theorem ne_nilN {l : List Nat} : neP (.list (l.map natD)) (.list []) = some (.bool (!l.isEmpty)) := by
  have e : l.map natD = (l.map fun (n : Nat) => (n : Int)).map PyData.int := by rw [List.map_map]; rfl
  unfold neP
  rw [if_pos ⟨by rw [e]; exact PySem.W.shaped_ints _, rfl⟩]
  cases l <;> rfl
theorem ne_nilI {l : List Int} : neP (.list (l.map PyData.int)) (.list []) = some (.bool (!l.isEmpty)) := by
  unfold neP
  rw [if_pos ⟨PySem.W.shaped_ints _, rfl⟩]
  cases l <;> rfl
theorem e_next {b : Nat} {cs : List Cel} {m : Int} {Q : PD × List Cel → Prop} (h : DkE b cs) (hb : b ≤ 2 ^ 40) (hm : 0 < m) (hm2 : m < 2 ^ 64) (hq : ∀ (r : Nat) cs', (r : Int) < m → DkE (b + 1) cs' → Q (natD r, cs')) : wp (F__law_next_c cs [.int m]) (tag Q) := by
  obtain ⟨cells, p, q, n, rfl, hl, hp0, h0, hn⟩ := h
  have fin : ∀ (x q' p' : Int), 0 ≤ p' → Q (.int (x % m), [.dat (.list (cells.map PyData.int)), .dat (.int p'), .dat (.int q'), .dat (.int (n + 1))]) := fun x q' p' hp' => by
    obtain ⟨j, hj, ej⟩ := emod_nat (a := x) hm
    rw [ej]
    exact hq j _ hj ⟨cells, p', q', n + 1, rfl, hl, hp', by omega, by omega⟩
  have mix : ∀ c : Int, ∃ x : Int, F__law_mixed_b [.int c, .int (n + 1)] = some (.int x) := fun c => e_mixed (by omega) (by omega)
  have dv : Dvr m := ⟨hm, hm2⟩
  obtain ⟨R, hR⟩ : ∃ R : XS, R = (sSeq (sIf (wVT (xB (xOp gtU (xOp ixP (xVar 0) (xC (.int 2))) (xC (.int 0))))) (sSeq (sAsg (gName' 3) (wV (xOp modP (xOp ixP (xVar 0) (xC (.int 2))) (xVar 1))))
    (sSeq (sSet 0 (xC (.int 2)) (wV (xOp divP (xOp ixP (xVar 0) (xC (.int 2))) (xVar 1))))
    (sRet (wM (xVar 3))))) sNext)
    (sSeq (sAsg (gName' 4) (wV (xOp mulU (xOp ixP (xVar 0) (xC (.int 3))) (xC (.int 48271)))))
    (sSeq (sIf (wVT (xB (xOp neP (xOp ixP (xVar 0) (xC (.int 0))) (xLst xNil)))) (sAsg (gName' 4) (wV (xOp addP (xVar 4) (xOp ixP (xOp ixP (xVar 0) (xC (.int 0))) (xOp modP (xOp mulU (xOp ixP (xVar 0) (xC (.int 3))) (xC (.int 7))) (xCB (on1 lenP) (xCons (xOp ixP (xVar 0) (xC (.int 0))) xNil))))))) sNext)
    (sRet (wV (xOp modP (xCB F__law_mixed_b (xCons (xVar 4) (xCons (xOp ixP (xVar 0) (xC (.int 3))) xNil))) (xVar 1))))))) := ⟨_, rfl⟩
  have rest : ∀ (p' q' : Int) (z2 z3 z4 : Sl), 0 ≤ p' → wp (R [.own [.dat (.list (cells.map PyData.int)), .dat (.int p'), .dat (.int q'), .dat (.int (n + 1))], .dat (.int m), z2, z3, z4]) (tag (endW (tag Q))) := by
    intro p' q' z2 z3 z4 hp'
    rw [hR]
    simp -implicitDefEqProofs
    refine wp_altd (fun c => ?_) (fun c => ?_)
    · simp -implicitDefEqProofs [hm, dv]
      exact fin _ _ _ (by omega)
    · simp -implicitDefEqProofs [in64_e2, ne_nilI]
      refine wp_alt (fun c2 => ?_) (fun c2 => ?_)
      · have c2 : 0 < cells.length := List.length_pos_iff.mpr (by simpa using c2)
        obtain ⟨j, hj, ej⟩ := emod_nat (a := (n + 1) * 7) (show (0 : Int) < (cells.length : Int) by omega)
        have hj : j < cells.length := by omega
        obtain ⟨x, ex⟩ := mix ((n + 1) * 48271 + cells[j])
        simp -implicitDefEqProofs [c2, ej, atI_map hj, ex, hm]
        exact fin _ _ _ (by omega)
      · obtain ⟨x, ex⟩ := mix ((n + 1) * 48271)
        simp -implicitDefEqProofs [ex, hm]
        exact fin _ _ _ (by omega)
  unfold F__law_next_c
  refine wp_runW rfl ?_
  unfold X__law_next_c
  rw [← hR]
  clear hR
  simp -implicitDefEqProofs
  refine wp_alt (fun c => ?_) (fun c => ?_)
  · obtain ⟨c, hp⟩ : q = 0 ∧ p < cells.length := by simpa using c
    have hp : p.toNat < cells.length := by omega
    simp -implicitDefEqProofs [atI_int hp0 hp]
    refine wp_altd (fun c3 => ?_) (fun c3 => ?_)
    · obtain ⟨x, ex⟩ := mix (cells[p.toNat])
      simp -implicitDefEqProofs [ex, hm]
      exact fin _ _ _ (by omega)
    · simp -implicitDefEqProofs
      exact rest _ _ _ _ _ (by omega)
  · simp -implicitDefEqProofs
    exact rest _ _ _ _ _ (by omega)
theorem e_one {α : Type} {enc : α → PD} {l : List α} {b : Nat} {cs : List Cel} {Q : PD × List Cel → Prop} (h : DkE b cs) (hb : b ≤ 2 ^ 40) (h0 : l ≠ []) (h1 : l.length ≤ 1000000) (hq : ∀ x ∈ l, ∀ cs', DkE (b + 1) cs' → Q (enc x, cs')) : wp (F__law_one_b cs [.list (l.map enc)]) (tag Q) := by
  have : 0 < l.length := List.length_pos_iff.mpr h0
  unfold F__law_one_b
  refine wp_runW rfl ?_
  unfold X__law_one_b
  simp -implicitDefEqProofs
  refine e_next h hb (by omega) (by omega) fun r cs' hr d => ?_
  have hr : r < l.length := by omega
  simp -implicitDefEqProofs [atI_map hr]
  exact hq _ (List.getElem_mem hr) _ d
theorem e_order {b : Nat} {cs : List Cel} {ns : List Nat} {Q : PD × List Cel → Prop} (h : DkE b cs) (hb : b + ns.length ≤ 2 ^ 40) (hl : ns.length ≤ 1000) (hq : ∀ (es : List Nat) cs', es.Perm ns → DkE (b + ns.length) cs' → Q (natsD es, cs')) : wp (F__law_order_d cs [.list (ns.map natD)]) (tag Q) := by
  unfold F__law_order_d
  refine wp_runW rfl ?_
  unfold X__law_order_d
  simp -implicitDefEqProofs
  refine wp_while (fun k ρ => ∃ (cs : List Cel) (left found : List Nat), ρ = [.own cs, .dat (.list (ns.map natD)), .own (dats (left.map natD)), .own (dats (found.map natD))] ∧ left.length = k ∧ (found ++ left).Perm ns ∧ DkE (b + (ns.length - k)) cs) (@fuel_lt kk0 _ (show ns.length < 100000 by omega)) ⟨cs, ns, [], rfl, rfl, .refl _, by simpa using h⟩ ?_
  rintro k ρ ⟨cs, left, found, rfl, e2, p, d⟩
  have ll := p.length_eq
  rw [List.length_append] at ll
  simp -implicitDefEqProofs [ne_nilN]
  refine ⟨fun z => ?_, fun z => ?_⟩
  · subst z
    exact hq _ _ (by simpa using p) (by simpa [← e2] using d)
  · have : left.length ≠ 0 := fun z' => z (List.length_eq_zero_iff.mp z')
    unfold X__law_order_d_b1
    simp -implicitDefEqProofs
    refine e_next d (by omega) (by omega) (by omega) fun r cs' hr d' => ?_
    have hr : r < left.length := by omega
    simp -implicitDefEqProofs [ixN_nat' hr, datAt_map hr, erase_map]
    refine ⟨in63e_nat (by omega), by omega, ⟨k - 1, by omega, cs', left.eraseIdx r, found ++ [left[r]], by simp, ?_, ?_, d'.mono (by omega)⟩⟩
    · rw [List.length_eraseIdx, if_pos hr]; omega
    · rw [List.append_assoc]
      exact (List.Perm.append_left found (erase_perm hr)).trans p
end Fn

namespace Fn
open PySem PySem.Spec PyProof.Rows L2 Uv
theorem cat_spots {n : Nat} (h : n ≤ 1000) : catP (.list [.none]) (.list ((List.range n).map natD)) = some (.list ((spots n).map endD)) := by
  rw [q_cat, grd_pos (by simp; omega), List.singleton_append, spots_eq]
theorem lc_at {rs : List Road} {s h j : Nat} {t : XT} {v : VE} {Q : List PD → Prop} (ht : ∀ (k : Nat) (hk : k < rs.length), t (v.set j (some (natD k))) = some (side s rs[k] == some h)) (hj : ∀ k : Nat, xVar j (v.set j (some (natD k))) = some (natD k)) (hq : Q ((atR rs s h).map natD)) : wp (lcGo (gvName j) t (xVar j) v ((List.range rs.length).map natD)) (tag Q) := by
  refine wp_lc (isAt rs s h) natD (fun k hk => ?_) (by rw [filter_atR]; exact hq)
  have hk : k < rs.length := List.mem_range.mp hk
  have e : isAt rs s h k = (side s rs[k] == some h) := by unfold isAt; rw [List.getElem?_eq_getElem hk]
  rw [e]
  rw [q_gvName, wp_some, ht k hk, wp_some, hj, wp_some]
  exact ⟨rfl, fun _ => rfl⟩
theorem e_orders {b m s : Nat} {cs : List Cel} {rs : List Road} {s1 s2 s3 s4 s5 s6 s7 s8 s9 s10 s11 z : Sl} {Q : List PD × Uv.Env → Prop} (h : DkE b cs) (hb : b + 20 * m ≤ 2 ^ 40) (hm : m ≤ 8) (hr : rs.length ≤ 20) (hq : ∀ (gs : List (List Nat)) cs' z', gs.length = m → (∀ (h : Nat) (l : List Nat), gs[h]? = some l → l.Perm (atR rs s h)) → DkE (b + 20 * m) cs' → Q (gs.map natsD, [.own cs', s1, s2, s3, s4, s5, s6, s7, s8, s9, s10, s11, z'])) :
    wp (wlGo (gName' 12) (wMT xYes) (wCallK 0 F__law_order_d (wCons (wM (xVar 12)) wNil)) [12] ((List.range m).map fun h => .list ((atR rs s h).map natD)) [.own cs, s1, s2, s3, s4, s5, s6, s7, s8, s9, s10, s11, z]) (tag Q) := by
  refine wp_wl (fun i ds ρ => ∃ (gs : List (List Nat)) (cs : List Cel) (z : Sl), ds = gs.map natsD ∧ gs.length = i ∧ (∀ (h : Nat) (l : List Nat), gs[h]? = some l → l.Perm (atR rs s h)) ∧ ρ = [.own cs, s1, s2, s3, s4, s5, s6, s7, s8, s9, s10, s11, z] ∧ DkE (b + 20 * i) cs) ⟨[], cs, _, rfl, rfl, by simp, rfl, h⟩ ?_ ?_
  · rintro i hi ds ρ ⟨gs, cs, z, rfl, hl, ho, rfl, d⟩
    have hi : i < m := by simpa using hi
    have ll := atR_len (rs := rs) (s := s) (h := i)
    simp -implicitDefEqProofs
    refine e_order d (by omega) (by omega) fun es cs' pe d' => ?_
    simp -implicitDefEqProofs
    exact ⟨⟨gs ++ [es], cs', _, by simp, by simp [hl], ord_snoc ho (by rw [hl]; exact pe), rfl, d'.mono (by omega)⟩⟩
  · rintro ds ρ ⟨gs, cs, z, rfl, hl, ho, rfl, d⟩
    simp only [List.length_map, List.length_range] at hl d
    exact hq gs cs z hl ho d
theorem e_web {b : Nat} {cs : List Cel} {most many : Nat} {Q : PD × List Cel → Prop} (h : DkE b cs) (hb : b + 1000 ≤ 2 ^ 40) (m1 : 1 ≤ most) (m2 : most ≤ 8) (k1 : 1 ≤ many) (k2 : many ≤ 20) (hq : ∀ W cs', IsWeb W → W.roads.length ≤ many → W.gives.length ≤ max 2 most → (∀ x ∈ W.roads, x.r ≤ 2) → DkE (b + 1000) cs' → Q (webD W, cs')) : wp (F__law_web_f cs [natD most, natD many]) (tag Q) := by
  unfold F__law_web_f
  refine wp_runW rfl ?_
  unfold X__law_web_f
  refine wp_cut2 (fun R => ∀ (m : Nat) (rs : List Road) (cs : List Cel) (kind : Int) (z6 z7 z8 z9 z10 z11 z12 : Sl), 1 ≤ m → m ≤ max 2 most → rs.length ≤ 4 → rs.length ≤ many → (∀ x ∈ rs, OkRoad m x ∧ x.r ≤ 2) → DkE (b + 10) cs → wp (R [.own cs, .dat (natD most), .dat (natD many), .dat (.int kind), .dat (natD m), .own (dats (rs.map roadD)), z6, z7, z8, z9, z10, z11, z12]) (tag (endW (tag Q)))) ?_ ?_
  · intro m rs cs kind z6 z7 z8 z9 z10 z11 z12 m1 m2 l1 l2 ho d
    have m8 : m ≤ 8 := by omega
    refine wp_cut1 (fun R => ∀ (rs : List Road) (cs : List Cel) (z6 z7 z8 z9 z10 z11 z12 : Sl), 1 ≤ rs.length → rs.length ≤ many → (∀ x ∈ rs, OkRoad m x ∧ x.r ≤ 2) → DkE (b + 100) cs → wp (R [.own cs, .dat (natD most), .dat (natD many), .dat (.int kind), .dat (natD m), .own (dats (rs.map roadD)), z6, z7, z8, z9, z10, z11, z12]) (tag (endW (tag Q)))) ?_ ?_
    · clear l1 l2 ho d z6 z7 z8 z9 z10 z11 z12 cs rs
      intro rs cs z6 z7 z8 z9 z10 z11 z12 l1 l2 ho d
      simp -implicitDefEqProofs
      refine ⟨in62_nat (by omega), by omega, ?_⟩
      refine wp_lcT (fun h => .list ((atR rs 0 h).map natD)) (fun h hh => ?_) ?_
      · simp -implicitDefEqProofs
        refine ⟨in62_nat (by omega), by omega, ?_⟩
        refine lc_at (s := 0) (h := h) (fun k hk => ?_) (fun k => rfl) ?_
        · simp -implicitDefEqProofs [atI_map hk, eq_end, side]
        · simp -implicitDefEqProofs
      simp -implicitDefEqProofs
      refine ⟨in62_nat (by omega), by omega, ?_⟩
      refine wp_lcT (fun h => .list ((atR rs 1 h).map natD)) (fun h hh => ?_) ?_
      · simp -implicitDefEqProofs
        refine ⟨in62_nat (by omega), by omega, ?_⟩
        refine lc_at (s := 1) (h := h) (fun k hk => ?_) (fun k => rfl) ?_
        · simp -implicitDefEqProofs [atI_map hk, eq_end, side]
        · simp -implicitDefEqProofs
      simp -implicitDefEqProofs
      refine wp_altd (fun c => ?_) (fun c => ?_)
      · simp -implicitDefEqProofs
        refine ⟨by omega, ?_⟩
        refine wp_lcT (fun h => natsD (atR rs 0 h)) (fun h hh => ?_) ?_
        · simp -implicitDefEqProofs
          rfl
        simp -implicitDefEqProofs
        refine ⟨by omega, ?_⟩
        refine wp_lcT (fun h => natsD (atR rs 1 h).reverse) (fun h hh => ?_) ?_
        · simp -implicitDefEqProofs
          rw [← List.map_reverse]
          rfl
        simp -implicitDefEqProofs
        have := hq ⟨rs, (List.range m).map fun h => atR rs 0 h, (List.range m).map fun h => (atR rs 1 h).reverse⟩ cs (mkWeb (m := m) (by omega) (by omega) l1 (by omega) (fun x hx => (ho x hx).1) (by simp) (by simp) (ord_map _ fun h => .refl _) (ord_map _ fun h => List.reverse_perm _)) l2 (by simpa using m2) (fun x hx => (ho x hx).2) (d.mono (by omega))
        unfold webD at this
        rw [List.map_map, List.map_map] at this
        exact this
      · simp -implicitDefEqProofs
        refine ⟨by omega, ?_⟩
        refine e_orders d (by omega) (by omega) (by omega) fun gs cs1 z g1 pg d1 => ?_
        simp -implicitDefEqProofs
        refine ⟨by omega, ?_⟩
        refine e_orders d1 (by omega) (by omega) (by omega) fun ts cs2 z t1 pt d2 => ?_
        simp -implicitDefEqProofs
        exact hq ⟨rs, gs, ts⟩ cs2 (mkWeb (m := m) (by omega) (by omega) l1 (by omega) (fun x hx => (ho x hx).1) g1 t1 pg pt) l2 (by show gs.length ≤ _; omega) (fun x hx => (ho x hx).2) (d2.mono (by omega))
    · intro R main
      simp -implicitDefEqProofs
      refine e_next d (by omega) (by omega) (by omega) fun r cs1 a1 d1 => ?_
      simp -implicitDefEqProofs
      refine ⟨⟨by omega, by omega⟩, ?_⟩
      obtain ⟨n, en⟩ : ∃ n : Nat, (1 + (r : Int)).toNat - rs.length = n := ⟨_, rfl⟩
      rw [en]
      refine wp_forR (fun k ρ => ∃ (cs : List Cel) (rs' : List Road) (z6 z7 z8 z9 z10 z11 z12 : Sl), ρ = [.own cs, .dat (natD most), .dat (natD many), .dat (.int kind), .dat (natD m), .own (dats (rs'.map roadD)), z6, z7, z8, z9, z10, z11, z12] ∧ rs'.length = rs.length + k ∧ (∀ x ∈ rs', OkRoad m x ∧ x.r ≤ 2) ∧ DkE (b + 11 + 3 * k) cs) ⟨cs1, rs, _, _, _, _, _, _, _, rfl, rfl, ho, d1⟩ ?_ ?_
      · rintro i hi ρ ⟨cs, rs', z6, z7, z8, z9, z10, z11, z12, rfl, hl, ho', d'⟩
        unfold X__law_web_f_b1
        simp -implicitDefEqProofs [cat_spots (show m ≤ 1000 by omega)]
        refine ⟨rg_nat (by omega), ?_⟩
        refine e_next d' (by omega) (by rw [spots_len]; omega) (by rw [spots_len]; omega) fun r1 cs2 a2 d2 => ?_
        have hr1 : r1 < (spots m).length := by omega
        have sl := spots_len (n := m)
        simp -implicitDefEqProofs [ixN_nat' hr1, datAt_map hr1, erase_map]
        refine ⟨in63e_nat (by omega), ?_⟩
        have el : ((spots m).eraseIdx r1).length = m := by rw [List.length_eraseIdx, if_pos hr1]; omega
        refine e_one d2 (by omega) (fun z => by rw [z] at el; simp at el; omega) (by omega) fun y hy cs3 d3 => ?_
        simp -implicitDefEqProofs
        refine e_next d3 (by omega) (by omega) (by omega) fun r4 cs4 a4 d4 => ?_
        simp -implicitDefEqProofs
        refine wp_pick (by simp; omega) fun x hx => ?_
        obtain ⟨q, rfl, q0, q1⟩ : ∃ q : Int, x = .int q ∧ 0 ≤ q ∧ q ≤ 2 := by
          simp at hx
          rcases hx with rfl | rfl | rfl | rfl | rfl | rfl <;> exact ⟨_, rfl, by omega, by omega⟩
        simp -implicitDefEqProofs
        refine ⟨by omega, ⟨cs4, rs' ++ [⟨(spots m)[r1], y, q⟩], _, _, _, _, _, _, _, by rw [List.map_append]; rfl, by simp; omega, fun x hx => ?_, d4.mono (by omega)⟩⟩
        rcases List.mem_append.mp hx with h | h
        · exact ho' x h
        · rw [List.mem_singleton.mp h]
          exact ⟨⟨erase_ne spots_nodup hr1 hy, spots_mem (List.getElem_mem hr1), spots_mem (erase_mem hy), q0, by show q ≤ 1000000000000; omega⟩, q1⟩
      · rintro ρ ⟨cs, rs', z6, z7, z8, z9, z10, z11, z12, rfl, hl, ho', d'⟩
        simp -implicitDefEqProofs
        exact main rs' cs _ _ _ _ _ _ _ (by omega) (by omega) ho' (d'.mono (by omega))
  · intro R main
    simp -implicitDefEqProofs
    refine e_next h (by omega) (by omega) (by omega) fun kind cs1 a1 d1 => ?_
    simp -implicitDefEqProofs
    refine e_next d1 (by omega) (by omega) (by omega) fun r2 cs2 a2 d2 => ?_
    obtain ⟨m, em⟩ : ∃ m : Nat, (1 + (r2 : Int)) = (m : Int) := ⟨1 + r2, by omega⟩
    simp -implicitDefEqProofs
    rw [em]
    refine wp_alt (fun c => ?_) (fun c => ?_)
    · simp at c
      simp -implicitDefEqProofs
      refine e_next d2 (by omega) (by omega) (by omega) fun r3 cs3 a3 d3 => ?_
      simp -implicitDefEqProofs
      refine e_next d3 (by omega) (by omega) (by omega) fun r4 cs4 a4 d4 => ?_
      simp -implicitDefEqProofs
      have e2 : (if (m : Int) > 2 then (m : Int) else 2) = ((max 2 m : Nat) : Int) := by split <;> omega
      rw [e2]
      exact main (max 2 m) [⟨none, some 0, 1⟩, ⟨some 0, some 1, 1 + r3⟩, ⟨some 0, some 1, 1 + r4⟩, ⟨some 1, none, 1⟩] cs4 _ _ _ _ _ _ _ _ (by omega) (by omega) (by simp) (by simp; omega) (by simp [OkRoad]; omega) (d4.mono (by omega))
    · simp -implicitDefEqProofs
      exact main m [] cs2 _ _ _ _ _ _ _ _ (by omega) (by omega) (by simp) (by simp) (by simp) (d2.mono (by omega))
end Fn

namespace Fn
open PySem PySem.Spec PyProof.Rows L2 Uv
theorem e_wide {b : Nat} {cs : List Cel} {Q : PD × List Cel → Prop} (h : DkE b cs) (hb : b + 1000 ≤ 2 ^ 40) (hq : ∀ W cs', IsWeb W → DkE (b + 1000) cs' → Q (webD W, cs')) : wp (F__law_wide_d cs []) (tag Q) := by
  unfold F__law_wide_d
  refine wp_runW rfl ?_
  unfold X__law_wide_d
  refine wp_cut3 (fun R => ∀ (m : Nat) (rs : List Road) (cs : List Cel) (z3 z4 z5 z6 z7 z8 z9 : Sl), 1 ≤ m → m ≤ 8 → 1 ≤ rs.length → rs.length ≤ 20 → (∀ x ∈ rs, OkRoad m x) → DkE (b + 200) cs → wp (R [.own cs, .dat (natD m), .own (dats (rs.map roadD)), z3, z4, z5, z6, z7, z8, z9]) (tag (endW (tag Q)))) ?_ ?_
  · intro m rs cs z3 z4 z5 z6 z7 z8 z9 m1 m2 l1 l2 ho d
    simp -implicitDefEqProofs
    refine ⟨in62_nat (by omega), ?_⟩
    refine wp_forR (fun k ρ => ∃ (cs : List Cel) (gs ts : List (List Nat)) (z3 z4 z5 z6 z9 : Sl), ρ = [.own cs, .dat (natD m), .dat (.list (rs.map roadD)), z3, z4, z5, z6, .own (dats (gs.map natsD)), .own (dats (ts.map natsD)), z9] ∧ gs.length = k ∧ ts.length = k ∧ (∀ (h : Nat) (l : List Nat), gs[h]? = some l → l.Perm (atR rs 0 h)) ∧ (∀ (h : Nat) (l : List Nat), ts[h]? = some l → l.Perm (atR rs 1 h)) ∧ DkE (b + 200 + 40 * k) cs) ⟨cs, [], [], _, _, _, _, _, rfl, rfl, rfl, by simp, by simp, d⟩ ?_ ?_
    · rintro i hi ρ ⟨cs, gs, ts, z3, z4, z5, z6, z9, rfl, g1, t1, pg, pt, d⟩
      have ll := fun s => atR_len (rs := rs) (s := s) (h := i)
      unfold X__law_wide_d_b2
      simp -implicitDefEqProofs
      refine ⟨in62_nat (by omega), by omega, ?_⟩
      refine lc_at (s := 0) (h := i) (fun k hk => ?_) (fun k => rfl) ?_
      · simp -implicitDefEqProofs [atI_map hk, eq_end, side]
      simp -implicitDefEqProofs
      refine e_order d (by have := ll 0; omega) (by have := ll 0; omega) fun es cs1 pe d1 => ?_
      simp -implicitDefEqProofs
      refine ⟨by omega, in62_nat (by omega), by omega, ?_⟩
      refine lc_at (s := 1) (h := i) (fun k hk => ?_) (fun k => rfl) ?_
      · simp -implicitDefEqProofs [atI_map hk, eq_end, side]
      simp -implicitDefEqProofs
      refine e_order d1 (by have := ll 0; have := ll 1; omega) (by have := ll 1; omega) fun fs cs2 pf d2 => ?_
      simp -implicitDefEqProofs
      refine ⟨by omega, ⟨cs2, gs ++ [es], ts ++ [fs], _, _, _, _, _, by rw [List.map_append, List.map_append]; rfl, by simp [g1], by simp [t1], ord_snoc pg (by rw [g1]; exact pe), ord_snoc pt (by rw [t1]; exact pf), d2.mono (by have := ll 0; have := ll 1; omega)⟩⟩
    · rintro ρ ⟨cs, gs, ts, z3, z4, z5, z6, z9, rfl, g1, t1, pg, pt, d⟩
      simp -implicitDefEqProofs
      exact hq ⟨rs, gs, ts⟩ cs (mkWeb (m := m) (by omega) (by omega) l1 (by omega) ho g1 t1 pg pt) (d.mono (by omega))
  · intro R main
    simp -implicitDefEqProofs
    refine e_next h (by omega) (by omega) (by omega) fun r1 cs1 a1 d1 => ?_
    obtain ⟨m, em⟩ : ∃ m : Nat, (1 + (r1 : Int)) = (m : Int) := ⟨1 + r1, by omega⟩
    simp -implicitDefEqProofs
    rw [em]
    refine e_next d1 (by omega) (by omega) (by omega) fun r2 cs2 a2 d2 => ?_
    obtain ⟨n, en⟩ : ∃ n : Nat, (1 + (r2 : Int)) = (n : Int) := ⟨1 + r2, by omega⟩
    simp -implicitDefEqProofs
    rw [en]
    refine ⟨in62_nat (by omega), ?_⟩
    rw [Int.toNat_natCast]
    refine wp_forR (fun k ρ => ∃ (cs : List Cel) (rs : List Road) (z3 z4 z5 z6 z7 z8 z9 : Sl), ρ = [.own cs, .dat (natD m), .own (dats (rs.map roadD)), z3, z4, z5, z6, z7, z8, z9] ∧ rs.length = k ∧ (∀ x ∈ rs, OkRoad m x) ∧ DkE (b + 2 + 5 * k) cs) ⟨cs2, [], _, _, _, _, _, _, _, rfl, rfl, by simp, d2⟩ ?_ ?_
    · rintro i hi ρ ⟨cs, rs, z3, z4, z5, z6, z7, z8, z9, rfl, hl, ho, d⟩
      unfold X__law_wide_d_b1
      simp -implicitDefEqProofs [cat_spots (show m ≤ 1000 by omega)]
      refine ⟨rg_nat (by omega), ?_⟩
      refine e_next d (by omega) (by rw [spots_len]; omega) (by rw [spots_len]; omega) fun r1 cs2 a2 d2 => ?_
      have hr1 : r1 < (spots m).length := by omega
      have sl := spots_len (n := m)
      simp -implicitDefEqProofs [ixN_nat' hr1, datAt_map hr1, erase_map]
      refine ⟨in63e_nat (by omega), ?_⟩
      have el : ((spots m).eraseIdx r1).length = m := by rw [List.length_eraseIdx, if_pos hr1]; omega
      refine e_next d2 (by omega) (by omega) (by omega) fun r3 cs3 a3 d3 => ?_
      simp -implicitDefEqProofs
      refine e_next d3 (by omega) (by omega) (by omega) fun r4 cs4 a4 d4 => ?_
      simp -implicitDefEqProofs
      refine e_next d4 (by omega) (by omega) (by omega) fun r5 cs5 a5 d5 => ?_
      simp -implicitDefEqProofs
      refine wp_pick (by simp; omega) fun x hx => ?_
      obtain ⟨q, rfl, q0, q1⟩ : ∃ q : Int, x = .int q ∧ 0 ≤ q ∧ q ≤ 1000000000000 := by
        simp at hx
        rcases hx with rfl | rfl | rfl | rfl | rfl <;> exact ⟨_, rfl, by omega, by omega⟩
      simp -implicitDefEqProofs
      refine e_one d5 (by omega) (fun z => by rw [z] at el; simp at el; omega) (by omega) fun y hy cs6 d6 => ?_
      simp -implicitDefEqProofs
      refine ⟨by omega, ⟨cs6, rs ++ [⟨(spots m)[r1], y, q⟩], _, _, _, _, _, _, _, by rw [List.map_append]; rfl, by simp; omega, fun x hx => ?_, d6.mono (by omega)⟩⟩
      rcases List.mem_append.mp hx with h | h
      · exact ho x h
      · rw [List.mem_singleton.mp h]
        exact ⟨erase_ne spots_nodup hr1 hy, spots_mem (List.getElem_mem hr1), spots_mem (erase_mem hy), q0, q1⟩
    · rintro ρ ⟨cs, rs, z3, z4, z5, z6, z7, z8, z9, rfl, hl, ho, d⟩
      simp -implicitDefEqProofs
      exact main m rs cs _ _ _ _ _ _ _ (by omega) (by omega) (by omega) (by omega) ho (d.mono (by omega))
theorem cut_63E {ns : List Int} (h : ns.length ≤ 63) : Uv.cutD (ns.map PyData.int) none (some 63) = ns.map PyData.int := by
  unfold Uv.cutD
  rw [HT.sIx_none, show (some (63 : Int)) = some ((63 : Nat) : Int) from rfl, HT.sIx_nat, List.length_map, Nat.min_eq_right h]
  exact List.take_of_length_le (by simp)
theorem e_deck {ns : List Int} {Q : List Cel → Prop} (h : ns.length ≤ 63) (hq : ∀ cs, DkE 0 cs → Q cs) : wp (F__law_deck_f [scrD (ns.map PyData.int)]) (tag Q) := by
  unfold F__law_deck_f
  refine wp_runD rfl ?_
  unfold X__law_deck_f
  have e : Uv.cutD (ns.map PyData.int) none (some 63) = ns.map PyData.int := cut_63E h
  simp -implicitDefEqProofs [e]
  refine ⟨by omega, ?_⟩
  refine wp_lcT (fun i => .int (if i < 0 then -i else i)) (fun i hi => ?_) ?_
  · simp -implicitDefEqProofs
  simp -implicitDefEqProofs
  refine hq _ ⟨ns.map fun i => if i < 0 then -i else i, 0, 0, 0, ?_, by simpa using h, by omega, by omega, by omega⟩
  simp
end Fn

namespace Fn
open PySem PySem.Spec PyProof.Rows L2 Uv
section
variable {W : Web} {f : List Int} {lot : List Nat}
theorem push_mono {lot lot' : List Nat} (h : ∀ x ∈ lot, x ∈ lot') {k : Nat} (hp : pushB W f lot k = true) : pushB W f lot' k = true := by
  unfold pushB at hp ⊢
  cases hx : (rd W k).b with
  | none => rfl
  | some j =>
    rw [hx] at hp
    rw [Bool.or_eq_true, List.contains_iff_mem] at hp ⊢
    exact hp.imp (h j) id
theorem calm_iff : calmB W f lot = true ↔ ∀ k, k < W.roads.length → openB W f k = true → pushB W f lot k = true → pullB W f lot k = false := by
  unfold calmB
  rw [List.all_eq_true]
  constructor
  · intro h k hk h1 h2
    have := h k (List.mem_range.mpr hk)
    rw [h1, h2, Bool.true_and] at this
    simpa using this
  · intro h k hk
    have := h k (List.mem_range.mp hk)
    cases h1 : openB W f k
    · rfl
    · cases h2 : pushB W f lot k
      · rfl
      · rw [this h1 h2]; rfl
theorem pull_false {k : Nat} : pullB W f lot k = false ↔ ∃ h, (rd W k).e = some h ∧ h ∈ lot ∧ lessB f (tak W h) k = false := by
  unfold pullB
  cases hx : (rd W k).e with
  | none => simp
  | some h => simp
end
end Fn

namespace Fn
open PySem PySem.Spec PyProof.Rows L2 Uv
section
variable {W : Web} {f : List Int} {lot : List Nat}
end
end Fn

namespace Fn
open PySem PySem.Spec PyProof.Rows L2 Uv
section
variable {W : Web} {f : List Int} {lot : List Nat}
def evenB (W : Web) (f : List Int) : Bool := (List.range W.gives.length).all fun h => decide (((giv W h).map (at0 f)).sum = ((tak W h).map (at0 f)).sum)
end
end Fn

namespace Fn
open PySem PySem.Spec PyProof.Rows L2 Uv
section
variable {W : Web} {f : List Int} {lot : List Nat}
def netOf (W : Web) : Calm.Net := ⟨W.roads.length, W.gives.length, fun k => (rd W k).b, fun k => (rd W k).e, fun k => (rd W k).r, giv W, tak W⟩
theorem giv_out {h : Nat} (hh : ¬ h < W.gives.length) : giv W h = [] := by simp [giv, hh]
theorem tak_out (hw : IsWeb W) {h : Nat} (hh : ¬ h < W.gives.length) : tak W h = [] := by have := hw.same; simp [tak, this, hh]
end
end Fn

namespace Fn
open PySem PySem.Spec PyProof.Rows L2 Uv
structure Pr (W : Web) (p : List Int × List Nat) : Prop where
  be : Bears W p.1
  hi : ∀ k, at0 p.1 k ≤ (rd W k).r
  ev : evenB W p.1 = true
  ca : calmB W p.1 p.2 = true
  lo : IsLot W.gives.length p.2
section
variable {W : Web} {p q : List Int × List Nat} {h : Nat}
theorem Pr.rests (hw : IsWeb W) (h : Pr W p) : Calm.Rests (netOf W) (at0 p.1) (fun x => x ∈ p.2) := by
  refine ⟨h.be.at, h.hi, fun x => ?_, fun k kn hk hb => ?_⟩
  · by_cases c : x < W.gives.length
    · have e := h.ev
      unfold evenB at e
      exact of_decide_eq_true (List.all_eq_true.mp e x (List.mem_range.mpr c))
    · show Calm.sm (giv W x) _ = Calm.sm (tak W x) _
      rw [giv_out c, tak_out hw c]
  · have kn : k < W.roads.length := kn
    have pu : pushB W p.1 p.2 k = true := by
      unfold pushB
      cases hb' : (rd W k).b with
      | none => rfl
      | some x =>
        show (p.2.contains x || lessB p.1 (giv W x) k) = true
        rw [Bool.or_eq_true, List.contains_iff_mem]
        rcases hb x hb' with z | ⟨j, hj, a, b⟩
        · exact .inl z
        · exact .inr ((lessB_iff (hw.nd_giv ((hw.rd kn).2.1 x hb'))).mpr ⟨j, hj, a, b⟩)
    have pl := calm_iff.mp h.ca k kn (decide_eq_true hk) pu
    obtain ⟨x, e, m, z⟩ := pull_false.mp pl
    refine ⟨x, e, m, fun j hj hij => ?_⟩
    have := h.be.at j
    apply Classical.byContradiction
    intro y
    have : lessB p.1 (tak W x) k = true := (lessB_iff (hw.nd_tak ((hw.rd kn).2.2.1 x e))).mpr ⟨j, hj, hij, by omega⟩
    rw [this] at z
    exact nomatch z
def keyL (W : Web) (p : List Int × List Nat) (h : Nat) : List Int := if p.2.contains h = true then 0 :: 0 :: (giv W h).map (at0 p.1) else 1 :: -((tak W h).map (at0 p.1)).sum :: (giv W h).map (at0 p.1)
def cmpK (W : Web) (h : Nat) (p q : List Int × List Nat) : Int := if keyL W p h = keyL W q h then 0 else if Calm.lx (keyL W q h) (keyL W p h) = true then 1 else -1
end
end Fn

namespace Uv
open PySem PySem.Spec PyProof.Rows L2
@[simp] theorem q_iAt {x : XE} {v : VE} : iAt x v = (x v).bind isI := (rfl)
@[simp] theorem q_eD {c : PD} {r r' : List PD} {n b t0 b0 : Int} {m : PD} {z6 z7 : Sl} : vA (eD c r n b m t0 b0 z6 z7) r' = [some (.list [c, .int n, .list r, .int b]), some m, some c, some (.int t0), some (.list r'), some (.int b0), z6.vw, z7.vw] := (rfl)
@[simp] theorem q_ownD {c : PD} {r : List PD} {n b t0 b0 : Int} {m : PD} {z6 z7 : Sl} : ownAt (eD c r n b m t0 b0 z6 z7) 0 = some [.dat c, .dat (.int n), .sub r, .dat (.int b)] := (rfl)
@[simp] theorem q_sDraw {xs xt xd xv xb xf : XE} {xc : XT} {c m : PD} {r : List PD} {n b : Int} : sDraw xs xt xc xd xv xb xf [.own [.dat c, .dat (.int n), .sub r, .dat (.int b)], .dat m, .un, .un, .un, .un, .un, .un] = 
    (iAt xs (vA (eD c r n b m n b .un .un) r)).bind fun s =>
    (iAt xt (vA (eD c r n b m n b (.dat (.int s)) .un) r)).bind fun t1 =>
    (xc (vA (eD c r t1 b m n b (.dat (.int s)) .un) r)).bind fun k =>
    alt k (tag ((iAt xd (vA (eD c r t1 b m n b (.dat (.int s)) .un) r)).bind fun d =>
      (iAt xv (vA (eD c r t1 b m n b (.dat (.int s)) (.dat (.int d))) r)).bind fun v =>
      (ixN r.length s).bind fun j => some (.ret (.int d) (eD c (r.set j (.int v)) t1 b m n b (.dat (.int s)) (.dat (.int d))))))
    (tag ((iAt xb (vA (eD c r t1 b m n b (.dat (.int s)) .un) r)).bind fun v =>
      (iAt xf (vA (eD c r t1 v m n b (.dat (.int s)) .un) r)).bind fun z => some (.ret (.int z) (eD c r t1 v m n b (.dat (.int s)) .un)))) := (rfl)
end Uv
namespace Fn
open PySem PySem.Spec PyProof.Rows L2 Uv
def DkC (b : Nat) (cs : List Cel) : Prop := ∃ (gs rs : List Int) (n w : Int), cs = [.dat (.list (gs.map PyData.int)), .dat (.int n), .sub (rs.map PyData.int), .dat (.int w)] ∧ 1 ≤ gs.length ∧ gs.length ≤ 64 ∧ rs.length = gs.length ∧ 0 ≤ n ∧ n ≤ b ∧ 0 ≤ w ∧ w < 2147483647
theorem DkC.mono {b c : Nat} {cs : List Cel} (h : DkC b cs) (hb : b ≤ c) : DkC c cs := by
  obtain ⟨gs, rs, n, w, e, h1, h2, h3, h4, h5, h6⟩ := h
  exact ⟨gs, rs, n, w, e, h1, h2, h3, h4, by omega, h6⟩
end Fn

namespace Fn
open PySem PySem.Spec PyProof.Rows L2 Uv
end Fn

namespace Fn
open PySem PySem.Spec PyProof.Rows L2 Uv
section
variable {F : Fair} {X : List Int}
theorem spa_set (hF : IsFair F) {t : Nat} {v : Int} (hl : X.length = F.ties.length) (ht : t < F.ties.length) (h0 : at0 X t = 0) (h : Nat) :
    spaS (gvF F h) (X.set t v) = spaS (gvF F h) X - (if (tiF F t).g = h then v else 0) ∧ spaS (tkF F h) (X.set t v) = spaS (tkF F h) X - (if (tiF F t).t = h then v else 0) := by
  have ok := mk_ok hF
  have a1 : at0 (X.set t v) t = v := by simp [at0, hl, ht]
  have a2 : ∀ j, j ≠ t → at0 (X.set t v) j = at0 X j := fun j hj => by
    unfold at0
    rw [List.getD_eq_getElem?_getD, List.getElem?_set_ne (fun e => hj e.symm)]
    rfl
  have key : ∀ (o : List Nat), o.Nodup → Calm.sm o (at0 (X.set t v)) = Calm.sm o (at0 X) + (if t ∈ o then v else 0) := fun o nd => by
    by_cases m : t ∈ o
    · rw [if_pos m, Fr.sm_one (g := at0 X) nd m fun j _ hn => a2 j hn, a1, h0]; omega
    · rw [if_neg m, Calm.sm_same (g := at0 X) fun j hj => a2 j fun e => m (by rw [← e]; exact hj)]; omega
  unfold spaS
  constructor
  · rw [key (gvF F h).order (ok.g.nd h)]
    by_cases e : (tiF F t).g = h
    · have m : t ∈ (gvF F h).order := by rw [← e]; exact ok.g.mem t ht
      rw [if_pos m, if_pos e]; omega
    · have m : t ∉ (gvF F h).order := fun z => e (ok.g.back h t z).2
      rw [if_neg m, if_neg e]; omega
  · rw [key (tkF F h).order (ok.p.nd h)]
    by_cases e : (tiF F t).t = h
    · have m : t ∈ (tkF F h).order := by rw [← e]; exact ok.p.mem t ht
      rw [if_pos m, if_pos e]; omega
    · have m : t ∉ (tkF F h).order := fun z => e (ok.p.back h t z).2
      rw [if_neg m, if_neg e]; omega
structure IsSh (F : Fair) (X : List Int) : Prop where
  len : X.length = F.ties.length
  sh : Fr.Sh (mkF F) (at0 X)
theorem IsSh.of (hl : X.length = F.ties.length) (lo : ∀ t, 0 ≤ at0 X t) (hi : ∀ t, t < F.ties.length → at0 X t ≤ (tiF F t).r) (g : ∀ h, 0 ≤ spaS (gvF F h) X) (p : ∀ h, 0 ≤ spaS (tkF F h) X) : IsSh F X :=
  ⟨hl, ⟨lo, hi, fun h => by have := g h; unfold spaS at this; show Calm.sm (gvF F h).order (at0 X) ≤ (gvF F h).much; omega, fun h => by have := p h; unfold spaS at this; show Calm.sm (tkF F h).order (at0 X) ≤ (tkF F h).much; omega⟩⟩
theorem IsSh.spg (h : IsSh F X) (k : Nat) : 0 ≤ spaS (gvF F k) X := by have := h.sh.g k; have : Calm.sm (gvF F k).order (at0 X) ≤ (gvF F k).much := this; unfold spaS; omega
theorem IsSh.spt (h : IsSh F X) (k : Nat) : 0 ≤ spaS (tkF F k) X := by have := h.sh.p k; have : Calm.sm (tkF F k).order (at0 X) ≤ (tkF F k).much := this; unfold spaS; omega
theorem IsSh.put (hF : IsFair F) (h : IsSh F X) {t : Nat} {v : Int} (ht : t < F.ties.length) (h0 : at0 X t = 0) (v0 : 0 ≤ v) (v1 : v ≤ (tiF F t).r) (v2 : v ≤ spaS (gvF F (tiF F t).g) X) (v3 : v ≤ spaS (tkF F (tiF F t).t) X) : IsSh F (X.set t v) := by
  have a1 : at0 (X.set t v) t = v := by simp [at0, h.len, ht]
  have a2 : ∀ j, j ≠ t → at0 (X.set t v) j = at0 X j := fun j hj => by
    unfold at0
    rw [List.getD_eq_getElem?_getD, List.getElem?_set_ne (fun e => hj e.symm)]
    rfl
  refine .of (by rw [List.length_set]; exact h.len) (fun j => ?_) (fun j hj => ?_) (fun k => ?_) fun k => ?_
  · by_cases e : j = t
    · rw [e, a1]; exact v0
    · rw [a2 j e]; exact h.sh.lo j
  · by_cases e : j = t
    · rw [e, a1]; exact v1
    · rw [a2 j e]; exact h.sh.hi j hj
  · rw [(spa_set hF h.len ht h0 k).1]
    by_cases e : (tiF F t).g = k
    · rw [if_pos e, ← e]; omega
    · rw [if_neg e]; have := h.spg k; omega
  · rw [(spa_set hF h.len ht h0 k).2]
    by_cases e : (tiF F t).t = k
    · rw [if_pos e, ← e]; omega
    · rw [if_neg e]; have := h.spt k; omega
end
end Fn

namespace Fn
open PySem PySem.Spec PyProof.Rows L2 Uv
section
variable {F : Fair} {X : List Int} {b : Bool}
end
end Fn

namespace Fn
open PySem PySem.Spec PyProof.Rows L2 Uv
section
variable {F : Fair} {X : List Int} {b : Bool}
end
end Fn

namespace Fn
open PySem PySem.Spec PyProof.Rows L2 Uv
section
variable {F : Fair} {X : List Int}
structure Small (F : Fair) : Prop where
  n : F.ties.length ≤ 5
  r : ∀ x ∈ F.ties, x.r ≤ 3
end
end Fn

namespace Fn
open PySem PySem.Spec PyProof.Rows L2 Uv
section
variable {F : Fair} {X Y Z A B : List Int}
end
end Fn

namespace Fn
open PySem PySem.Spec PyProof.Rows L2 Uv
section
variable {F : Fair} {X Y Z A B : List Int}
structure Settled (F : Fair) (Y : List Int) : Prop where
  sh : IsSh F Y
  best : Fr.Best (mkF F) (at0 Y)
end
end Fn

namespace Fn
open PySem PySem.Spec PyProof.Rows L2 Uv
section
variable {F : Fair} {X Y Z A B : List Int}
end
end Fn

namespace Fn
open PySem PySem.Spec PyProof.Rows L2 Uv
section
variable {W : Web} {h t k : Nat} {X : List Int} {p : List Int × List Nat}
theorem sm_app {l m : List Nat} {g : Nat → Int} : Calm.sm (l ++ m) g = Calm.sm l g + Calm.sm m g := by unfold Calm.sm; rw [List.map_append, List.sum_append]
theorem sm_one1 {a : Nat} {g : Nat → Int} : Calm.sm [a] g = g a := by simp [Calm.sm]
theorem ti_road (hk : k < W.roads.length) : tiF (fairOf W) k = ⟨seatOf W 0 (rd W k, k), seatOf W 1 (rd W k, k), (rd W k).r⟩ := by
  unfold tiF
  rw [List.getD_eq_getElem?_getD, tie_road (List.getElem?_eq_getElem hk), rd_eq hk]
  rfl
theorem seat_h0 (e : (rd W k).b = some h) : seatOf W 0 (rd W k, k) = h := by
  unfold seatOf
  rw [show side 0 (rd W k, k).1 = some h from e]
theorem seat_h1 (e : (rd W k).e = some h) : seatOf W 1 (rd W k, k) = h := by
  unfold seatOf
  rw [show side 1 (rd W k, k).1 = some h from e]
theorem doorSeat {s : Nat} (hk : k < W.roads.length) (e : side s (rd W k) = none) : (doorSeats W s)[(doorsOf W s).idxOf k]? = some ⟨(rd W k).r, [k]⟩ := by
  have hm : k ∈ doorsOf W s := mem_doors.mpr ⟨_, List.getElem?_eq_getElem hk, by rw [← rd_eq hk]; exact e⟩
  have hl := List.idxOf_lt_length_iff.mpr hm
  have hg := List.getElem_idxOf hl
  have hl2 : (doorsOf W s).idxOf k < (doorP W s).length := by unfold doorsOf at hl ⊢; simpa using hl
  obtain ⟨g1, g2, g3⟩ := doorP_mem (List.getElem_mem hl2)
  have e2 : ((doorP W s)[(doorsOf W s).idxOf k]).2 = k := by
    have q : ∀ (i : Nat) (h : i < (doorP W s).length) (h' : i < (doorsOf W s).length), ((doorP W s)[i]).2 = (doorsOf W s)[i] := fun i h h' => by simp [doorsOf]
    rw [q _ hl2 hl]
    exact hg
  unfold doorSeats
  rw [List.getElem?_map, List.getElem?_eq_getElem hl2]
  show some (⟨_, _⟩ : Seat) = _
  rw [← g2]
  simp only [e2]
  rw [rd_eq hk]
theorem gv_door (hk : k < W.roads.length) (e : (rd W k).b = none) : gvF (fairOf W) (seatOf W 0 (rd W k, k)) = ⟨(rd W k).r, [k]⟩ := by
  have es : seatOf W 0 (rd W k, k) = W.gives.length + (doorsOf W 0).idxOf k := by unfold seatOf; rw [show side 0 (rd W k, k).1 = none from e]
  rw [es]
  unfold gvF
  have : (fairOf W).givers = giversOf W := rfl
  rw [this, List.getD_eq_getElem?_getD]
  unfold giversOf
  rw [List.getElem?_append_right (by simp)]
  simp only [List.length_map, List.length_zipIdx, Nat.add_sub_cancel_left]
  rw [doorSeat (s := 0) hk e]
  rfl
theorem tk_door (hw : IsWeb W) (hk : k < W.roads.length) (e : (rd W k).e = none) : tkF (fairOf W) (seatOf W 1 (rd W k, k)) = ⟨(rd W k).r, [k]⟩ := by
  have es : seatOf W 1 (rd W k, k) = W.takes.length + (doorsOf W 1).idxOf k := by unfold seatOf; rw [show side 1 (rd W k, k).1 = none from e, hw.same]
  rw [es]
  unfold tkF
  have : (fairOf W).takers = takersOf W := rfl
  rw [this, List.getD_eq_getElem?_getD]
  unfold takersOf
  rw [List.getElem?_append_right (by simp)]
  simp only [List.length_map, List.length_zipIdx, Nat.add_sub_cancel_left]
  rw [doorSeat (s := 1) hk e]
  rfl
theorem tot_g (hh : h < W.gives.length) {x : Nat → Int} : Fr.tot (mkF (fairOf W)).G x h = x (lyingOf W h) + Calm.sm (giv W h) x + x (lyingOf W h + 1) := by
  unfold Fr.tot
  show Calm.sm (gvF (fairOf W) h).order x = _
  rw [gv_house hh, giv_eq hh]
  show Calm.sm (_ :: _) x = _
  rw [Calm.sm_cons, sm_app, sm_one1]
  omega
theorem tot_p (hw : IsWeb W) (hh : h < W.gives.length) {x : Nat → Int} : Fr.tot (mkF (fairOf W)).P x h = x (lyingOf W h) + Calm.sm (tak W h) x + x (lyingOf W h + 1) := by
  have hh' : h < W.takes.length := by rw [hw.same]; exact hh
  unfold Fr.tot
  show Calm.sm (tkF (fairOf W) h).order x = _
  rw [tk_house hh', tak_eq hh']
  show Calm.sm (_ :: _) x = _
  rw [Calm.sm_cons, sm_app, sm_one1]
  omega
theorem room_sum : Calm.sm (List.range W.roads.length) (fun k => (rd W k).r) = bigOf W - 1 := by
  unfold bigOf Calm.sm
  have : (List.range W.roads.length).map (fun k => (rd W k).r) = W.roads.map (·.r) := by
    apply List.ext_getElem
    · simp
    · intro i h1 h2
      simp only [List.getElem_map, List.getElem_range]
      rw [rd_eq (by simpa using h2)]
  rw [this]
  omega
theorem part_le {l : List Nat} {n : Nat} {f g : Nat → Int} (nd : l.Nodup) (lt : ∀ j ∈ l, j < n) (h0 : ∀ j, j < n → 0 ≤ g j) (le : ∀ j ∈ l, f j ≤ g j) : Calm.sm l f ≤ Calm.sm (List.range n) g := by
  have p : l.Perm ((List.range n).filter fun j => decide (j ∈ l)) := (List.perm_ext_iff_of_nodup nd (List.nodup_range.filter _)).mpr fun j => by
    rw [List.mem_filter, List.mem_range, decide_eq_true_iff]
    exact ⟨fun q => ⟨lt j q, q⟩, fun q => q.2⟩
  refine Int.le_trans (Calm.sm_le le) ?_
  rw [Calm.sm_perm p, Calm.sm_filter]
  refine Calm.sm_le fun j hj => ?_
  have := h0 j (List.mem_range.mp hj)
  split <;> omega
theorem tak_big (hw : IsWeb W) (hh : h < W.gives.length) {x : Nat → Int} (hi : ∀ k, k < W.roads.length → x k ≤ (rd W k).r) : Calm.sm (tak W h) x < bigOf W := by
  have := part_le (n := W.roads.length) (f := x) (g := fun k => (rd W k).r) (hw.nd_tak hh) (fun j hj => ((hw.mem_tak hh).mp hj).1) (fun j hj => (hw.rd hj).2.2.2.1) fun j hj => hi j ((hw.mem_tak hh).mp hj).1
  rw [room_sum] at this
  omega
theorem aft_g (hw : IsWeb W) (hh : h < W.gives.length) {j : Nat} (hk : k ∈ giv W h) (hj : j ∈ giv W h) : Fr.aft (mkF (fairOf W)).G k j ↔ (giv W h).idxOf k < (giv W h).idxOf j := by
  obtain ⟨kn, kb⟩ := (hw.mem_giv hh).mp hk
  obtain ⟨jn, jb⟩ := (hw.mem_giv hh).mp hj
  have e : (mkF (fairOf W)).G.of k = h := by show (tiF _ _).g = h; rw [ti_road kn]; exact seat_h0 kb
  have o : (mkF (fairOf W)).G.o h = lyingOf W h :: (giv W h ++ [lyingOf W h + 1]) := by show (gvF (fairOf W) h).order = _; rw [gv_house hh, giv_eq hh]
  unfold Fr.aft
  rw [e, o]
  have nk : lyingOf W h ≠ k := by unfold lyingOf; omega
  have nj : lyingOf W h ≠ j := by unfold lyingOf; omega
  rw [List.idxOf_cons, List.idxOf_cons, beq_eq_false_iff_ne.mpr nk, beq_eq_false_iff_ne.mpr nj]
  simp only [cond_false, Bool.false_eq_true, if_false]
  rw [List.idxOf_append, List.idxOf_append, if_pos hk, if_pos hj]
  constructor
  · rintro ⟨_, q⟩; omega
  · intro q; exact ⟨List.mem_cons_of_mem _ (List.mem_append_left _ hj), by omega⟩
theorem aft_p (hw : IsWeb W) (hh : h < W.gives.length) {j : Nat} (hk : k ∈ tak W h) (hj : j ∈ tak W h) : Fr.aft (mkF (fairOf W)).P k j ↔ (tak W h).idxOf k < (tak W h).idxOf j := by
  have hh' : h < W.takes.length := by rw [hw.same]; exact hh
  obtain ⟨kn, kb⟩ := (hw.mem_tak hh).mp hk
  obtain ⟨jn, jb⟩ := (hw.mem_tak hh).mp hj
  have e : (mkF (fairOf W)).P.of k = h := by show (tiF _ _).t = h; rw [ti_road kn]; exact seat_h1 kb
  have o : (mkF (fairOf W)).P.o h = (lyingOf W h + 1) :: (tak W h ++ [lyingOf W h]) := by show (tkF (fairOf W) h).order = _; rw [tk_house hh', tak_eq hh']
  unfold Fr.aft
  rw [e, o]
  have nk : lyingOf W h + 1 ≠ k := by unfold lyingOf; omega
  have nj : lyingOf W h + 1 ≠ j := by unfold lyingOf; omega
  rw [List.idxOf_cons, List.idxOf_cons, beq_eq_false_iff_ne.mpr nk, beq_eq_false_iff_ne.mpr nj]
  simp only [cond_false, Bool.false_eq_true, if_false]
  rw [List.idxOf_append, List.idxOf_append, if_pos hk, if_pos hj]
  constructor
  · rintro ⟨_, q⟩; omega
  · intro q; exact ⟨List.mem_cons_of_mem _ (List.mem_append_left _ hj), by omega⟩
theorem of_g (hk : k < W.roads.length) (e : (rd W k).b = some h) : (mkF (fairOf W)).G.of k = h := by show (tiF _ _).g = h; rw [ti_road hk]; exact seat_h0 e
theorem of_p (hk : k < W.roads.length) (e : (rd W k).e = some h) : (mkF (fairOf W)).P.of k = h := by show (tiF _ _).t = h; rw [ti_road hk]; exact seat_h1 e
def shrW (W : Web) (p : List Int × List Nat) : List Int := p.1 ++ (List.range W.gives.length).flatMap fun h => if p.2.contains h = true then [0, bigOf W - ((tak W h).map (at0 p.1)).sum] else [bigOf W - ((tak W h).map (at0 p.1)).sum, 0]
theorem flat2_len {n : Nat} {c : Nat → Bool} {a b : Nat → Int} : ((List.range n).flatMap fun h => if c h = true then [(0 : Int), a h] else [b h, 0]).length = 2 * n := by
  induction n with
  | zero => rfl
  | succ n ih =>
    rw [List.range_succ, List.flatMap_append, List.length_append, ih]
    simp
    split <;> simp <;> omega
theorem flat2_get {n : Nat} {c : Nat → Bool} {a b : Nat → Int} {h : Nat} (hh : h < n) : ((List.range n).flatMap fun h => if c h = true then [(0 : Int), a h] else [b h, 0])[2 * h]? = some (if c h = true then 0 else b h) ∧ ((List.range n).flatMap fun h => if c h = true then [(0 : Int), a h] else [b h, 0])[2 * h + 1]? = some (if c h = true then a h else 0) := by
  induction n with
  | zero => omega
  | succ n ih =>
    rw [List.range_succ, List.flatMap_append]
    by_cases q : h < n
    · rw [List.getElem?_append_left (by rw [flat2_len]; omega), List.getElem?_append_left (by rw [flat2_len]; omega)]
      exact ih q
    · have : h = n := by omega
      subst this
      rw [List.getElem?_append_right (by rw [flat2_len]; omega), List.getElem?_append_right (by rw [flat2_len]; omega), flat2_len]
      rw [show 2 * h - 2 * h = 0 by omega, show 2 * h + 1 - 2 * h = 1 by omega]
      simp
      split <;> simp
theorem shr_len (hl : p.1.length = W.roads.length) : (shrW W p).length = W.roads.length + 2 * W.gives.length := by unfold shrW; rw [List.length_append, flat2_len, hl]
theorem at_shr (hl : p.1.length = W.roads.length) (hk : k < W.roads.length) : at0 (shrW W p) k = at0 p.1 k := by
  unfold at0 shrW
  rw [List.getD_eq_getElem?_getD, List.getD_eq_getElem?_getD, List.getElem?_append_left (by omega)]
theorem at_lying (hl : p.1.length = W.roads.length) (hh : h < W.gives.length) : at0 (shrW W p) (lyingOf W h) = (if p.2.contains h = true then 0 else bigOf W - Calm.sm (tak W h) (at0 p.1)) ∧ at0 (shrW W p) (lyingOf W h + 1) = (if p.2.contains h = true then bigOf W - Calm.sm (tak W h) (at0 p.1) else 0) := by
  have g := flat2_get (c := fun h => p.2.contains h) (a := fun h => bigOf W - ((tak W h).map (at0 p.1)).sum) (b := fun h => bigOf W - ((tak W h).map (at0 p.1)).sum) hh
  unfold at0 shrW lyingOf
  constructor
  · rw [List.getD_eq_getElem?_getD, List.getElem?_append_right (by omega), hl, show W.roads.length + 2 * h - W.roads.length = 2 * h by omega, g.1]
    rfl
  · rw [List.getD_eq_getElem?_getD, List.getElem?_append_right (by omega), hl, show W.roads.length + 2 * h + 1 - W.roads.length = 2 * h + 1 by omega, g.2]
    rfl
theorem stl_of_pr (hw : IsWeb W) (hp : Pr W p) : IsSh (fairOf W) (shrW W p) ∧ Fr.Stl (mkF (fairOf W)) (at0 (shrW W p)) ∧ ∀ h, h < W.gives.length → Fr.tot (mkF (fairOf W)).G (at0 (shrW W p)) h = bigOf W ∧ Fr.tot (mkF (fairOf W)).P (at0 (shrW W p)) h = bigOf W := by
  have ok := mk_ok (fair_ok hw)
  have n1 : (mkF (fairOf W)).n = W.roads.length + 2 * W.gives.length := ties_len
  have pl := hp.be.len
  have sl := shr_len (W := W) pl
  have rs := hp.rests hw
  have hi : ∀ k, k < W.roads.length → at0 p.1 k ≤ (rd W k).r := fun k _ => hp.hi k
  have same : ∀ l : List Nat, (∀ j ∈ l, j < W.roads.length) → Calm.sm l (at0 (shrW W p)) = Calm.sm l (at0 p.1) := fun l hj => Calm.sm_same fun j q => at_shr pl (hj j q)
  have full : ∀ h, h < W.gives.length → Fr.tot (mkF (fairOf W)).G (at0 (shrW W p)) h = bigOf W ∧ Fr.tot (mkF (fairOf W)).P (at0 (shrW W p)) h = bigOf W := fun h hh => by
    have ev := rs.even h
    have ev : Calm.sm (giv W h) (at0 p.1) = Calm.sm (tak W h) (at0 p.1) := ev
    obtain ⟨a, b⟩ := at_lying (W := W) pl hh
    rw [tot_g hh, tot_p hw hh, same _ fun j hj => ((hw.mem_giv hh).mp hj).1, same _ fun j hj => ((hw.mem_tak hh).mp hj).1, a, b]
    constructor <;> split <;> omega
  have half : ∀ t, W.roads.length ≤ t → t < W.roads.length + 2 * W.gives.length → ∃ h, h < W.gives.length ∧ (t = lyingOf W h ∨ t = lyingOf W h + 1) := fun t h1 h2 => ⟨(t - W.roads.length) / 2, by omega, by unfold lyingOf; omega⟩
  have lo : ∀ t, 0 ≤ at0 (shrW W p) t := fun t => by
    by_cases c : t < W.roads.length
    · rw [at_shr pl c]; exact hp.be.at t
    · by_cases c2 : t < W.roads.length + 2 * W.gives.length
      · obtain ⟨h, hh, q⟩ := half t (by omega) c2
        obtain ⟨a, b⟩ := at_lying (W := W) pl hh
        have := tak_big hw hh hi
        rcases q with rfl | rfl
        · rw [a]; split <;> omega
        · rw [b]; split <;> omega
      · have : at0 (shrW W p) t = 0 := by simp [at0, sl, c2]
        omega
  have rr : ∀ k, k < W.roads.length → (mkF (fairOf W)).r k = (rd W k).r := fun k hk => by show (tiF _ _).r = _; rw [ti_road hk]
  have hiA : ∀ t, t < (mkF (fairOf W)).n → at0 (shrW W p) t ≤ (mkF (fairOf W)).r t := fun t tn => by
    rw [n1] at tn
    by_cases c : t < W.roads.length
    · rw [at_shr pl c, rr t c]; exact hp.hi t
    · obtain ⟨h, hh, q⟩ := half t (by omega) tn
      obtain ⟨a, b⟩ := at_lying (W := W) pl hh
      have H := house_of hw hh
      have := Calm.sm_nn (l := tak W h) (g := at0 p.1) fun j _ => hp.be.at j
      have := (big_ok hw).1
      rcases q with rfl | rfl
      · rw [a, H.ra]; split <;> omega
      · rw [b, H.rb]; split <;> omega
  have shh : Fr.Sh (mkF (fairOf W)) (at0 (shrW W p)) := by
    have hgl : (fairOf W).givers.length = W.gives.length + (doorP W 0).length := by show (giversOf W).length = _; unfold giversOf doorSeats; simp
    have htl : (fairOf W).takers.length = W.gives.length + (doorP W 1).length := by show (takersOf W).length = _; unfold takersOf doorSeats; simp [hw.same]
    refine ⟨lo, hiA, fun h => ?_, fun h => ?_⟩
    · by_cases c : h < W.gives.length
      · rw [(full h c).1, (house_of hw c).mg]; exact Int.le_refl _
      · by_cases c2 : h < (fairOf W).givers.length
        · have hd : h - W.gives.length < (doorP W 0).length := by omega
          obtain ⟨g1, g2, g3⟩ := doorP_mem (List.getElem_mem hd)
          have hm : (doorP W 0)[h - W.gives.length].2 = (doorsOf W 0)[h - W.gives.length]'(by unfold doorsOf; simpa using hd) := by simp [doorsOf]
          have eb : (rd W (doorP W 0)[h - W.gives.length].2).b = none := by rw [rd_eq g1, g2]; exact g3
          have es : seatOf W 0 (rd W (doorP W 0)[h - W.gives.length].2, (doorP W 0)[h - W.gives.length].2) = h := by
            unfold seatOf
            rw [show side 0 (rd W (doorP W 0)[h - W.gives.length].2, (doorP W 0)[h - W.gives.length].2).1 = none from eb]
            show W.gives.length + (doorsOf W 0).idxOf _ = h
            rw [hm, idx_of (nodup_of_lt doors_sorted)]
            omega
          have gd := gv_door g1 eb
          rw [es] at gd
          unfold Fr.tot
          show Calm.sm (gvF (fairOf W) h).order _ ≤ (gvF (fairOf W) h).much
          rw [gd]
          show Calm.sm [_] _ ≤ _
          rw [sm_one1, at_shr pl g1]
          exact hp.hi _
        · have e : gvF (fairOf W) h = ⟨0, []⟩ := by simp [gvF, c2]
          unfold Fr.tot
          show Calm.sm (gvF (fairOf W) h).order _ ≤ (gvF (fairOf W) h).much
          rw [e]
          exact Int.le_refl _
    · by_cases c : h < W.gives.length
      · rw [(full h c).2, (house_of hw c).mp]; exact Int.le_refl _
      · by_cases c2 : h < (fairOf W).takers.length
        · have hd : h - W.gives.length < (doorP W 1).length := by omega
          obtain ⟨g1, g2, g3⟩ := doorP_mem (List.getElem_mem hd)
          have hm : (doorP W 1)[h - W.gives.length].2 = (doorsOf W 1)[h - W.gives.length]'(by unfold doorsOf; simpa using hd) := by simp [doorsOf]
          have eb : (rd W (doorP W 1)[h - W.gives.length].2).e = none := by rw [rd_eq g1, g2]; exact g3
          have es : seatOf W 1 (rd W (doorP W 1)[h - W.gives.length].2, (doorP W 1)[h - W.gives.length].2) = h := by
            unfold seatOf
            rw [show side 1 (rd W (doorP W 1)[h - W.gives.length].2, (doorP W 1)[h - W.gives.length].2).1 = none from eb]
            show W.gives.length + (doorsOf W 1).idxOf _ = h
            rw [hm, idx_of (nodup_of_lt doors_sorted)]
            omega
          have gd := tk_door hw g1 eb
          rw [es] at gd
          unfold Fr.tot
          show Calm.sm (tkF (fairOf W) h).order _ ≤ (tkF (fairOf W) h).much
          rw [gd]
          show Calm.sm [_] _ ≤ _
          rw [sm_one1, at_shr pl g1]
          exact hp.hi _
        · have e : tkF (fairOf W) h = ⟨0, []⟩ := by simp [tkF, c2]
          unfold Fr.tot
          show Calm.sm (tkF (fairOf W) h).order _ ≤ (tkF (fairOf W) h).much
          rw [e]
          exact Int.le_refl _
  refine ⟨⟨by rw [sl]; exact ties_len.symm, shh⟩, ⟨shh, fun t tn lt wg wp => ?_⟩, full⟩
  -- whoever would have more of a tie
  have needG : ∀ h, h < W.gives.length → (mkF (fairOf W)).G.of t = h → ∃ s, Fr.aft (mkF (fairOf W)).G t s ∧ 0 < at0 (shrW W p) s := fun h hh e => by
    rcases wg with q | q
    · rw [e, (full h hh).1, (house_of hw hh).mg] at q; omega
    · exact q
  have needP : ∀ h, h < W.gives.length → (mkF (fairOf W)).P.of t = h → ∃ s, Fr.aft (mkF (fairOf W)).P t s ∧ 0 < at0 (shrW W p) s := fun h hh e => by
    rcases wp with q | q
    · rw [e, (full h hh).2, (house_of hw hh).mp] at q; omega
    · exact q
  have tn' := tn
  rw [n1] at tn'
  by_cases c : t < W.roads.length
  · rw [at_shr pl c, rr t c] at lt
    have pu : pushB W p.1 p.2 t = true := by
      unfold pushB
      cases hb : (rd W t).b with
      | none => rfl
      | some h =>
        have hh := (hw.rd c).2.1 h hb
        have og := of_g c hb
        have H := house_of hw hh
        obtain ⟨s, ha, hs⟩ := needG h hh og
        obtain ⟨sn, so⟩ := ha.lt ok.g
        rw [og] at so
        show (p.2.contains h || lessB p.1 (giv W h) t) = true
        have sn' := sn
        rw [n1] at sn'
        by_cases sr : s < W.roads.length
        · have sm : s ∈ giv W h := by
            refine (hw.mem_giv hh).mpr ⟨sr, ?_⟩
            cases hb2 : (rd W s).b with
            | some h2 =>
              have := of_g sr hb2
              rw [so] at this
              rw [this]
            | none =>
              exfalso
              have e : (mkF (fairOf W)).G.of s = seatOf W 0 (rd W s, s) := by show (tiF _ _).g = _; rw [ti_road sr]
              rw [so] at e
              unfold seatOf at e
              rw [show side 0 (rd W s, s).1 = none from hb2] at e
              have e : h = W.gives.length + _ := e
              omega
          rw [at_shr pl sr] at hs
          rw [(lessB_iff (hw.nd_giv hh)).mpr ⟨s, sm, (aft_g hw hh ((hw.mem_giv hh).mpr ⟨c, hb⟩) sm).mp ha, hs⟩, Bool.or_true]
        · obtain ⟨h2, hh2, q⟩ := half s (by omega) sn'
          have H2 := house_of hw hh2
          have e2 : h2 = h := by
            rcases q with rfl | rfl
            · rw [← H2.ga, so]
            · rw [← H2.gb, so]
          subst e2
          rcases q with rfl | rfl
          · exact ((H.gf t tn og (by unfold lyingOf; omega)).asym ok.g ha).elim
          · rw [(at_lying pl hh).2] at hs
            by_cases cl : p.2.contains h2 = true
            · rw [cl, Bool.true_or]
            · rw [if_neg cl] at hs; omega
    obtain ⟨h, he, hm, hz⟩ := pull_false.mp (calm_iff.mp hp.ca t c (decide_eq_true lt) pu)
    have hh := (hw.rd c).2.2.1 h he
    have op := of_p c he
    have H := house_of hw hh
    obtain ⟨s, ha, hs⟩ := needP h hh op
    obtain ⟨sn, so⟩ := ha.lt ok.p
    rw [op] at so
    have sn' := sn
    rw [n1] at sn'
    by_cases sr : s < W.roads.length
    · have sm : s ∈ tak W h := by
        refine (hw.mem_tak hh).mpr ⟨sr, ?_⟩
        cases hb2 : (rd W s).e with
        | some h2 =>
          have := of_p sr hb2
          rw [so] at this
          rw [this]
        | none =>
          exfalso
          have e : (mkF (fairOf W)).P.of s = seatOf W 1 (rd W s, s) := by show (tiF _ _).t = _; rw [ti_road sr]
          rw [so] at e
          unfold seatOf at e
          rw [show side 1 (rd W s, s).1 = none from hb2] at e
          have e : h = W.gives.length + _ := e
          omega
      rw [at_shr pl sr] at hs
      rw [(lessB_iff (hw.nd_tak hh)).mpr ⟨s, sm, (aft_p hw hh ((hw.mem_tak hh).mpr ⟨c, he⟩) sm).mp ha, hs⟩] at hz
      exact nomatch hz
    · obtain ⟨h2, hh2, q⟩ := half s (by omega) sn'
      have H2 := house_of hw hh2
      have e2 : h2 = h := by
        rcases q with rfl | rfl
        · rw [← H2.pa, so]
        · rw [← H2.pb, so]
      subst e2
      rcases q with rfl | rfl
      · rw [(at_lying pl hh).1, if_pos (List.contains_iff_mem.mpr hm)] at hs
        omega
      · exact (H.pf t tn op (by unfold lyingOf; omega)).asym ok.p ha
  · obtain ⟨h, hh, q⟩ := half t (by omega) tn'
    have H := house_of hw hh
    rcases q with rfl | rfl
    · obtain ⟨s, ha, hs⟩ := needP h hh H.pa
      obtain ⟨sn, so⟩ := ha.lt ok.p
      rw [H.pa] at so
      by_cases e : s = lyingOf W h
      · exact ha.ne e.symm
      · exact (H.pl s sn so e).asym ok.p ha
    · obtain ⟨s, ha, hs⟩ := needG h hh H.gb
      obtain ⟨sn, so⟩ := ha.lt ok.g
      rw [H.gb] at so
      by_cases e : s = lyingOf W h + 1
      · exact ha.ne e.symm
      · exact (H.gl s sn so e).asym ok.g ha
end
end Fn

namespace Fn
open PySem PySem.Spec PyProof.Rows L2 Uv
section
variable {W : Web} {p q : List Int × List Nat} {h : Nat}
theorem Pr.even (hp : Pr W p) (hh : h < W.gives.length) : ((giv W h).map (at0 p.1)).sum = ((tak W h).map (at0 p.1)).sum := by
  have e := hp.ev
  unfold evenB at e
  exact of_decide_eq_true (List.all_eq_true.mp e h (List.mem_range.mpr hh))
end
end Fn

namespace Fn
open PySem PySem.Spec PyProof.Rows L2 Uv
@[simp] theorem q_zip3 {xs ys zs : List PD} : zip3P [.tuple xs, .tuple ys, .tuple zs] = some (zipD3 xs ys zs) := (rfl)
section
variable {W : Web} {p q : List Int × List Nat} {h : Nat}
structure Sz (W : Web) (p : List Int × List Nat) : Prop where
  len : p.1.length = W.roads.length
  lo : IsLot W.gives.length p.2
theorem Pr.sz (hp : Pr W p) : Sz W p := ⟨hp.be.len, hp.lo⟩
def joinS (W : Web) (p q : List Int × List Nat) (k : Nat) : Int := match (rd W k).b with
  | none => at0 p.1 k
  | some h => if cmpK W h p q < 0 then at0 q.1 k else at0 p.1 k
def joinL (W : Web) (p q : List Int × List Nat) : List Int × List Nat := ((List.range W.roads.length).map (joinS W p q), p.2.filter fun h => q.2.contains h)
theorem at0_range {f : Nat → Int} {n k : Nat} (hk : k < n) : at0 ((List.range n).map f) k = f k := by
  rw [at0_eq (by simpa using hk)]
  simp
theorem lot_same {n : Nat} {a b : List Nat} (ha : IsLot n a) (hb : IsLot n b) (h : ∀ x, x < n → (a.contains x = b.contains x)) : a = b := by
  refine List.Perm.eq_of_pairwise (le := fun a b => a < b) (fun a b _ _ h1 h2 => by omega) ha.up hb.up ?_
  refine (List.perm_ext_iff_of_nodup (ha.up.imp fun h => by omega) (hb.up.imp fun h => by omega)).mpr fun z => ?_
  rw [← List.contains_iff_mem, ← List.contains_iff_mem]
  constructor
  · intro hz; rw [← h z (ha.lt z (List.contains_iff_mem.mp hz))]; exact hz
  · intro hz; rw [h z (hb.lt z (List.contains_iff_mem.mp hz))]; exact hz
def Dr (W : Web) (d : Nat → Int) (p : List Int × List Nat) : Prop := ∀ k, k < W.roads.length → (rd W k).b = none → at0 p.1 k = d k
theorem Dr.join {d : Nat → Int} (hp : Dr W d p) : Dr W d (joinL W p q) := fun k hk hb => by
  show at0 ((List.range W.roads.length).map (joinS W p q)) k = _
  rw [at0_range hk]
  unfold joinS
  rw [hb]
  exact hp k hk hb
end
end Fn

namespace Fn
open PySem PySem.Spec PyProof.Rows L2 Uv
section
variable {F : Fair} {X Y Z A B : List Int} {R : List Nat} {c : Int}
theorem Led.div (l : Led F X rs Y) : ∀ k : Int, (∀ t, t < F.ties.length → k ∣ (tiF F t).r) → (∀ h, k ∣ (gvF F h).much) → (∀ h, k ∣ (tkF F h).much) → (∀ t, k ∣ at0 X t) → ∀ t, k ∣ at0 Y t := by
  induction l with
  | done => exact fun k _ _ _ h => h
  | row q l ih => exact fun k h1 h2 h3 h4 => ih k h1 h2 h3 (q.div k h1 h2 h3 h4)
end
end Fn

namespace Fn
open PySem PySem.Spec PyProof.Rows L2 Uv
section
variable {F G : Fair} {X Y Z : List Int} {a b c : List Nat} {t h : Nat}
theorem IsFair.of (g : 1 ≤ G.givers.length ∧ G.givers.length ≤ 28) (t : 1 ≤ G.takers.length ∧ G.takers.length ≤ 28) (n : G.ties.length ≤ 36) (tie : ∀ t, t < G.ties.length → OkTie G.givers.length G.takers.length (tiF G t))
    (give : ∀ h, h < G.givers.length → (0 ≤ (gvF G h).much ∧ (gvF G h).much ≤ 1000000000000000) ∧ (gvF G h).order.Nodup ∧ ∀ t, t ∈ (gvF G h).order ↔ t < G.ties.length ∧ (tiF G t).g = h)
    (take : ∀ h, h < G.takers.length → (0 ≤ (tkF G h).much ∧ (tkF G h).much ≤ 1000000000000000) ∧ (tkF G h).order.Nodup ∧ ∀ t, t ∈ (tkF G h).order ↔ t < G.ties.length ∧ (tiF G t).t = h) : IsFair G := by
  refine ⟨g, t, n, fun x hx => ?_, fun k x hx => ?_, fun k x hx => ?_⟩
  · obtain ⟨i, hi, rfl⟩ := List.getElem_of_mem hx
    rw [← tiF_eq hi]
    exact tie i hi
  · obtain ⟨hk, rfl⟩ := List.getElem?_eq_some_iff.mp hx
    rw [← gvF_eq hk]
    obtain ⟨⟨m0, m1⟩, nd, me⟩ := give k hk
    refine ⟨m0, m1, (List.perm_ext_iff_of_nodup nd nodup_atT).mpr fun t => ?_⟩
    rw [me, mem_at (s := 0) (by omega)]
    simp
  · obtain ⟨hk, rfl⟩ := List.getElem?_eq_some_iff.mp hx
    rw [← tkF_eq hk]
    obtain ⟨⟨m0, m1⟩, nd, me⟩ := take k hk
    refine ⟨m0, m1, (List.perm_ext_iff_of_nodup nd nodup_atT).mpr fun t => ?_⟩
    rw [me, mem_at (s := 1) (by omega)]
    simp
structure Ord (l : List Nat) (n : Nat) : Prop where
  p : l.Perm (List.range n)
theorem Ord.len {n : Nat} (o : Ord a n) : a.length = n := by rw [o.p.length_eq, List.length_range]
theorem Ord.nd {n : Nat} (o : Ord a n) : a.Nodup := o.p.nodup_iff.mpr List.nodup_range
theorem Ord.mem {n : Nat} (o : Ord a n) : t ∈ a ↔ t < n := by rw [o.p.mem_iff, List.mem_range]
theorem Ord.idx {n : Nat} (o : Ord a n) (ht : t < n) : a.idxOf t < n := by rw [← o.len]; exact List.idxOf_lt_length_iff.mpr (o.mem.mpr ht)
theorem Ord.get {n : Nat} (o : Ord a n) (ht : t < n) : a.getD (a.idxOf t) 0 = t := by
  have := o.idx ht
  rw [← o.len] at this
  rw [List.getD_eq_getElem?_getD, List.getElem?_eq_getElem this, Option.getD_some, List.getElem_idxOf]
theorem Ord.at {n : Nat} (o : Ord a n) (ht : t < n) : a.idxOf (a.getD t 0) = t := by
  have h : t < a.length := by rw [o.len]; exact ht
  rw [List.getD_eq_getElem?_getD, List.getElem?_eq_getElem h, Option.getD_some]
  exact idx_of o.nd h
theorem Ord.lt {n : Nat} (o : Ord a n) (ht : t < n) : a.getD t 0 < n := by
  have h : t < a.length := by rw [o.len]; exact ht
  rw [List.getD_eq_getElem?_getD, List.getElem?_eq_getElem h, Option.getD_some]
  exact o.mem.mp (List.getElem_mem h)
theorem Ord.inj {n : Nat} (o : Ord a n) {s : Nat} (ht : t < n) (hs : s < n) (e : a.idxOf t = a.idxOf s) : t = s := by rw [← o.get ht, e, o.get hs]
end
end Fn

namespace Fn
open PySem PySem.Spec PyProof.Rows L2 Uv
structure CalmP (W : Web) (p : List Int × List Nat) : Prop where
  pr : Pr W p
  top : Fr.Top (mkF (fairOf W)) (at0 (shrW W p))
structure LastP (W : Web) (p : List Int × List Nat) : Prop where
  pr : Pr W p
  top : Fr.Top (Fr.flip (mkF (fairOf W))) (at0 (shrW W p))
section
variable {W : Web} {h t k : Nat} {X : List Int} {p q : List Int × List Nat}
theorem none_g (hw : IsWeb W) (hh : h < W.gives.length) {s : Nat} (a : Fr.aft (mkF (fairOf W)).G s (lyingOf W h)) : False := by
  have ok := mk_ok (fair_ok hw)
  have H := house_of hw hh
  have so := (a.lt ok.g).2
  have sm := a.1
  have sn : s < (mkF (fairOf W)).n := by
    apply Classical.byContradiction
    intro q
    have e : (mkF (fairOf W)).G.of s = 0 := by
      show (tiF _ s).g = 0
      have q : ¬ s < (fairOf W).ties.length := q
      simp [tiF, q]
    have h0 : h = 0 := by rw [← e, ← so, H.ga]
    have i0 := a.2
    rw [e, ← h0] at i0
    have o : (mkF (fairOf W)).G.o h = lyingOf W h :: (giv W h ++ [lyingOf W h + 1]) := by show (gvF (fairOf W) h).order = _; rw [gv_house hh, giv_eq hh]
    rw [o, List.idxOf_cons_self] at i0
    omega
  by_cases c : s = lyingOf W h
  · exact a.ne c
  · exact (H.gf s sn (by rw [← so, H.ga]) c).asym ok.g a
theorem none_p (hw : IsWeb W) (hh : h < W.gives.length) {s : Nat} (a : Fr.aft (mkF (fairOf W)).P s (lyingOf W h + 1)) : False := by
  have ok := mk_ok (fair_ok hw)
  have H := house_of hw hh
  have hh' : h < W.takes.length := by rw [hw.same]; exact hh
  have so := (a.lt ok.p).2
  have sn : s < (mkF (fairOf W)).n := by
    apply Classical.byContradiction
    intro q
    have e : (mkF (fairOf W)).P.of s = 0 := by
      show (tiF _ s).t = 0
      have q : ¬ s < (fairOf W).ties.length := q
      simp [tiF, q]
    have h0 : h = 0 := by rw [← e, ← so, H.pb]
    have i0 := a.2
    rw [e, ← h0] at i0
    have o : (mkF (fairOf W)).P.o h = (lyingOf W h + 1) :: (tak W h ++ [lyingOf W h]) := by show (tkF (fairOf W) h).order = _; rw [tk_house hh', tak_eq hh']
    rw [o, List.idxOf_cons_self] at i0
    omega
  by_cases c : s = lyingOf W h + 1
  · exact a.ne c
  · exact (H.pf s sn (by rw [← so, H.pb]) c).asym ok.p a
theorem CalmP.least (hw : IsWeb W) (c : CalmP W p) {M : List Nat} (hM : IsLot W.gives.length M) (hc : calmB W p.1 M = true) : ∀ h ∈ p.2, h ∈ M := by
  intro h hm
  have hh := c.pr.lo.lt h hm
  have pm : Pr W (p.1, M) := ⟨c.pr.be, c.pr.hi, c.pr.ev, hc, hM⟩
  have le := c.top.2 _ (stl_of_pr hw pm).2.1 (lyingOf W h) (house_of hw hh).an fun s sa _ => (none_g hw hh sa).elim
  apply Classical.byContradiction
  intro nm
  have a := (at_lying (W := W) (p := (p.1, M)) c.pr.be.len hh).1
  have b := (at_lying (W := W) (p := p) c.pr.be.len hh).1
  have a : _ = if M.contains h = true then (0 : Int) else bigOf W - Calm.sm (tak W h) (at0 p.1) := a
  rw [if_neg fun z => nm (List.contains_iff_mem.mp z)] at a
  rw [if_pos (List.contains_iff_mem.mpr hm)] at b
  have := tak_big hw hh (x := at0 p.1) fun k _ => c.pr.hi k
  rw [a, b] at le
  omega
theorem LastP.most (hw : IsWeb W) (c : LastP W p) {M : List Nat} (hM : IsLot W.gives.length M) (hc : calmB W p.1 M = true) : ∀ h ∈ M, h ∈ p.2 := by
  intro h hm
  have hh := hM.lt h hm
  have pm : Pr W (p.1, M) := ⟨c.pr.be, c.pr.hi, c.pr.ev, hc, hM⟩
  have le := c.top.2 _ (stl_of_pr hw pm).2.1.flip (lyingOf W h + 1) (house_of hw hh).bn fun s sa _ => (none_p hw hh sa).elim
  apply Classical.byContradiction
  intro nm
  have a := (at_lying (W := W) (p := (p.1, M)) c.pr.be.len hh).2
  have b := (at_lying (W := W) (p := p) c.pr.be.len hh).2
  have a : _ = if M.contains h = true then bigOf W - Calm.sm (tak W h) (at0 p.1) else 0 := a
  rw [if_pos (List.contains_iff_mem.mpr hm)] at a
  rw [if_neg fun z => nm (List.contains_iff_mem.mp z)] at b
  have := tak_big hw hh (x := at0 p.1) fun k _ => c.pr.hi k
  rw [a, b] at le
  omega
theorem pair_same (hw : IsWeb W) (hp : Pr W p) (hq : Pr W q) (e : ∀ t, t < W.roads.length + 2 * W.gives.length → at0 (shrW W p) t = at0 (shrW W q) t) : p = q := by
  have e1 : p.1 = q.1 := List.ext_getElem (by rw [hp.be.len, hq.be.len]) fun i h1 h2 => by
    have hi : i < W.roads.length := by rw [← hp.be.len]; exact h1
    have := e i (by omega)
    rw [at_shr hp.be.len hi, at_shr hq.be.len hi, at0_eq h1, at0_eq h2] at this
    exact this
  refine Prod.ext e1 (lot_same hp.lo hq.lo fun h hh => ?_)
  have z := e (lyingOf W h) (by unfold lyingOf; omega)
  rw [(at_lying (W := W) hp.be.len hh).1, (at_lying (W := W) hq.be.len hh).1, e1] at z
  have := tak_big hw hh (x := at0 q.1) fun k _ => hq.hi k
  by_cases c1 : p.2.contains h = true <;> by_cases c2 : q.2.contains h = true
  · rw [c1, c2]
  · rw [if_pos c1, if_neg c2] at z; omega
  · rw [if_neg c1, if_pos c2] at z; omega
  · rw [Bool.eq_false_iff.mpr c1, Bool.eq_false_iff.mpr c2]
theorem CalmP.uniq (hw : IsWeb W) (a : CalmP W p) (b : CalmP W q) : p = q := pair_same hw a.pr b.pr fun t ht => a.top.eq (mk_ok (fair_ok hw)) b.top t (by show t < (fairOf W).ties.length; rw [ties_len]; exact ht)
theorem LastP.uniq (hw : IsWeb W) (a : LastP W p) (b : LastP W q) : p = q := pair_same hw a.pr b.pr fun t ht => a.top.eq (mk_ok (fair_ok hw)).flip b.top t (by show t < (fairOf W).ties.length; rw [ties_len]; exact ht)
end
end Fn

namespace Fn
open PySem PySem.Spec PyProof.Rows L2 Uv
section
variable {W : Web} {h t k : Nat} {X : List Int} {p q : List Int × List Nat}
end
end Fn

namespace Fn
open PySem PySem.Spec PyProof.Rows L2 Uv
section
variable {W : Web} {f : List Int} {lot : List Nat}
structure LeaD (W : Web) (f : List Int) (L : List Nat) : Prop where
  lot : IsLot W.gives.length L
  calm : calmB W f L = true
  low : ∀ M, calmB W f M = true → ∀ x ∈ L, x ∈ M
theorem LeaD.uniq {L M : List Nat} (h : LeaD W f L) (g : LeaD W f M) : L = M := lot_same h.lot g.lot fun x _ => by
  apply Bool.eq_iff_iff.mpr
  rw [List.contains_iff_mem, List.contains_iff_mem]
  exact ⟨h.low M g.calm x, g.low L h.calm x⟩
end
end Fn

namespace Fn
open PySem PySem.Spec PyProof.Rows L2 Uv
def DkD (b : Nat) (cs : List Cel) : Prop := ∃ (cells : List Int) (n : Int), cs = [.sub (cells.map PyData.int), .dat (.int n)] ∧ cells.length ≤ 63 ∧ 0 ≤ n ∧ n ≤ b
theorem DkD.mono {b c : Nat} {cs : List Cel} (h : DkD b cs) (hb : b ≤ c) : DkD c cs := by
  obtain ⟨cells, n, e, h1, h2, h3⟩ := h
  exact ⟨cells, n, e, h1, h2, by omega⟩
end Fn

namespace Fn
open PySem PySem.Spec PyProof.Rows L2 Uv
theorem eq_end {o : Option Nat} {h : Nat} : eqP (endD o) (natD h) = some (.bool (o == some h)) := by
  cases o with
  | none => rfl
  | some n => simp [endD]; exact Bool.eq_iff_iff.mpr (by simp; omega)
end Fn

namespace Fn
open PySem PySem.Spec PyProof.Rows L2 Uv
end Fn

namespace Fn
open PySem PySem.Spec PyProof.Rows L2 Uv
end Fn

namespace Fn
open PySem PySem.Spec PyProof.Rows L2 Uv
end Fn


namespace Fn
open PySem PySem.Spec PyProof.Rows L2 Uv
section
variable {W : Web} {f : List Int} {lot : List Nat}
end
end Fn

namespace Fn
open PySem PySem.Spec PyProof.Rows L2 Uv
section
variable {W : Web} {f : List Int} {lot : List Nat} {p : List Int × List Nat} {Q : PD → Prop}
theorem lot_in {M : List Nat} (hw : IsWeb W) (hM : calmB W f M = true) : ∃ L, IsLot W.gives.length L ∧ calmB W f L = true ∧ ∀ x ∈ L, x ∈ M := by
  refine ⟨(List.range W.gives.length).filter fun h => M.contains h, ⟨List.Pairwise.filter _ List.pairwise_lt_range, fun x hx => List.mem_range.mp (List.mem_filter.mp hx).1⟩, ?_, fun x hx => List.contains_iff_mem.mp (List.mem_filter.mp hx).2⟩
  refine calm_iff.mpr fun k hk h1 h2 => ?_
  obtain ⟨y, e, hy, z⟩ := pull_false.mp (calm_iff.mp hM k hk h1 (push_mono (fun x hx => List.contains_iff_mem.mp (List.mem_filter.mp hx).2) h2))
  exact pull_false.mpr ⟨y, e, List.mem_filter.mpr ⟨List.mem_range.mpr ((hw.rd hk).2.2.1 y e), List.contains_iff_mem.mpr hy⟩, z⟩
theorem CalmP.leastL (hw : IsWeb W) (c : CalmP W p) : LeaD W p.1 p.2 := ⟨c.pr.lo, c.pr.ca, fun M hM x hx => by
  obtain ⟨L, l1, l2, l3⟩ := lot_in hw hM
  exact l3 x (c.least hw l1 l2 x hx)⟩
end
end Fn

namespace Fn
open PySem PySem.Spec PyProof.Rows L2 Uv
section
variable {W : Web} {f : List Int} {lot : List Nat} {p q : List Int × List Nat} {Q : PD → Prop}
end
end Fn

namespace Fn
open PySem PySem.Spec PyProof.Rows L2 Uv
def stepD (acc : List (List Int)) (r : Int) : List (List Int) := acc.flatMap fun row => (List.range (r + 1).toNat).map fun (k : Nat) => row ++ [(k : Int)]
def allD (rs : List Road) : List (List Int) := rs.foldl (fun acc x => stepD acc x.r) [[]]
section
variable {W : Web} {f : List Int} {p q : List Int × List Nat}
structure SmlD (W : Web) : Prop where
  r : ∀ x ∈ W.roads, x.r ≤ 1000
  n : ∀ i, (allD (W.roads.take i)).length ≤ 16384
end
end Fn

namespace Calm
variable {N : Net} {f g f0 : Nat → Int} {S T : Nat → Prop} {D R : Nat → Int}
def more (N : Net) (k : Nat) : Net := { N with r := fun i => if i = k then N.r i + 1 else N.r i }
end Calm

namespace Calm
variable {N : Net} {f g : Nat → Int} {S T : Nat → Prop} {k : Nat} {c1 c2 : Int}
section
variable (ok : N.Ok) (kn : k < N.n)
include ok kn
end
end Calm

namespace Fn
open PySem PySem.Spec PyProof.Rows L2 Uv
section
variable {W : Web} {f : List Int} {k d : Nat} {p q : List Int × List Nat}
theorem p_exchanged {ds : List PD} {k : Nat} {x : PD} (hk : k < ds.length) (hl : ds.length ≤ 1000) : F_exchanged [.tuple ds, natD k, x] = some (.tuple (ds.set k x)) := by
  refine eq_of_wp ?_
  unfold F_exchanged
  refine wp_runP rfl ?_
  unfold X_exchanged
  have c1 : Uv.cutD ds none (some (k : Int)) = ds.take k := by
    unfold Uv.cutD
    rw [HT.sIx_nat, HT.sIx_none, Nat.min_eq_left (by omega)]; simp
  have c2 : Uv.cutD ds (some ((k : Int) + 1)) none = ds.drop (k + 1) := cut_from
  have a1 : addP (.tuple (ds.take k)) (.tuple [x]) = some (.tuple (ds.take k ++ [x])) := by
    simp -implicitDefEqProofs
    simp [grd]
    omega
  have a2 : addP (.tuple (ds.take k ++ [x])) (.tuple (ds.drop (k + 1))) = some (.tuple (ds.set k x)) := by
    rw [List.set_eq_take_append_cons_drop, if_pos hk]
    simp -implicitDefEqProofs
    simp [grd]
    omega
  simp -implicitDefEqProofs [c1, c2, a1, a2]
end
end Fn

namespace Fn
open PySem PySem.Spec PyProof.Rows L2 Uv
end Fn

namespace Fn
open PySem PySem.Spec PyProof.Rows L2 Uv
theorem chr_ok (c : Char) : c.toNat < 0x110000 := by
  have := c.valid
  rcases this with h | ⟨_, h⟩
  · show c.val.toNat < _
    have h : c.val.toNat < 0xd800 := h
    omega
  · exact h
theorem reprChar_ok {q c : Nat} (hq : q < 0x110000) (hc : c < 0x110000) : ∀ d ∈ PySem.Builtin.Str.reprChar q c, d < 0x110000 := by
  have hx : ∀ w, ∀ d ∈ List.replicate (w - ((Nat.toDigits 16 c).map Char.toNat).length) 48 ++ (Nat.toDigits 16 c).map Char.toNat, d < 0x110000 := fun w d hd => by
    rcases List.mem_append.mp hd with h | h
    · rw [List.eq_of_mem_replicate h]; decide
    · obtain ⟨x, _, rfl⟩ := List.mem_map.mp h
      exact chr_ok x
  have h2 := hx 2
  have h4 := hx 4
  have h8 := hx 8
  intro d hd
  unfold PySem.Builtin.Str.reprChar at hd
  dsimp only at hd
  repeat' split at hd
  all_goals (first
    | (simp only [List.mem_cons, List.not_mem_nil, or_false] at hd; omega)
    | (rcases List.mem_append.mp hd with h | h
       · simp only [List.mem_cons, List.not_mem_nil, or_false] at h; omega
       · first | exact h2 d h | exact h4 d h | exact h8 d h))
theorem fold_ok {q : Nat} (hq : q < 0x110000) : ∀ (l : List Nat) (acc : Array Nat), (∀ c ∈ l, c < 0x110000) → (∀ c ∈ acc.toList, c < 0x110000) → ∀ c ∈ (l.foldl (fun out c => out ++ (PySem.Builtin.Str.reprChar q c).toArray) acc).toList, c < 0x110000
  | [], acc, _, h => h
  | c :: r, acc, hl, h => by
    rw [List.foldl_cons]
    refine fold_ok hq r _ (fun d hd => hl d (List.mem_cons_of_mem _ hd)) fun d hd => ?_
    rw [Array.toList_append] at hd
    rcases List.mem_append.mp hd with z | z
    · exact h d z
    · exact reprChar_ok hq (hl c (List.mem_cons_self ..)) d z
theorem quote_ok {x : Str} : PySem.reprQuote x < 0x110000 := by
  unfold PySem.reprQuote
  split <;> decide
theorem Sho.str {k : Nat} {x : Str} (h : PyData.strOk x = true) : Sho k (10 * x.length + 2) (.str x) := by
  have h1 : ∀ c ∈ x.cps.toList, c < 0x110000 := by
    unfold PyData.strOk at h
    rw [Array.all_eq_true'] at h
    intro c hc
    exact of_decide_eq_true (h c (by simpa using hc))
  refine ⟨rfl, rfl, Nat.zero_le _, ?_, ?_⟩
  · exact PySem.StrLaws.reprText_len x fun c hc => by have := h1 c hc; omega
  · show PyData.strOk (PySem.reprText x) = true
    unfold PyData.strOk PySem.reprText
    rw [Array.all_eq_true']
    intro c hc
    rw [Array.mem_push, ← Array.mem_toList_iff, ← Array.foldl_toList] at hc
    rcases hc with hc | hc
    · exact decide_eq_true (fold_ok quote_ok x.cps.toList _ h1 (fun c hc => by
        have : c ∈ [PySem.reprQuote x] := hc
        rw [List.mem_singleton.mp this]
        exact quote_ok) c hc)
    · rw [hc]; exact decide_eq_true quote_ok
end Fn

namespace Fn
open PySem PySem.Spec PyProof.Rows L2 Uv
section
variable {W : Web} {k : Nat} {x y : Road}
theorem get_sa {rs : List Road} (hk : k < rs.length) (j : Nat) : (rs.set k x ++ [y])[j]? = if j = rs.length then some y else if j = k then some x else rs[j]? := by
  by_cases c : j = rs.length
  · subst c
    rw [if_pos rfl, List.getElem?_append_right (by simp)]
    simp
  · rw [if_neg c]
    by_cases c2 : j < rs.length
    · rw [List.getElem?_append_left (by simpa using c2)]
      by_cases c3 : j = k
      · subst c3
        rw [if_pos rfl, List.getElem?_set_self hk]
      · rw [if_neg c3, List.getElem?_set_ne (fun z => c3 z.symm)]
    · rw [if_neg (by omega), List.getElem?_eq_none (by simp; omega), List.getElem?_eq_none (by omega)]
theorem mem_sa {rs : List Road} {s h j : Nat} (hk : k < rs.length) : j ∈ atR (rs.set k x ++ [y]) s h ↔ (j = rs.length ∧ side s y = some h) ∨ (j = k ∧ side s x = some h) ∨ (j ≠ k ∧ j ∈ atR rs s h) := by
  rw [mem_atR]
  constructor
  · rintro ⟨z, h1, h2⟩
    rw [get_sa hk] at h1
    by_cases c : j = rs.length
    · rw [if_pos c] at h1
      cases h1
      exact .inl ⟨c, h2⟩
    · rw [if_neg c] at h1
      by_cases c2 : j = k
      · rw [if_pos c2] at h1
        cases h1
        exact .inr (.inl ⟨c2, h2⟩)
      · rw [if_neg c2] at h1
        exact .inr (.inr ⟨c2, mem_atR.mpr ⟨z, h1, h2⟩⟩)
  · rintro (⟨c, h2⟩ | ⟨c, h2⟩ | ⟨c, h2⟩)
    · exact ⟨y, by rw [get_sa hk, if_pos c], h2⟩
    · exact ⟨x, by rw [get_sa hk, if_neg (by omega), if_pos c], h2⟩
    · have hl := atR_lt h2
      obtain ⟨z, h1, h3⟩ := mem_atR.mp h2
      exact ⟨z, by rw [get_sa hk, if_neg (by omega), if_neg c, h1], h3⟩
theorem mem_old {W : Web} {s h : Nat} (hk : k < W.roads.length) : k ∈ atR W.roads s h ↔ side s (rd W k) = some h := by
  rw [mem_atR]
  have e : W.roads[k]? = some (rd W k) := by rw [rd_eq hk]; exact List.getElem?_eq_getElem hk
  constructor
  · rintro ⟨x, h1, h2⟩
    rw [e] at h1
    cases h1
    exact h2
  · intro h
    exact ⟨_, e, h⟩
def behL (n k : Nat) (o : List Nat) : List Nat := if k ∈ o then o.take (o.idxOf k + 1) ++ n :: o.drop (o.idxOf k + 1) else o
theorem behL_perm {n : Nat} {o : List Nat} : (behL n k o).Perm (if k ∈ o then n :: o else o) := by
  unfold behL
  by_cases c : k ∈ o
  · rw [if_pos c, if_pos c]
    refine List.perm_middle.trans ?_
    rw [List.take_append_drop]
  · rw [if_neg c, if_neg c]
def partW (W : Web) (k : Nat) (r : Int) : Web := ⟨W.roads.set k ⟨(rd W k).b, (rd W k).e, r⟩ ++ [⟨(rd W k).b, (rd W k).e, (rd W k).r - r⟩], W.gives.map (behL W.roads.length k), W.takes.map (behL W.roads.length k)⟩
theorem perm_part {os : List (List Nat)} {s h : Nat} {l : List Nat} {r r2 : Int} (hk : k < W.roads.length) (s2 : s = 0 ∨ s = 1) (hp : ∀ (h : Nat) (l : List Nat), os[h]? = some l → l.Perm (atR W.roads s h)) (e : (os.map (behL W.roads.length k))[h]? = some l) : l.Perm (atR (W.roads.set k ⟨(rd W k).b, (rd W k).e, r⟩ ++ [⟨(rd W k).b, (rd W k).e, r2⟩]) s h) := by
  rw [List.getElem?_map] at e
  obtain ⟨o, ho, rfl⟩ := Option.map_eq_some_iff.mp e
  have p := hp h o ho
  refine behL_perm.trans ?_
  have om : ∀ j ∈ o, j < W.roads.length := fun j hj => atR_lt (p.mem_iff.mp hj)
  have sd : ∀ r, side s ⟨(rd W k).b, (rd W k).e, r⟩ = side s (rd W k) := fun r => by rcases s2 with rfl | rfl <;> rfl
  have nd : o.Nodup := p.nodup_iff.mpr nodup_atR
  by_cases c : k ∈ o
  · rw [if_pos c]
    refine (List.perm_ext_iff_of_nodup (List.nodup_cons.mpr ⟨fun z => by have := om _ z; omega, nd⟩) nodup_atR).mpr fun j => ?_
    have sk := (mem_old hk).mp (p.mem_iff.mp c)
    rw [mem_sa hk, sd, sd, List.mem_cons]
    constructor
    · rintro (q | q)
      · exact .inl ⟨q, sk⟩
      · by_cases z : j = k
        · exact .inr (.inl ⟨z, sk⟩)
        · exact .inr (.inr ⟨z, p.mem_iff.mp q⟩)
    · rintro (⟨q, _⟩ | ⟨rfl, _⟩ | ⟨_, q⟩)
      · exact .inl q
      · exact .inr c
      · exact .inr (p.mem_iff.mpr q)
  · rw [if_neg c]
    have nk : side s (rd W k) ≠ some h := fun z => c (p.mem_iff.mpr ((mem_old hk).mpr z))
    refine (List.perm_ext_iff_of_nodup nd nodup_atR).mpr fun j => ?_
    rw [mem_sa hk, sd, sd]
    constructor
    · intro q
      exact .inr (.inr ⟨fun z => c (z ▸ q), p.mem_iff.mp q⟩)
    · rintro (⟨_, q⟩ | ⟨_, q⟩ | ⟨_, q⟩)
      · exact absurd q nk
      · exact absurd q nk
      · exact p.mem_iff.mpr q
theorem web_partW (hw : IsWeb W) (hk : k < W.roads.length) (h20 : W.roads.length < 20) {r : Int} (r0 : 0 ≤ r) (r1 : r ≤ (rd W k).r) : IsWeb (partW W k r) := by
  obtain ⟨a, b, c, d1, d2⟩ := hw.rd hk
  have gl : (partW W k r).gives.length = W.gives.length := by simp [partW]
  refine ⟨by rw [gl]; exact hw.houses, by simp [partW, hw.same], by simp [partW]; omega, fun x hx => ?_, fun h l e => perm_part hk (.inl rfl) hw.give e, fun h l e => perm_part hk (.inr rfl) hw.take e⟩
  rw [gl]
  have hx : x ∈ W.roads.set k ⟨(rd W k).b, (rd W k).e, r⟩ ++ [⟨(rd W k).b, (rd W k).e, (rd W k).r - r⟩] := hx
  rcases List.mem_append.mp hx with z | z
  · rcases List.mem_or_eq_of_mem_set z with z | z
    · exact hw.road x z
    · rw [z]
      exact ⟨a, b, c, r0, by show r ≤ _; omega⟩
  · rw [List.mem_singleton.mp z]
    exact ⟨a, b, c, by show 0 ≤ (rd W k).r - r; omega, by show (rd W k).r - r ≤ _; omega⟩
end
end Fn

namespace Fn
open PySem PySem.Spec PyProof.Rows L2 Uv
section
variable {W : Web} {k : Nat}
theorem wp_tryB {g : List PD → Option PD} {as : XA} {cs : List Nat} {v : Str} {i j m : Nat} {ρ : Uv.Env} {xs : List PD} {d : PD} {Q : Out → Prop} (hm : ρ.length = m) (ha : as (mk ρ) = some xs) (hg : g xs = some d) (h0 : isExc d = none → Q (.nxt (ρ.set j (.dat d)))) (h1 : ∀ n, isExc d = some n → n ∈ cs ∧ Q (.nxt ((ρ.set i .un).set j (.dat (.list [.str v]))))) : wp (sTryB g as cs v i j m ρ) (tag Q) := by
  unfold sTryB
  rw [if_pos hm]
  simp only [ha, hg, Option.bind_some]
  cases e : isExc d with
  | none => exact wp_some.mpr (h0 e)
  | some n =>
    obtain ⟨m, h⟩ := h1 n e
    show wp (if n ∈ cs then some (Out.nxt _) else none) (tag Q)
    rw [if_pos m]
    exact wp_some.mpr h
theorem wp_dropX {g : List PD → Option PD} {as : XA} {ρ : Uv.Env} {xs : List PD} {d : PD} {Q : Out → Prop} (ha : as (mk ρ) = some xs) (hg : g xs = some d) (h0 : isExc d = none → Q (.nxt ρ)) (h1 : ∀ n, isExc d = some n → Q (.ret (excD n) ρ)) : wp (sDropX g as ρ) (tag Q) := by
  unfold sDropX
  simp only [ha, hg, Option.bind_some]
  cases e : isExc d with
  | none => exact wp_some.mpr (h0 e)
  | some n => exact wp_some.mpr (h1 n e)
theorem p_many {h n : Nat} : F_check_many_b [natD h, natD n] = some (if h ≤ 8 ∧ n ≤ 20 then .none else excD 0) := by
  refine eq_of_wp ?_
  unfold F_check_many_b
  refine wp_runP rfl ?_
  unfold X_check_many_b
  by_cases c1 : h ≤ 8
  · by_cases c2 : n ≤ 20
    · rw [if_pos ⟨c1, c2⟩]
      have a1 : ¬ (8 : Int) < h := by omega
      have a2 : ¬ (20 : Int) < n := by omega
      simp -implicitDefEqProofs [a1, a2]
    · rw [if_neg fun z => c2 z.2]
      have a1 : ¬ (8 : Int) < h := by omega
      have a2 : (20 : Int) < n := by omega
      simp -implicitDefEqProofs [a1, a2, sRaise]
  · rw [if_neg fun z => c1 z.1]
    have a1 : (8 : Int) < h := by omega
    simp -implicitDefEqProofs [a1, sRaise]
def fullD : PD := .list [.str "full"]
theorem sho_full : Sho 60 10000000 fullD := (Sho.lst (k := 2) (n := 100) (L := 1) (fun d hd => by
    simp only [List.mem_cons, List.not_mem_nil, or_false] at hd
    rw [hd]
    exact (Sho.str (k := 2) (ok_ofS _)).mono (by omega) (by decide)) (by simp)).mono (by omega) (by omega)
end
end Fn

namespace Fn
open PySem PySem.Spec PyProof.Rows L2 Uv
section
variable {W : Web} {k n : Nat} {o : List Nat} {r : Int}
theorem o_with (hl : o.length ≤ 1000) : F_order_with [natsD o, natD k, natD n] = some (natsD (behL n k o)) := by
  refine eq_of_wp ?_
  unfold F_order_with
  refine wp_runP rfl ?_
  unfold X_order_with behL
  by_cases c : k ∈ o
  · rw [if_pos c]
    have hi := List.idxOf_lt_length_iff.mpr c
    have c1 : slP (natsD o) none (some ((o.idxOf k : Int) + 1)) = some (natsD (o.take (o.idxOf k + 1))) := by
      unfold natsD
      rw [q_sl_t]
      unfold Uv.cutD
      rw [show ((o.idxOf k : Int) + 1) = ((o.idxOf k + 1 : Nat) : Int) by omega, HT.sIx_nat, HT.sIx_none, Nat.min_eq_left (by simp; omega)]; simp
    have c2 : slP (natsD o) (some ((o.idxOf k : Int) + 1)) none = some (natsD (o.drop (o.idxOf k + 1))) := by
      unfold natsD
      rw [q_sl_t, cut_from, List.map_drop]
    have a1 : addP (natsD (o.take (o.idxOf k + 1))) (.tuple [natD n]) = some (natsD (o.take (o.idxOf k + 1) ++ [n])) := by
      unfold natsD
      rw [q_add_t, List.map_append]
      simp [grd]
      omega
    have a2 : addP (natsD (o.take (o.idxOf k + 1) ++ [n])) (natsD (o.drop (o.idxOf k + 1))) = some (natsD (o.take (o.idxOf k + 1) ++ n :: o.drop (o.idxOf k + 1))) := by
      unfold natsD
      rw [q_add_t]
      simp [grd]
      omega
    simp -implicitDefEqProofs [notin_nat, n_idx c, c, c1, c2, a1, a2]
  · rw [if_neg c]
    simp -implicitDefEqProofs [notin_nat, c]
theorem l_behind : F__law_behind [natsD o, natD k, natD n] = F_order_with [natsD o, natD k, natD n] := by
  unfold F__law_behind F_order_with X__law_behind X_order_with
  rfl
theorem wide_fE : F__law_wide_f = F__law_wide_d := by
  unfold F__law_wide_f F__law_wide_d X__law_wide_f X__law_wide_d
  unfold X__law_wide_f_b1 X__law_wide_d_b1 X__law_wide_f_b2 X__law_wide_d_b2
  rfl
theorem p_orders {os : List (List Nat)} (h : ∀ o ∈ os, o.length ≤ 1000) (hl : os.length ≤ 1000) : F_orders_with [.tuple (os.map natsD), natD k, natD n] = some (.tuple ((os.map (behL n k)).map natsD)) := by
  refine eq_of_wp ?_
  unfold F_orders_with
  refine wp_runP rfl ?_
  unfold X_orders_with
  simp -implicitDefEqProofs
  refine ⟨by omega, wp_lcT (fun o => natsD (behL n k o)) (fun o ho => ?_) ?_⟩
  · simp -implicitDefEqProofs [o_with (k := k) (n := n) (h o ho)]
  · simp -implicitDefEqProofs
theorem web_olen (hw : IsWeb W) : (∀ o ∈ W.gives, o.length ≤ 1000) ∧ (∀ o ∈ W.takes, o.length ≤ 1000) := by
  have hc := hw.count
  constructor
  · intro o ho
    obtain ⟨h, hl, rfl⟩ := List.getElem_of_mem ho
    have := (hw.give h _ (List.getElem?_eq_getElem hl)).length_eq
    have := atR_len (rs := W.roads) (s := 0) (h := h)
    omega
  · intro o ho
    obtain ⟨h, hl, rfl⟩ := List.getElem_of_mem ho
    have := (hw.take h _ (List.getElem?_eq_getElem hl)).length_eq
    have := atR_len (rs := W.roads) (s := 1) (h := h)
    omega
theorem partW_D : webD (partW W k r) = .tuple [.tuple ((W.roads.set k ⟨(rd W k).b, (rd W k).e, r⟩).map roadD ++ [.tuple [endD (rd W k).b, endD (rd W k).e, .int ((rd W k).r - r)]]), .tuple ((W.gives.map (behL W.roads.length k)).map natsD), .tuple ((W.takes.map (behL W.roads.length k)).map natsD)] := by
  unfold webD partW
  simp only [List.map_append, List.map_cons, List.map_nil]
  rfl
theorem c_parted (hw : IsWeb W) (hk : k < W.roads.length) (r0 : 0 ≤ r) (r1 : r ≤ (rd W k).r) : F_parted_c [webD W, natD k, .int r] = some (if W.roads.length < 20 then webD (partW W k r) else excD 0) := by
  have hc := hw.count
  have hh := hw.houses
  have hs := hw.same
  have hr := hw.rd hk
  have rr := hr.2.2.2.2
  have pm := p_many (h := W.gives.length) (n := W.roads.length + 1)
  have ex : ∀ {x : Road}, F_exchanged [.tuple (W.roads.map roadD), natD k, roadD x] = some (.tuple ((W.roads.set k x).map roadD)) := fun {x} => by
    rw [p_exchanged (by simpa using hk) (by simp; omega), List.map_set]
  refine eq_of_wp ?_
  unfold F_parted_c
  refine wp_runP rfl ?_
  unfold X_parted_c
  simp -implicitDefEqProofs
  by_cases c : W.roads.length < 20
  · rw [if_pos (by omega)] at pm
    rw [if_pos c]
    refine wp_dropX (xs := [natD W.gives.length, natD (W.roads.length + 1)]) (by simp -implicitDefEqProofs) pm (fun e => ?_) fun n e => nomatch (show none = some n from e)
    have rK : roadD (rd W k) = .tuple [endD (rd W k).b, endD (rd W k).e, .int (rd W k).r] := rfl
    have e1 : F_exchanged [.tuple (W.roads.map roadD), natD k, .tuple [endD (rd W k).b, endD (rd W k).e, .int r]] = _ := ex (x := ⟨(rd W k).b, (rd W k).e, r⟩)
    have o1 := p_orders (k := k) (n := W.roads.length) (web_olen hw).1 (by omega)
    have o2 := p_orders (k := k) (n := W.roads.length) (web_olen hw).2 (by omega)
    simp -implicitDefEqProofs [atI_road hk, rK, e1, o1, o2]
    refine ⟨by omega, ?_⟩
    rw [partW_D]
    simp only [List.map_set, List.map_map]
  · rw [if_neg (by omega)] at pm
    rw [if_neg c]
    refine wp_dropX (xs := [natD W.gives.length, natD (W.roads.length + 1)]) (by simp -implicitDefEqProofs) pm (fun e => nomatch (show some 0 = none from e)) fun n e => ?_
    cases (show some 0 = some n from e)
    simp -implicitDefEqProofs
def toldP (W : Web) (k : Nat) (r : Int) : PD := if W.roads.length < 20 then webD (partW W k r) else fullD
theorem e_parted (hw : IsWeb W) (hk : k < W.roads.length) (r0 : 0 ≤ r) (r1 : r ≤ (rd W k).r) : F__law_parted_c [webD W, natD k, .int r] = some (toldP W k r) := by
  have hc := hw.count
  have hh := hw.houses
  have hs := hw.same
  have hr := hw.rd hk
  have rr := hr.2.2.2.2
  refine eq_of_wp ?_
  unfold F__law_parted_c
  refine wp_runP rfl ?_
  unfold X__law_parted_c toldP
  have rK : roadD (rd W k) = .tuple [endD (rd W k).b, endD (rd W k).e, .int (rd W k).r] := rfl
  have c1 : Uv.cutD (W.roads.map roadD) none (some (k : Int)) = (W.roads.map roadD).take k := by
    unfold Uv.cutD
    rw [HT.sIx_nat, HT.sIx_none, Nat.min_eq_left (by simp; omega)]; simp
  have c2 : Uv.cutD (W.roads.map roadD) (some ((k : Int) + 1)) none = (W.roads.map roadD).drop (k + 1) := cut_from
  by_cases c : W.roads.length < 20
  · rw [if_pos c]
    have q2 : ((W.roads.length : Int) == 20) = false := by simp; omega
    have i1 : In64 (rd W k).r := ⟨by omega, by omega⟩
    have i2 : In64 r := ⟨by omega, by omega⟩
    simp -implicitDefEqProofs [q2, atI_road hk, rK, c1, c2, i1, i2]
    refine ⟨by omega, by omega, by omega, by omega, ?_⟩
    have em : (W.roads.map roadD).take k ++ .tuple [endD (rd W k).b, endD (rd W k).e, .int r] :: ((W.roads.map roadD).drop (k + 1) ++ [.tuple [endD (rd W k).b, endD (rd W k).e, .int ((rd W k).r - r)]]) = (W.roads.set k ⟨(rd W k).b, (rd W k).e, r⟩).map roadD ++ [.tuple [endD (rd W k).b, endD (rd W k).e, .int ((rd W k).r - r)]] := by
      rw [List.map_set, List.set_eq_take_append_cons_drop, if_pos (by simpa using hk), List.append_assoc]
      rfl
    rw [em]
    refine wp_lcT (fun o => natsD (behL W.roads.length k o)) (fun o ho => ?_) ?_
    · simp -implicitDefEqProofs [l_behind, o_with (k := k) (n := W.roads.length) ((web_olen hw).1 o ho)]
    simp -implicitDefEqProofs
    refine ⟨by omega, wp_lcT (fun o => natsD (behL W.roads.length k o)) (fun o ho => ?_) ?_⟩
    · simp -implicitDefEqProofs [l_behind, o_with (k := k) (n := W.roads.length) ((web_olen hw).2 o ho)]
    simp -implicitDefEqProofs
    rw [partW_D]
    simp only [List.map_set, List.map_map]
    rfl
  · rw [if_neg c]
    have q2 : ((W.roads.length : Int) == 20) = true := by simp; omega
    simp -implicitDefEqProofs [q2, fullD]
theorem e_toldP (hw : IsWeb W) (hk : k < W.roads.length) (r0 : 0 ≤ r) (r1 : r ≤ (rd W k).r) : F__law_told_u [webD W, natD k, .int r] = some (toldP W k r) := by
  have pc := c_parted hw hk r0 r1
  refine eq_of_wp ?_
  unfold F__law_told_u
  refine wp_runP rfl ?_
  unfold X__law_told_u toldP
  simp -implicitDefEqProofs
  by_cases c : W.roads.length < 20
  · rw [if_pos c] at pc ⊢
    refine wp_tryB rfl (xs := [webD W, natD k, .int r]) rfl pc (fun e => ?_) fun n e => nomatch (show none = some n from e)
    simp -implicitDefEqProofs
  · rw [if_neg c] at pc ⊢
    refine wp_tryB rfl (xs := [webD W, natD k, .int r]) rfl pc (fun e => nomatch (show some 0 = none from e)) fun n e => ?_
    cases (show some 0 = some n from e)
    refine ⟨by simp, ?_⟩
    simp -implicitDefEqProofs [fullD]
theorem sho_toldP (hw : IsWeb W) (hk : k < W.roads.length) (r0 : 0 ≤ r) (r1 : r ≤ (rd W k).r) : Sho 60 10000000 (toldP W k r) := by
  unfold toldP
  by_cases c : W.roads.length < 20
  · rw [if_pos c]; exact sho_web (web_partW hw hk c r0 r1)
  · rw [if_neg c]; exact sho_full
theorem right_z39 (hw : IsWeb W) (hk : k < W.roads.length) (r0 : 0 ≤ r) (r1 : r ≤ (rd W k).r) : F__law_right_z39 [webD W, natD k, .int r] = some (.bool true) := by
  have sw := sho_web hw
  have st := sho_toldP hw hk r0 r1
  refine eq_of_wp ?_
  unfold F__law_right_z39
  refine wp_runP rfl ?_
  unfold X__law_right_z39
  simp -implicitDefEqProofs [e_parted hw hk r0 r1, e_toldP hw hk r0 r1, rp_of sw, rp_of st, eq_shown sw, eq_shown st]
theorem e_room {b : Nat} {cs : List Cel} {Q : PD × List Cel → Prop} (h : DkE b cs) (hb : b + 10 ≤ 2 ^ 40) (hw : IsWeb W) (hk : k < W.roads.length) (hq : ∀ (r : Int) cs', 0 ≤ r → r ≤ (rd W k).r → DkE (b + 3) cs' → Q (.int r, cs')) : wp (F__law_room_e cs [webD W, natD k]) (tag Q) := by
  have hr := hw.rd hk
  have rr := hr.2.2.2.2
  have r0 := hr.2.2.2.1
  have rK : roadD (rd W k) = .tuple [endD (rd W k).b, endD (rd W k).e, .int (rd W k).r] := rfl
  have i1 : In64 (rd W k).r := ⟨by omega, by omega⟩
  unfold F__law_room_e
  refine wp_runW rfl ?_
  unfold X__law_room_e
  simp -implicitDefEqProofs [atI_road hk, rK, i1]
  refine e_next h (by omega) (by omega) (by omega) fun r1 cs1 a1 d1 => ?_
  simp -implicitDefEqProofs [i1]
  refine e_next d1 (by omega) (by omega) (by omega) fun r2 cs2 a2 d2 => ?_
  simp -implicitDefEqProofs
  refine e_next d2 (by omega) (by omega) (by omega) fun r3 cs3 a3 d3 => ?_
  simp -implicitDefEqProofs
  refine wp_pick (by simp; omega) fun x hx => ?_
  obtain ⟨q, rfl, q0, q1⟩ : ∃ q : Int, x = .int q ∧ 0 ≤ q ∧ q ≤ (rd W k).r := by
    simp at hx
    rcases hx with rfl | rfl | rfl | rfl <;> exact ⟨_, rfl, by omega, by omega⟩
  simp -implicitDefEqProofs
  exact hq q cs3 q0 q1 (d3.mono (by omega))
end
end Fn

namespace Fn
open PySem PySem.Spec PyProof.Rows L2 Uv
theorem k60 (ns : List Int) (h : ns.length ≤ 63) : F_law_z179 [scrD (ns.map PyData.int)] = some (.bool true) := by
  unfold F_law_z179
  refine eq_of_wp (wp_runP rfl ?_)
  unfold X_law_z179
  simp -implicitDefEqProofs
  refine e_deck h fun cs0 d0 => ?_
  simp -implicitDefEqProofs
  refine wp_forR (n := 3) (fun t ρ => ∃ (cs : List Cel) (z2 z3 z4 z5 z6 : Sl), ρ = [.dat (scrD (ns.map PyData.int)), .own cs, z2, z3, z4, z5, z6] ∧ DkE (3000 * t) cs) ⟨cs0, _, _, _, _, _, rfl, d0⟩ ?_ ?_
  · rintro t ht ρ ⟨cs, z2, z3, z4, z5, z6, rfl, d⟩
    unfold X_law_z179_b3
    simp -implicitDefEqProofs
    refine e_web (most := 3) (many := 6) d (by omega) (by omega) (by omega) (by omega) (by omega) fun W1 cs1 hw1 _ _ _ d1 => ?_
    rw [wide_fE]
    simp -implicitDefEqProofs
    refine e_wide d1 (by omega) fun W2 cs2 hw2 d2 => ?_
    simp -implicitDefEqProofs
    refine e_next d2 (by omega) (by omega) (by omega) fun r1 cs3 a3 d3 => ?_
    simp -implicitDefEqProofs
    refine wp_pick (by simp; omega) fun x hx => ?_
    obtain ⟨W, rfl, hw⟩ : ∃ W, x = webD W ∧ IsWeb W := by
      simp at hx
      rcases hx with rfl | rfl
      · exact ⟨W1, rfl, hw1⟩
      · exact ⟨W2, rfl, hw2⟩
    simp -implicitDefEqProofs
    refine wp_forR (n := 4) (fun i ρ => ∃ (cs : List Cel) (z4 z5 z6 : Sl), ρ = [.dat (scrD (ns.map PyData.int)), .own cs, .dat (natD t), .dat (webD W), z4, z5, z6] ∧ DkE (3000 * t + 2001 + 5 * i) cs) ⟨cs3, _, _, _, rfl, d3⟩ ?_ ?_
    · rintro i hi ρ ⟨cs, z4, z5, z6, rfl, d⟩
      have hc := hw.count
      unfold X_law_z179_b1
      simp -implicitDefEqProofs
      refine e_next d (by omega) (by omega) (by omega) fun k cs' ak dk => ?_
      have hk : k < W.roads.length := by omega
      simp -implicitDefEqProofs
      refine e_room dk (by omega) hw hk fun r cs4 r0 r1 d4 => ?_
      simp -implicitDefEqProofs [right_z39 hw hk r0 r1]
      exact ⟨cs4, _, _, _, rfl, d4.mono (by omega)⟩
    · rintro ρ ⟨cs, z4, z5, z6, rfl, d⟩
      simp -implicitDefEqProofs
      refine wp_forR (n := 20) (fun i ρ => ∃ (cs : List Cel) (W : Web) (z4 z5 z6 : Sl), ρ = [.dat (scrD (ns.map PyData.int)), .own cs, .dat (natD t), .dat (webD W), z4, z5, z6] ∧ IsWeb W ∧ DkE (3000 * t + 2021 + 5 * i) cs) ⟨cs, W, _, _, _, rfl, hw, d⟩ ?_ ?_
      · rintro i hi ρ ⟨cs, W, z4, z5, z6, rfl, hw, d⟩
        have hc := hw.count
        unfold X_law_z179_b2
        simp -implicitDefEqProofs
        refine e_next d (by omega) (by omega) (by omega) fun k cs' ak dk => ?_
        have hk : k < W.roads.length := by omega
        simp -implicitDefEqProofs
        refine e_room dk (by omega) hw hk fun r cs4 r0 r1 d4 => ?_
        have ec := e_parted hw hk r0 r1
        unfold toldP at ec
        by_cases c : W.roads.length < 20
        · rw [if_pos c] at ec
          have c2 : ((W.roads.length : Int) < 20) := by omega
          simp -implicitDefEqProofs [right_z39 hw hk r0 r1, c2, ec]
          exact ⟨cs4, _, _, _, _, rfl, web_partW hw hk c r0 r1, d4.mono (by omega)⟩
        · have c2 : ¬ ((W.roads.length : Int) < 20) := by omega
          simp -implicitDefEqProofs [right_z39 hw hk r0 r1, c2]
          exact ⟨cs4, _, _, _, _, rfl, hw, d4.mono (by omega)⟩
      · rintro ρ ⟨cs, W, z4, z5, z6, rfl, hw, d⟩
        simp -implicitDefEqProofs
        exact ⟨cs, _, _, _, _, _, rfl, d.mono (by omega)⟩
  · rintro ρ ⟨cs, z2, z3, z4, z5, z6, rfl, d⟩
    simp -implicitDefEqProofs
end Fn


namespace Row
open PySem PySem.Spec PyProof.Rows L2 Uv Fn
def topS (i : Nat) : Stmt := PySem.Challenge.pw_unturned_k60_roads_parted.main.body.getD i (.Pass ⟨0, 0, 0, 0⟩)
abbrev s__law_deck : Stmt := topS 16
abbrev N__law_deck : List Str := ["_law_script", "_law_cell"]
theorem sc__law_deck : FnScope N__law_deck ["_law_script"] (defScope s__law_deck) := ⟨rfl, rfl, rfl, by decide +kernel, rfl, by decide +kernel, by decide +kernel⟩
abbrev s__law_mixed : Stmt := topS 17
abbrev N__law_mixed : List Str := ["_law_cell", "_law_turn"]
theorem sc__law_mixed : FnScope N__law_mixed ["_law_cell", "_law_turn"] (defScope s__law_mixed) := ⟨rfl, rfl, rfl, by decide +kernel, rfl, by decide +kernel, by decide +kernel⟩
abbrev s__law_next : Stmt := topS 18
abbrev N__law_next : List Str := ["_law_deck_here", "_law_many", "_law_cell", "_law_digit", "_law_number"]
theorem sc__law_next : FnScope N__law_next ["_law_deck_here", "_law_many"] (defScope s__law_next) := ⟨rfl, rfl, rfl, by decide +kernel, rfl, by decide +kernel, by decide +kernel⟩
abbrev s__law_behind : Stmt := topS 24
abbrev N__law_behind : List Str := ["_law_order_here", "_law_road", "_law_many", "_law_at"]
theorem sc__law_behind : FnScope N__law_behind ["_law_order_here", "_law_road", "_law_many"] (defScope s__law_behind) := ⟨rfl, rfl, rfl, by decide +kernel, rfl, by decide +kernel, by decide +kernel⟩
abbrev s__law_parted : Stmt := topS 25
abbrev N__law_parted : List Str := ["_law_web_here", "_law_road", "_law_room_here", "_law_many", "_law_begin", "_law_end", "_law_whole", "_law_roads", "_law_gives", "_law_order_here"]
theorem sc__law_parted : FnScope N__law_parted ["_law_web_here", "_law_road", "_law_room_here"] (defScope s__law_parted) := ⟨rfl, rfl, rfl, by decide +kernel, rfl, by decide +kernel, by decide +kernel⟩
abbrev s__law_full : Stmt := topS 23
abbrev N__law_full : List Str := ["_law_e"]
theorem sc__law_full : FnScope N__law_full ["_law_e"] (defScope s__law_full) := ⟨rfl, rfl, rfl, by decide +kernel, rfl, by decide +kernel, by decide +kernel⟩
abbrev s_check_many : Stmt := topS 11
abbrev N_check_many : List Str := ["houses", "roads"]
theorem sc_check_many : FnScope N_check_many ["houses", "roads"] (defScope s_check_many) := ⟨rfl, rfl, rfl, by decide +kernel, rfl, by decide +kernel, by decide +kernel⟩
abbrev s_exchanged : Stmt := topS 9
abbrev N_exchanged : List Str := ["things", "at", "thing"]
theorem sc_exchanged : FnScope N_exchanged ["things", "at", "thing"] (defScope s_exchanged) := ⟨rfl, rfl, rfl, by decide +kernel, rfl, by decide +kernel, by decide +kernel⟩
abbrev s_order_with : Stmt := topS 14
abbrev N_order_with : List Str := ["order", "road", "further", "behind"]
theorem sc_order_with : FnScope N_order_with ["order", "road", "further"] (defScope s_order_with) := ⟨rfl, rfl, rfl, by decide +kernel, rfl, by decide +kernel, by decide +kernel⟩
abbrev s_orders_with : Stmt := topS 13
abbrev N_orders_with : List Str := ["orders", "road", "further", "order"]
theorem sc_orders_with : FnScope N_orders_with ["orders", "road", "further"] (defScope s_orders_with) := ⟨rfl, rfl, rfl, by decide +kernel, rfl, by decide +kernel, by decide +kernel⟩
abbrev s_parted : Stmt := topS 12
abbrev N_parted : List Str := ["web", "road", "room", "roads", "gives", "takes", "further", "begin", "end", "had"]
theorem sc_parted : FnScope N_parted ["web", "road", "room"] (defScope s_parted) := ⟨rfl, rfl, rfl, by decide +kernel, rfl, by decide +kernel, by decide +kernel⟩
abbrev s__law_told : Stmt := topS 26
abbrev N__law_told : List Str := ["_law_web_here", "_law_road", "_law_room_here", "_law_found", "_law_e"]
theorem sc__law_told : FnScope N__law_told ["_law_web_here", "_law_road", "_law_room_here"] (defScope s__law_told) := ⟨rfl, rfl, rfl, by decide +kernel, rfl, by decide +kernel, by decide +kernel⟩
abbrev s__law_right : Stmt := topS 28
abbrev N__law_right : List Str := ["_law_web_here", "_law_road", "_law_room_here", "_law_kept", "_law_due"]
theorem sc__law_right : FnScope N__law_right ["_law_web_here", "_law_road", "_law_room_here"] (defScope s__law_right) := ⟨rfl, rfl, rfl, by decide +kernel, rfl, by decide +kernel, by decide +kernel⟩
abbrev s__law_room : Stmt := topS 27
abbrev N__law_room : List Str := ["_law_deck_here", "_law_web_here", "_law_road", "_law_whole"]
theorem sc__law_room : FnScope N__law_room ["_law_deck_here", "_law_web_here", "_law_road"] (defScope s__law_room) := ⟨rfl, rfl, rfl, by decide +kernel, rfl, by decide +kernel, by decide +kernel⟩
abbrev s__law_one : Stmt := topS 19
abbrev N__law_one : List Str := ["_law_deck_here", "_law_things"]
theorem sc__law_one : FnScope N__law_one ["_law_deck_here", "_law_things"] (defScope s__law_one) := ⟨rfl, rfl, rfl, by decide +kernel, rfl, by decide +kernel, by decide +kernel⟩
abbrev s__law_order : Stmt := topS 20
abbrev N__law_order : List Str := ["_law_deck_here", "_law_some", "_law_left", "_law_found"]
theorem sc__law_order : FnScope N__law_order ["_law_deck_here", "_law_some"] (defScope s__law_order) := ⟨rfl, rfl, rfl, by decide +kernel, rfl, by decide +kernel, by decide +kernel⟩
abbrev s__law_web : Stmt := topS 21
abbrev N__law_web : List Str := ["_law_deck_here", "_law_most", "_law_many", "_law_kind", "_law_houses", "_law_roads", "_law_k", "_law_spots", "_law_begin", "_law_gives", "_law_takes", "_law_house", "_law_row"]
theorem sc__law_web : FnScope N__law_web ["_law_deck_here", "_law_most", "_law_many"] (defScope s__law_web) := ⟨rfl, rfl, rfl, by decide +kernel, rfl, by decide +kernel, by decide +kernel⟩
abbrev s__law_wide : Stmt := topS 22
abbrev N__law_wide : List Str := ["_law_deck_here", "_law_houses", "_law_roads", "_law_k", "_law_spots", "_law_begin", "_law_room_here", "_law_gives", "_law_takes", "_law_house"]
theorem sc__law_wide : FnScope N__law_wide ["_law_deck_here"] (defScope s__law_wide) := ⟨rfl, rfl, rfl, by decide +kernel, rfl, by decide +kernel, by decide +kernel⟩
abbrev s_law : Stmt := topS 29
abbrev N_law : List Str := ["_law_script", "_law_deck_here", "_law_turn", "_law_web_here", "_law_k", "_law_road", "_law_room_here"]
theorem sc_law : FnScope N_law ["_law_script"] (defScope s_law) := ⟨rfl, rfl, rfl, by decide +kernel, rfl, by decide +kernel, by decide +kernel⟩
structure Bm (mg : Str → Option Value) : Prop where
  n_ValueError : mg "ValueError" = none
  n_abs : mg "abs" = none
  n_int : mg "int" = none
  n_isinstance : mg "isinstance" = none
  n_len : mg "len" = none
  n_list : mg "list" = none
  n_max : mg "max" = none
  n_range : mg "range" = none
  n_repr : mg "repr" = none
  n_tuple : mg "tuple" = none
structure Clz (K : PySem.W.Frag) (mg : Str → Option Value) (C_BadOrder C_Full C_NoRoads C_TooGreat C_WebError : Addr) : Prop where
  g_BadOrder : mg "BadOrder" = some (.ref C_BadOrder)
  g_Full : mg "Full" = some (.ref C_Full)
  g_NoRoads : mg "NoRoads" = some (.ref C_NoRoads)
  g_TooGreat : mg "TooGreat" = some (.ref C_TooGreat)
  g_WebError : mg "WebError" = some (.ref C_WebError)
  x_Full : PySem.W.excIn K C_Full [.type "ValueError", .type "Exception", .type "BaseException", .type "object"] "ValueError.__new__" = true
  k_Full : PySem.W.keepIn K (.ref C_Full) = true
  b_Full : PySem.W.subIn K (.ref C_Full) (.type "BaseException") = some true
  t_Full : PySem.W.typeIn K (.ref C_Full) = some (.type "type")
  e_Full : ExcC K C_Full
  k1__law_full : PySem.W.kitOne K (.ref C_Full) (.ref C_Full) = some true
  k2__law_full : PySem.W.kitOne K (.ref C_Full) (.type "ValueError") = some true
  k3__law_full : PySem.W.kitAny K (.ref C_Full) [.ref C_TooGreat, .ref C_NoRoads, .ref C_BadOrder] = some false
  m__law_told : ∀ n ∈ ([0] : List Nat), PySem.W.exmOne K ((clsL [C_Full]) n) (.ref C_WebError) = some true
section
variable [kk : KK] {P : Program} {w : World} {mg : Str → Option Value} {base : Heap}
theorem eq_F__law_deck_f : F__law_deck_f = runD 1 1 X__law_deck_f := by unfold F__law_deck_f; rfl
theorem c__law_deck (F : Dfn K mg "_law_deck" s__law_deck ["_law_script"]) (B : Bm mg) : CalG P w K mg base 1 "_law_deck" (spD F__law_deck_f) := by
  rw [eq_F__law_deck_f]
  refine cal_g F sc__law_deck (fun vs H Q E h => len_D h) (fun f cdv A outer s H E hG hr => ⟨T__law_deck_f, ?_, fun vs Q h => go_D (n := 1) (k := 1) ss__law_deck_f rfl h⟩)
  unfold T__law_deck_f
  exact pss_one (ps_ret (pe_lst (pa_cons (pe_lc (own := [("_law_cell", 1)]) rfl sc__law_deck.nd (PI.or (pi_list (pe_slice sl_U (pv 0) po_none (po_some pe_int))) (pi_tup (pe_slice sl_U (pv 0) po_none (po_some pe_int)))) (blkOk_by (N := N__law_deck) (sc := defScope s__law_deck) (by decide +kernel)) (fun _ _ _ _ _ => (pg_name (i := 1) sc__law_deck.nd rfl (.inl rfl))) (fun _ _ _ _ _ => pts_nil) (fun _ _ _ _ _ => pe_callB call_abs (by rfl) B.n_abs (by decide +kernel) (pa_cons (pv 1) pa_nil))) (pa_cons pe_int (pa_cons pe_int (pa_cons pe_int pa_nil))))))
theorem eq_F__law_mixed_b : F__law_mixed_b = runP 2 0 X__law_mixed_b := by unfold F__law_mixed_b; rfl
theorem c__law_mixed (F : Dfn K mg "_law_mixed" s__law_mixed ["_law_cell", "_law_turn"]) (B : Bm mg) : CalG P w K mg base 1 "_law_mixed" (spF F__law_mixed_b) := by
  rw [eq_F__law_mixed_b]
  refine cal_g F sc__law_mixed (fun vs H Q E h => len_F h) (fun f cdv A outer s H E hG hr => ⟨T__law_mixed_b, ?_, fun vs Q h => go_P (n := 2) (k := 0) ss__law_mixed_b rfl h⟩)
  unfold T__law_mixed_b
  exact pss_one (ps_ret (pe_op op_fdivW (pe_op op_mod (pe_op op_pow (pe_op op_addU (pe_op op_addU (pe_op op_mod (pv 0) pe_int) (pe_op op_mulV (pv 1) pe_int)) pe_int) pe_int) pe_int) pe_int))
theorem eq_F__law_next_c : F__law_next_c = runW 1 3 X__law_next_c := by unfold F__law_next_c; rfl
theorem c__law_next (F : Dfn K mg "_law_next" s__law_next ["_law_deck_here", "_law_many"]) (B : Bm mg) (c__law_mixed : CalG P w K mg base 1 "_law_mixed" (spF F__law_mixed_b)) : CalG P w K mg base 2 "_law_next" (spW F__law_next_c) := by
  rw [eq_F__law_next_c]
  refine cal_g F sc__law_next (fun vs H Q E h => len_W h) (fun f cdv A outer s H E hG hr => ⟨T__law_next_c, ?_, fun vs Q h => go_W (n := 1) (k := 3) ss__law_next_c rfl h⟩)
  unfold T__law_next_c
  exact pss_cons (ps_asg (pe_op op_addU (pe_ix ix_seq (pv 0) pe_int (fun _ _ => rfl)) pe_int) (pg_sub (pv 0) pe_int set_list))
      (pss_cons (ps_if (PW.pt (pw_and (pt_cmpR (op_eqX hr.units) (pe_ix ix_seq (pv 0) pe_int (fun _ _ => rfl)) pe_int (nomark _)) (pw_and1 (pt_cmpR op_lt (pe_ix ix_seq (pv 0) pe_int (fun _ _ => rfl)) (pe_callB call_len_seq (by rfl) B.n_len (by decide +kernel) (pa_cons (pe_ix ix_seq (pv 0) pe_int (fun _ _ => rfl)) pa_nil)) (nomark _))))) (pss_cons (ps_set (i := 2) sc__law_next.nd rfl (.inl rfl) (pe_ix ix_seq (pe_ix ix_seq (pv 0) pe_int (fun _ _ => rfl)) (pe_ix ix_seq (pv 0) pe_int (fun _ _ => rfl)) (fun _ _ => rfl)))
      (pss_cons (ps_asg (pe_op op_addU (pe_ix ix_seq (pv 0) pe_int (fun _ _ => rfl)) pe_int) (pg_sub (pv 0) pe_int set_list))
      (pss_cons (ps_if (pt_cmpR op_lt (pv 2) (pe_op op_pow pe_int pe_int) (nomark _)) (pss_one (ps_ret (pe_op op_mod (pe_g c__law_mixed hr (by decide) hG (by rfl) (pa_cons (pv 2) (pa_cons (pe_ix ix_seq (pv 0) pe_int (fun _ _ => rfl)) pa_nil))) (pv 1)))) pss_nil)
      (pss_one (ps_asg (pv 2) (pg_sub (pv 0) pe_int set_list)))))) pss_nil)
      (pss_cons (ps_if (pt_cmpR (op_gtU hr.units) (pe_ix ix_seq (pv 0) pe_int (fun _ _ => rfl)) pe_int (nomark _)) (pss_cons (ps_set (i := 3) sc__law_next.nd rfl (.inl rfl) (pe_op op_mod (pe_ix ix_seq (pv 0) pe_int (fun _ _ => rfl)) (pv 1)))
      (pss_cons (ps_asg (pe_op op_fdivW (pe_ix ix_seq (pv 0) pe_int (fun _ _ => rfl)) (pv 1)) (pg_sub (pv 0) pe_int set_list))
      (pss_one (ps_ret (pv 3))))) pss_nil)
      (pss_cons (ps_set (i := 4) sc__law_next.nd rfl (.inl rfl) (pe_op op_mulV (pe_ix ix_seq (pv 0) pe_int (fun _ _ => rfl)) pe_int))
      (pss_cons (ps_if (pt_cmpR (op_neD hr.units) (pe_ix ix_seq (pv 0) pe_int (fun _ _ => rfl)) (pe_lst pa_nil) (nomark _)) (pss_one (ps_set (i := 4) sc__law_next.nd rfl (.inl rfl) (pe_op op_addU (pv 4) (pe_ix ix_seq (pe_ix ix_seq (pv 0) pe_int (fun _ _ => rfl)) (pe_op op_mod (pe_op op_mulV (pe_ix ix_seq (pv 0) pe_int (fun _ _ => rfl)) pe_int) (pe_callB call_len_seq (by rfl) B.n_len (by decide +kernel) (pa_cons (pe_ix ix_seq (pv 0) pe_int (fun _ _ => rfl)) pa_nil))) (fun _ _ => rfl))))) pss_nil)
      (pss_one (ps_ret (pe_op op_mod (pe_g c__law_mixed hr (by decide) hG (by rfl) (pa_cons (pv 4) (pa_cons (pe_ix ix_seq (pv 0) pe_int (fun _ _ => rfl)) pa_nil))) (pv 1))))))))
theorem eq_F__law_behind : F__law_behind = runP 3 1 X__law_behind := by unfold F__law_behind; rfl
theorem c__law_behind (F : Dfn K mg "_law_behind" s__law_behind ["_law_order_here", "_law_road", "_law_many"]) (B : Bm mg) : CalG P w K mg base 1 "_law_behind" (spF F__law_behind) := by
  rw [eq_F__law_behind]
  refine cal_g F sc__law_behind (fun vs H Q E h => len_F h) (fun f cdv A outer s H E hG hr => ⟨T__law_behind, ?_, fun vs Q h => go_P (n := 3) (k := 1) ss__law_behind rfl h⟩)
  unfold T__law_behind
  exact pss_cons (ps_if (pt_cmpR (op_notInU (u65 hr)) (pv 1) (pv 0) (by rfl)) (pss_one (ps_ret (pv 0))) pss_nil)
      (pss_cons (ps_set (i := 3) sc__law_behind.nd rfl (.inl rfl) (pe_op op_addU (PE.or (pe_bmF PySem.F.slot_tuple_index PySem.F.type_tuple_index (mt_indexF (u65 hr)) (pv 0) (pa_cons (pv 1) pa_nil)) (pe_bm PySem.F.plainAttrs_list PySem.F.slot_list_index PySem.F.type_list_index (mt_indexD (u65 hr)) (pv 0) (pa_cons (pv 1) pa_nil))) pe_int))
      (pss_one (ps_ret (pe_op op_addU (pe_op op_addU (pe_slice sl_U (pv 0) po_none (po_some (pv 3))) (pe_tupF (pa_cons (pv 2) pa_nil))) (pe_slice sl_U (pv 0) (po_some (pv 3)) po_none)))))
theorem eq_F__law_parted_c : F__law_parted_c = runP 3 7 X__law_parted_c := by unfold F__law_parted_c; rfl
theorem c__law_parted (F : Dfn K mg "_law_parted" s__law_parted ["_law_web_here", "_law_road", "_law_room_here"]) (B : Bm mg) (c__law_behind : CalG P w K mg base 1 "_law_behind" (spF F__law_behind)) : CalG P w K mg base 2 "_law_parted" (spF F__law_parted_c) := by
  rw [eq_F__law_parted_c]
  refine cal_g F sc__law_parted (fun vs H Q E h => len_F h) (fun f cdv A outer s H E hG hr => ⟨T__law_parted_c, ?_, fun vs Q h => go_P (n := 3) (k := 7) ss__law_parted_c rfl h⟩)
  unfold T__law_parted_c
  exact pss_cons (ps_set (i := 3) sc__law_parted.nd rfl (.inr rfl) (pe_callB call_len_seq (by rfl) B.n_len (by decide +kernel) (pa_cons (pe_ix ix_seq (pv 0) pe_int (fun _ _ => rfl)) pa_nil)))
      (pss_cons (ps_if (pt_cmpR (op_eqX hr.units) (pv 3) pe_int (nomark _)) (pss_one (ps_ret (pe_lst (pa_cons pe_str pa_nil)))) pss_nil)
      (pss_cons (ps_asg (pe_ix ix_seq (pe_ix ix_seq (pv 0) pe_int (fun _ _ => rfl)) (pv 1) (fun _ _ => rfl)) (PG.or (pg_tup rfl (pgs_cons (pg_name (i := 4) sc__law_parted.nd rfl (.inl rfl)) (pgs_cons (pg_name (i := 5) sc__law_parted.nd rfl (.inl rfl)) (pgs_cons (pg_name (i := 6) sc__law_parted.nd rfl (.inl rfl)) pgs_nil)))) (pg_unl rfl (pgs_cons (pg_name (i := 4) sc__law_parted.nd rfl (.inl rfl)) (pgs_cons (pg_name (i := 5) sc__law_parted.nd rfl (.inl rfl)) (pgs_cons (pg_name (i := 6) sc__law_parted.nd rfl (.inl rfl)) pgs_nil))))))
      (pss_cons (ps_set (i := 7) sc__law_parted.nd rfl (.inl rfl) (pe_op op_addU (pe_op op_addU (pe_op op_addU (pe_slice sl_U (pe_ix ix_seq (pv 0) pe_int (fun _ _ => rfl)) po_none (po_some (pv 1))) (pe_tupF (pa_cons (pe_tupF (pa_cons (pv 4) (pa_cons (pv 5) (pa_cons (pv 2) pa_nil)))) pa_nil))) (pe_slice sl_U (pe_ix ix_seq (pv 0) pe_int (fun _ _ => rfl)) (po_some (pe_op op_addU (pv 1) pe_int)) po_none)) (pe_tupF (pa_cons (pe_tupF (pa_cons (pv 4) (pa_cons (pv 5) (pa_cons (pe_op op_sub (pv 6) (pv 2)) pa_nil)))) pa_nil))))
      (pss_cons (ps_set (i := 8) sc__law_parted.nd rfl (.inl rfl) (pe_callTy cr_tupF (by rfl) B.n_tuple (by decide +kernel) (pa_cons (pe_lc (own := [("_law_order_here", 9)]) rfl sc__law_parted.nd (PI.or (pi_list (pe_ix ix_seq (pv 0) pe_int (fun _ _ => rfl))) (pi_tup (pe_ix ix_seq (pv 0) pe_int (fun _ _ => rfl)))) (blkOk_by (N := N__law_parted) (sc := defScope s__law_parted) (by decide +kernel)) (fun _ _ _ _ _ => (pg_name (i := 9) sc__law_parted.nd rfl (.inl rfl))) (fun _ _ _ _ _ => pts_nil) (fun _ _ _ _ _ => pe_g c__law_behind hr (by decide) hG (by rfl) (pa_cons (pv 9) (pa_cons (pv 1) (pa_cons (pv 3) pa_nil))))) pa_nil)))
      (pss_one (ps_ret (pe_tupF (pa_cons (pv 7) (pa_cons (pv 8) (pa_cons (pe_callTy cr_tupF (by rfl) B.n_tuple (by decide +kernel) (pa_cons (pe_lc (own := [("_law_order_here", 9)]) rfl sc__law_parted.nd (PI.or (pi_list (pe_ix ix_seq (pv 0) pe_int (fun _ _ => rfl))) (pi_tup (pe_ix ix_seq (pv 0) pe_int (fun _ _ => rfl)))) (blkOk_by (N := N__law_parted) (sc := defScope s__law_parted) (by decide +kernel)) (fun _ _ _ _ _ => (pg_name (i := 9) sc__law_parted.nd rfl (.inl rfl))) (fun _ _ _ _ _ => pts_nil) (fun _ _ _ _ _ => pe_g c__law_behind hr (by decide) hG (by rfl) (pa_cons (pv 9) (pa_cons (pv 1) (pa_cons (pv 3) pa_nil))))) pa_nil)) pa_nil))))))))))
theorem c__law_full (F : Dfn K mg "_law_full" s__law_full ["_law_e"]) (B : Bm mg) {C_BadOrder C_Full C_NoRoads C_TooGreat C_WebError : Addr} (Z : Clz K mg C_BadOrder C_Full C_NoRoads C_TooGreat C_WebError)  : CalE P w K mg base 1 "_law_full" C_Full true := by
  refine cal_e F sc__law_full (fun f cdv A outer s H E a oe hz hf => ⟨tFullE K C_Full C_TooGreat C_NoRoads C_BadOrder a, ?_, fun Q h => tFullE_ok rfl Z.k1__law_full Z.k2__law_full Z.k3__law_full h⟩)
  exact pss_one (ps_ret (pe_and (pe_callB (call_isP (List.mem_cons_self) Z.e_Full hz hf) (by rfl) B.n_isinstance (by decide +kernel) (pa_cons (pv 0) (pa_cons (pe_bltn (v := .ty "ValueError") (by rfl) B.n_ValueError (by decide +kernel) rfl) pa_nil))) (pe_and (pe_callB (call_isP (List.mem_cons_self) Z.e_Full hz hf) (by rfl) B.n_isinstance (by decide +kernel) (pa_cons (pv 0) (pa_cons (pe_glob (v := .ref C_Full) (by rfl) Z.g_Full rfl) pa_nil))) (pe_one (pe_not (pe_callB (call_isPT (List.mem_cons_self) Z.e_Full hz hf) (by rfl) B.n_isinstance (by decide +kernel) (pa_cons (pv 0) (pa_cons (pe_tup (pa_cons (pe_glob (v := .ref C_TooGreat) (by rfl) Z.g_TooGreat rfl) (pa_cons (pe_glob (v := .ref C_NoRoads) (by rfl) Z.g_NoRoads rfl) (pa_cons (pe_glob (v := .ref C_BadOrder) (by rfl) Z.g_BadOrder rfl) pa_nil)))) pa_nil))))))))
theorem eq_F_check_many_b : F_check_many_b = runP 2 0 X_check_many_b := by unfold F_check_many_b; rfl
theorem c_check_many (F : Dfn K mg "check_many" s_check_many ["houses", "roads"]) (B : Bm mg) {C_BadOrder C_Full C_NoRoads C_TooGreat C_WebError : Addr} (Z : Clz K mg C_BadOrder C_Full C_NoRoads C_TooGreat C_WebError)  {t_HOUSES : Tok} (m_HOUSES : mg "HOUSES" = some (.int 8 t_HOUSES)) {t_ROADS : Tok} (m_ROADS : mg "ROADS" = some (.int 20 t_ROADS)) : CalX P w K mg base 1 "check_many" (spX (clsL [C_Full]) F_check_many_b) := by
  rw [eq_F_check_many_b]
  refine cal_x F sc_check_many (fun vs H Q E h => len_X h) (fun f cdv A outer s H E hG hr => ⟨T_check_many_b (fun cls d _ H => E cls d H) (clsL [C_Full]), ?_, fun vs Q h => go_X (n := 2) (k := 0) ss_check_many_b rfl h⟩)
  unfold T_check_many_b
  exact pss_one (ps_if (PW.pt (pw_or (pt_cmpR (op_gtU hr.units) (pv 0) (pe_glob (by rfl) m_HOUSES ⟨_, rfl⟩) (nomark _)) (pw_or1 (pt_cmpR (op_gtU hr.units) (pv 1) (pe_glob (by rfl) m_ROADS ⟨_, rfl⟩) (nomark _))))) (pss_one (ps_raise rfl (takes_of rfl rfl rfl rfl) (pmk_own0 PySem.F.excBase_ValueError Z.x_Full Z.g_Full Z.k_Full (raises_own Z.b_Full Z.t_Full) (by rfl)))) pss_nil)
theorem eq_F_exchanged : F_exchanged = runP 3 0 X_exchanged := by unfold F_exchanged; rfl
theorem c_exchanged (F : Dfn K mg "exchanged" s_exchanged ["things", "at", "thing"]) (B : Bm mg) : CalG P w K mg base 1 "exchanged" (spF F_exchanged) := by
  rw [eq_F_exchanged]
  refine cal_g F sc_exchanged (fun vs H Q E h => len_F h) (fun f cdv A outer s H E hG hr => ⟨T_exchanged, ?_, fun vs Q h => go_P (n := 3) (k := 0) ss_exchanged rfl h⟩)
  unfold T_exchanged
  exact pss_one (ps_ret (pe_op op_addU (pe_op op_addU (pe_slice sl_U (pv 0) po_none (po_some (pv 1))) (pe_tupF (pa_cons (pv 2) pa_nil))) (pe_slice sl_U (pv 0) (po_some (pe_op op_addU (pv 1) pe_int)) po_none)))
theorem eq_F_order_with : F_order_with = runP 3 1 X_order_with := by unfold F_order_with; rfl
theorem c_order_with (F : Dfn K mg "order_with" s_order_with ["order", "road", "further"]) (B : Bm mg) : CalG P w K mg base 1 "order_with" (spF F_order_with) := by
  rw [eq_F_order_with]
  refine cal_g F sc_order_with (fun vs H Q E h => len_F h) (fun f cdv A outer s H E hG hr => ⟨T_order_with, ?_, fun vs Q h => go_P (n := 3) (k := 1) ss_order_with rfl h⟩)
  unfold T_order_with
  exact pss_cons (ps_if (pt_cmpR (op_notInU (u65 hr)) (pv 1) (pv 0) (by rfl)) (pss_one (ps_ret (pv 0))) pss_nil)
      (pss_cons (ps_set (i := 3) sc_order_with.nd rfl (.inl rfl) (pe_op op_addU (PE.or (pe_bmF PySem.F.slot_tuple_index PySem.F.type_tuple_index (mt_indexF (u65 hr)) (pv 0) (pa_cons (pv 1) pa_nil)) (pe_bm PySem.F.plainAttrs_list PySem.F.slot_list_index PySem.F.type_list_index (mt_indexD (u65 hr)) (pv 0) (pa_cons (pv 1) pa_nil))) pe_int))
      (pss_one (ps_ret (pe_op op_addU (pe_op op_addU (pe_slice sl_U (pv 0) po_none (po_some (pv 3))) (pe_tupF (pa_cons (pv 2) pa_nil))) (pe_slice sl_U (pv 0) (po_some (pv 3)) po_none)))))
theorem eq_F_orders_with : F_orders_with = runP 3 1 X_orders_with := by unfold F_orders_with; rfl
theorem c_orders_with (F : Dfn K mg "orders_with" s_orders_with ["orders", "road", "further"]) (B : Bm mg) (c_order_with : CalG P w K mg base 1 "order_with" (spF F_order_with)) : CalG P w K mg base 2 "orders_with" (spF F_orders_with) := by
  rw [eq_F_orders_with]
  refine cal_g F sc_orders_with (fun vs H Q E h => len_F h) (fun f cdv A outer s H E hG hr => ⟨T_orders_with, ?_, fun vs Q h => go_P (n := 3) (k := 1) ss_orders_with rfl h⟩)
  unfold T_orders_with
  exact pss_one (ps_ret (pe_callTy cr_tupF (by rfl) B.n_tuple (by decide +kernel) (pa_cons (pe_lc (own := [("order", 3)]) rfl sc_orders_with.nd (PI.or (pi_list (pv 0)) (pi_tup (pv 0))) (blkOk_by (N := N_orders_with) (sc := defScope s_orders_with) (by decide +kernel)) (fun _ _ _ _ _ => (pg_name (i := 3) sc_orders_with.nd rfl (.inl rfl))) (fun _ _ _ _ _ => pts_nil) (fun _ _ _ _ _ => pe_g c_order_with hr (by decide) hG (by rfl) (pa_cons (pv 3) (pa_cons (pv 1) (pa_cons (pv 2) pa_nil))))) pa_nil)))
theorem eq_F_parted_c : F_parted_c = runP 3 7 X_parted_c := by unfold F_parted_c; rfl
theorem c_parted (F : Dfn K mg "parted" s_parted ["web", "road", "room"]) (B : Bm mg) {C_BadOrder C_Full C_NoRoads C_TooGreat C_WebError : Addr} (Z : Clz K mg C_BadOrder C_Full C_NoRoads C_TooGreat C_WebError)  (c_check_many : CalX P w K mg base 1 "check_many" (spX (clsL [C_Full]) F_check_many_b)) (c_exchanged : CalG P w K mg base 1 "exchanged" (spF F_exchanged)) (c_orders_with : CalG P w K mg base 2 "orders_with" (spF F_orders_with)) : CalX P w K mg base 3 "parted" (spX (clsL [C_Full]) F_parted_c) := by
  rw [eq_F_parted_c]
  refine cal_x F sc_parted (fun vs H Q E h => len_X h) (fun f cdv A outer s H E hG hr => ⟨T_parted_c (fun cls d _ H => E cls d H) (clsL [C_Full]), ?_, fun vs Q h => go_X (n := 3) (k := 7) ss_parted_c rfl h⟩)
  unfold T_parted_c
  exact pss_cons (ps_asg (pv 0) (PG.or (pg_tup rfl (pgs_cons (pg_name (i := 3) sc_parted.nd rfl (.inl rfl)) (pgs_cons (pg_name (i := 4) sc_parted.nd rfl (.inl rfl)) (pgs_cons (pg_name (i := 5) sc_parted.nd rfl (.inl rfl)) pgs_nil)))) (pg_unl rfl (pgs_cons (pg_name (i := 3) sc_parted.nd rfl (.inl rfl)) (pgs_cons (pg_name (i := 4) sc_parted.nd rfl (.inl rfl)) (pgs_cons (pg_name (i := 5) sc_parted.nd rfl (.inl rfl)) pgs_nil))))))
      (pss_cons (ps_set (i := 6) sc_parted.nd rfl (.inl rfl) (pe_callB call_len_seq (by rfl) B.n_len (by decide +kernel) (pa_cons (pv 3) pa_nil)))
      (pss_cons (ps_expr (pe_gx c_check_many hr (by decide) hG (by rfl) (takes_of rfl rfl rfl rfl) (pa_cons (pe_callB call_len_seq (by rfl) B.n_len (by decide +kernel) (pa_cons (pv 4) pa_nil)) (pa_cons (pe_op op_addU (pv 6) pe_int) pa_nil))))
      (pss_cons (ps_asg (pe_ix ix_seq (pv 3) (pv 1) (fun _ _ => rfl)) (PG.or (pg_tup rfl (pgs_cons (pg_name (i := 7) sc_parted.nd rfl (.inl rfl)) (pgs_cons (pg_name (i := 8) sc_parted.nd rfl (.inl rfl)) (pgs_cons (pg_name (i := 9) sc_parted.nd rfl (.inl rfl)) pgs_nil)))) (pg_unl rfl (pgs_cons (pg_name (i := 7) sc_parted.nd rfl (.inl rfl)) (pgs_cons (pg_name (i := 8) sc_parted.nd rfl (.inl rfl)) (pgs_cons (pg_name (i := 9) sc_parted.nd rfl (.inl rfl)) pgs_nil))))))
      (pss_one (ps_ret (pe_tupF (pa_cons (pe_op op_addU (pe_g c_exchanged hr (by decide) hG (by rfl) (pa_cons (pv 3) (pa_cons (pv 1) (pa_cons (pe_tupF (pa_cons (pv 7) (pa_cons (pv 8) (pa_cons (pv 2) pa_nil)))) pa_nil)))) (pe_tupF (pa_cons (pe_tupF (pa_cons (pv 7) (pa_cons (pv 8) (pa_cons (pe_op op_sub (pv 9) (pv 2)) pa_nil)))) pa_nil))) (pa_cons (pe_g c_orders_with hr (by decide) hG (by rfl) (pa_cons (pv 4) (pa_cons (pv 1) (pa_cons (pv 6) pa_nil)))) (pa_cons (pe_g c_orders_with hr (by decide) hG (by rfl) (pa_cons (pv 5) (pa_cons (pv 1) (pa_cons (pv 6) pa_nil)))) pa_nil)))))))))
theorem eq_F__law_told_u : F__law_told_u = runP 3 2 X__law_told_u := by unfold F__law_told_u; rfl
theorem c__law_told (F : Dfn K mg "_law_told" s__law_told ["_law_web_here", "_law_road", "_law_room_here"]) (B : Bm mg) {C_BadOrder C_Full C_NoRoads C_TooGreat C_WebError : Addr} (Z : Clz K mg C_BadOrder C_Full C_NoRoads C_TooGreat C_WebError)  (c__law_full : CalE P w K mg base 1 "_law_full" C_Full true) (c_parted : CalX P w K mg base 3 "parted" (spX (clsL [C_Full]) F_parted_c)) : CalG P w K mg base 4 "_law_told" (spF F__law_told_u) := by
  rw [eq_F__law_told_u]
  refine cal_g F sc__law_told (fun vs H Q E h => len_F h) (fun f cdv A outer s H E hG hr => ⟨T__law_told_u (clsL [C_Full]) C_WebError C_Full, ?_, fun vs Q h => go_P (n := 3) (k := 2) (ss__law_told_u Z.m__law_told rfl) rfl h⟩)
  unfold T__law_told_u
  exact pss_cons (ps_set (i := 3) sc__law_told.nd rfl (.inl rfl) pe_non)
      (pss_cons (ps_tryB rfl rfl sc__law_told.nd rfl rfl ⟨rfl, by decide, .inl Z.g_WebError⟩ takes_no (fun W pn xe tk => ps_set (i := 3) sc__law_told.nd rfl (.inl rfl) (pe_gx c_parted hr (by decide) hG (by rfl) tk (pa_cons (pv 0) (pa_cons (pv 1) (pa_cons (pv 2) pa_nil))))) (fun a oe cls d pn hz hf => pss_only fun e1 e2 => by subst e1; subst e2; exact pss_one (ps_set (i := 3) sc__law_told.nd rfl (.inl rfl) (pe_lst (pa_cons (pe_ix ix_seq (pe_lst (pa_cons pe_str (pa_cons pe_str pa_nil))) (pe_callTy call_int1 (by rfl) B.n_int (by decide +kernel) (pa_cons (pe_gE c__law_full hr (by decide) (by rfl) hz hf (pa_cons (pv 4) pa_nil)) pa_nil)) (fun _ _ => rfl)) pa_nil)))))
      (pss_one (ps_ret (pv 3))))
theorem eq_F__law_right_z39 : F__law_right_z39 = runP 3 2 X__law_right_z39 := by unfold F__law_right_z39; rfl
theorem c__law_right (F : Dfn K mg "_law_right" s__law_right ["_law_web_here", "_law_road", "_law_room_here"]) (B : Bm mg) (c__law_parted : CalG P w K mg base 2 "_law_parted" (spF F__law_parted_c)) (c__law_told : CalG P w K mg base 4 "_law_told" (spF F__law_told_u)) : CalG P w K mg base 5 "_law_right" (spF F__law_right_z39) := by
  rw [eq_F__law_right_z39]
  refine cal_g F sc__law_right (fun vs H Q E h => len_F h) (fun f cdv A outer s H E hG hr => ⟨T__law_right_z39, ?_, fun vs Q h => go_P (n := 3) (k := 2) ss__law_right_z39 rfl h⟩)
  unfold T__law_right_z39
  exact pss_cons (ps_set (i := 3) sc__law_right.nd rfl (.inl rfl) (pe_callB (cr_repr hG (u65 hr)) (by rfl) B.n_repr (by decide +kernel) (pa_cons (pv 0) pa_nil)))
      (pss_cons (ps_set (i := 4) sc__law_right.nd rfl (.inl rfl) (pe_callB (cr_repr hG (u65 hr)) (by rfl) B.n_repr (by decide +kernel) (pa_cons (pe_g c__law_parted hr (by decide) hG (by rfl) (pa_cons (pv 0) (pa_cons (pv 1) (pa_cons (pv 2) pa_nil)))) pa_nil)))
      (pss_one (ps_ret (pe_and (pe_cmpR (op_eqX hr.units) (pe_callB (cr_repr hG (u65 hr)) (by rfl) B.n_repr (by decide +kernel) (pa_cons (pe_g c__law_told hr (by decide) hG (by rfl) (pa_cons (pv 0) (pa_cons (pv 1) (pa_cons (pv 2) pa_nil)))) pa_nil)) (pv 4) (nomark _)) (pe_and (pe_cmpR (op_eqX hr.units) (pe_callB (cr_repr hG (u65 hr)) (by rfl) B.n_repr (by decide +kernel) (pa_cons (pe_g c__law_told hr (by decide) hG (by rfl) (pa_cons (pv 0) (pa_cons (pv 1) (pa_cons (pv 2) pa_nil)))) pa_nil)) (pv 4) (nomark _)) (pe_one (pe_cmpR (op_eqX hr.units) (pe_callB (cr_repr hG (u65 hr)) (by rfl) B.n_repr (by decide +kernel) (pa_cons (pv 0) pa_nil)) (pv 3) (nomark _))))))))
theorem eq_F__law_room_e : F__law_room_e = runW 2 1 X__law_room_e := by unfold F__law_room_e; rfl
theorem c__law_room (F : Dfn K mg "_law_room" s__law_room ["_law_deck_here", "_law_web_here", "_law_road"]) (B : Bm mg) (c__law_next : CalG P w K mg base 2 "_law_next" (spW F__law_next_c)) : CalG P w K mg base 3 "_law_room" (spW F__law_room_e) := by
  rw [eq_F__law_room_e]
  refine cal_g F sc__law_room (fun vs H Q E h => len_W h) (fun f cdv A outer s H E hG hr => ⟨T__law_room_e, ?_, fun vs Q h => go_W (n := 2) (k := 1) ss__law_room_e rfl h⟩)
  unfold T__law_room_e
  exact pss_cons (ps_set (i := 3) sc__law_room.nd rfl (.inl rfl) (pe_ix ix_seq (pe_ix ix_seq (pe_ix ix_seq (pv 1) pe_int (fun _ _ => rfl)) (pv 2) (fun _ _ => rfl)) pe_int (fun _ _ => rfl)))
      (pss_one (ps_ret (pe_ix ix_seq (pe_lst (pa_cons pe_int (pa_cons (pv 3) (pa_cons (pe_g c__law_next hr (by decide) hG (by rfl) (pa_cons (pv 0) (pa_cons (pe_op op_addU (pv 3) pe_int) pa_nil))) (pa_cons (pe_g c__law_next hr (by decide) hG (by rfl) (pa_cons (pv 0) (pa_cons (pe_op op_addU (pv 3) pe_int) pa_nil))) pa_nil))))) (pe_g c__law_next hr (by decide) hG (by rfl) (pa_cons (pv 0) (pa_cons pe_int pa_nil))) (fun _ _ => rfl))))
theorem eq_F__law_one_b : F__law_one_b = runW 1 0 X__law_one_b := by unfold F__law_one_b; rfl
theorem c__law_one (F : Dfn K mg "_law_one" s__law_one ["_law_deck_here", "_law_things"]) (B : Bm mg) (c__law_next : CalG P w K mg base 2 "_law_next" (spW F__law_next_c)) : CalG P w K mg base 3 "_law_one" (spW F__law_one_b) := by
  rw [eq_F__law_one_b]
  refine cal_g F sc__law_one (fun vs H Q E h => len_W h) (fun f cdv A outer s H E hG hr => ⟨T__law_one_b, ?_, fun vs Q h => go_W (n := 1) (k := 0) ss__law_one_b rfl h⟩)
  unfold T__law_one_b
  exact pss_one (ps_ret (pe_ix ix_seq (pv 1) (pe_g c__law_next hr (by decide) hG (by rfl) (pa_cons (pv 0) (pa_cons (pe_callB call_len_seq (by rfl) B.n_len (by decide +kernel) (pa_cons (pv 1) pa_nil)) pa_nil))) (fun _ _ => rfl)))
theorem eq_F__law_order_d : F__law_order_d = runW 1 2 X__law_order_d := by unfold F__law_order_d; rfl
theorem c__law_order (F : Dfn K mg "_law_order" s__law_order ["_law_deck_here", "_law_some"]) (B : Bm mg) (c__law_next : CalG P w K mg base 2 "_law_next" (spW F__law_next_c)) : CalG P w K mg base 3 "_law_order" (spW F__law_order_d) := by
  rw [eq_F__law_order_d]
  refine cal_g F sc__law_order (fun vs H Q E h => len_W h) (fun f cdv A outer s H E hG hr => ⟨T__law_order_d, ?_, fun vs Q h => go_W (n := 1) (k := 2) ss__law_order_d rfl h⟩)
  unfold T__law_order_d
  exact pss_cons (ps_par (i := 2) (j := 3) rfl sc__law_order.nd rfl rfl (by decide) rfl rfl (pa_cons (pe_callTy call_list_of (by rfl) B.n_list (by decide +kernel) (pa_cons (pv 1) pa_nil)) (pa_cons (pe_lst pa_nil) pa_nil)) rfl)
      (pss_cons (ps_while PassesOwn.never (pt_cmpR (op_neD hr.units) (pv 2) (pe_lst pa_nil) (nomark _)) (pss_one (ps_expr (pe_bm PySem.F.plainAttrs_list PySem.F.slot_list_append PySem.F.type_list_append mt_append (pv 3) (pa_cons (pe_bm PySem.F.plainAttrs_list PySem.F.slot_list_pop PySem.F.type_list_pop mt_popAt (pv 2) (pa_cons (pe_g c__law_next hr (by decide) hG (by rfl) (pa_cons (pv 0) (pa_cons (pe_callB call_len_seq (by rfl) B.n_len (by decide +kernel) (pa_cons (pv 2) pa_nil)) pa_nil))) pa_nil)) pa_nil)))))
      (pss_one (ps_ret (pe_callTy cr_tupF (by rfl) B.n_tuple (by decide +kernel) (pa_cons (pv 3) pa_nil)))))
theorem eq_F__law_web_f : F__law_web_f = runW 2 10 X__law_web_f := by unfold F__law_web_f; rfl
theorem c__law_web (F : Dfn K mg "_law_web" s__law_web ["_law_deck_here", "_law_most", "_law_many"]) (B : Bm mg) (c__law_next : CalG P w K mg base 2 "_law_next" (spW F__law_next_c)) (c__law_one : CalG P w K mg base 3 "_law_one" (spW F__law_one_b)) (c__law_order : CalG P w K mg base 3 "_law_order" (spW F__law_order_d)) : CalG P w K mg base 4 "_law_web" (spW F__law_web_f) := by
  rw [eq_F__law_web_f]
  refine cal_g F sc__law_web (fun vs H Q E h => len_W h) (fun f cdv A outer s H E hG hr => ⟨T__law_web_f, ?_, fun vs Q h => go_W (n := 2) (k := 10) ss__law_web_f rfl h⟩)
  unfold T__law_web_f
  exact pss_cons (ps_asg (pe_tupF (pa_cons (pe_g c__law_next hr (by decide) hG (by rfl) (pa_cons (pv 0) (pa_cons pe_int pa_nil))) (pa_cons (pe_op op_addU pe_int (pe_g c__law_next hr (by decide) hG (by rfl) (pa_cons (pv 0) (pa_cons (pv 1) pa_nil)))) (pa_cons (pe_lst pa_nil) pa_nil)))) (PG.or (pg_tup rfl (pgs_cons (pg_name (i := 3) sc__law_web.nd rfl (.inl rfl)) (pgs_cons (pg_name (i := 4) sc__law_web.nd rfl (.inl rfl)) (pgs_cons (pg_name (i := 5) sc__law_web.nd rfl (.inr rfl)) pgs_nil)))) (pg_unl rfl (pgs_cons (pg_name (i := 3) sc__law_web.nd rfl (.inl rfl)) (pgs_cons (pg_name (i := 4) sc__law_web.nd rfl (.inl rfl)) (pgs_cons (pg_name (i := 5) sc__law_web.nd rfl (.inr rfl)) pgs_nil))))))
      (pss_cons (ps_if (PW.pt (pw_and (pt_cmpR (op_eqX hr.units) (pv 3) pe_int (nomark _)) (pw_and1 (pt_cmpR (op_gtU hr.units) (pv 2) pe_int (nomark _))))) (pss_cons (ps_set (i := 4) sc__law_web.nd rfl (.inl rfl) (pe_callB (cr_maxU rfl) (by rfl) B.n_max (by decide +kernel) (pa_cons pe_int (pa_cons (pv 4) pa_nil))))
      (pss_one (ps_set (i := 5) sc__law_web.nd rfl (.inr rfl) (pe_lst (pa_cons (pe_tupF (pa_cons pe_non (pa_cons pe_int (pa_cons pe_int pa_nil)))) (pa_cons (pe_tupF (pa_cons pe_int (pa_cons pe_int (pa_cons (pe_op op_addU pe_int (pe_g c__law_next hr (by decide) hG (by rfl) (pa_cons (pv 0) (pa_cons pe_int pa_nil)))) pa_nil)))) (pa_cons (pe_tupF (pa_cons pe_int (pa_cons pe_int (pa_cons (pe_op op_addU pe_int (pe_g c__law_next hr (by decide) hG (by rfl) (pa_cons (pv 0) (pa_cons pe_int pa_nil)))) pa_nil)))) (pa_cons (pe_tupF (pa_cons pe_int (pa_cons pe_non (pa_cons pe_int pa_nil)))) pa_nil)))))))) pss_nil)
      (pss_cons (ps_for PassesOwn.never rfl (pi_range1 (by rfl) B.n_range (pa_cons (pe_op op_sub (pe_op op_addU pe_int (pe_g c__law_next hr (by decide) hG (by rfl) (pa_cons (pv 0) (pa_cons (pv 2) pa_nil)))) (pe_callB call_len_seq (by rfl) B.n_len (by decide +kernel) (pa_cons (pv 5) pa_nil))) pa_nil)) (pg_name (i := 6) sc__law_web.nd rfl (.inl rfl)) (pss_cons (ps_set (i := 7) sc__law_web.nd rfl (.inl rfl) (pe_op op_addU (pe_lst (pa_cons pe_non pa_nil)) (pe_listRg rfl (by rfl) B.n_list (prg_1 (by rfl) B.n_range (pv 4)))))
      (pss_cons (ps_set (i := 8) sc__law_web.nd rfl (.inl rfl) (pe_bm PySem.F.plainAttrs_list PySem.F.slot_list_pop PySem.F.type_list_pop mt_popAt (pv 7) (pa_cons (pe_g c__law_next hr (by decide) hG (by rfl) (pa_cons (pv 0) (pa_cons (pe_callB call_len_seq (by rfl) B.n_len (by decide +kernel) (pa_cons (pv 7) pa_nil)) pa_nil))) pa_nil)))
      (pss_one (ps_expr (pe_bm PySem.F.plainAttrs_list PySem.F.slot_list_append PySem.F.type_list_append mt_append (pv 5) (pa_cons (pe_tupF (pa_cons (pv 8) (pa_cons (pe_g c__law_one hr (by decide) hG (by rfl) (pa_cons (pv 0) (pa_cons (pv 7) pa_nil))) (pa_cons (pe_ix ix_seq (pe_lst (pa_cons pe_int (pa_cons pe_int (pa_cons pe_int (pa_cons pe_int (pa_cons pe_int (pa_cons pe_int pa_nil))))))) (pe_g c__law_next hr (by decide) hG (by rfl) (pa_cons (pv 0) (pa_cons pe_int pa_nil))) (fun _ _ => rfl)) pa_nil)))) pa_nil)))))))
      (pss_cons (ps_setLc (i := 9) (own := [("_law_house", 11)]) rfl sc__law_web.nd rfl rfl (sw_true rfl rfl rfl (by decide +kernel)) (pi_range1 (by rfl) B.n_range (pa_cons (pv 4) pa_nil)) (blkOk_by (N := N__law_web) (sc := defScope s__law_web) (by decide +kernel)) (fun _ _ _ _ _ => (pg_name (i := 11) sc__law_web.nd rfl (.inr rfl))) (fun _ _ _ _ _ => pts_nil) (fun _ _ _ _ _ => pe_lc (own := [("_law_k", 6)]) rfl sc__law_web.nd (pi_range1 (by rfl) B.n_range (pa_cons (pe_callB call_len_seq (by rfl) B.n_len (by decide +kernel) (pa_cons (pv 5) pa_nil)) pa_nil)) (blkOk_in (N := N__law_web) rfl (by decide +kernel)) (fun _ _ _ _ _ => (pg_name (i := 6) sc__law_web.nd rfl (.inl rfl))) (fun _ _ _ _ _ => pts_one (pt_cmpR (op_eqX hr.units) (pe_ix ix_seq (pe_ix ix_seq (pv 5) (pv 6) (fun _ _ => rfl)) pe_int (fun _ _ => rfl)) (pv 11) (nomark _))) (fun _ _ _ _ _ => (pv 6))))
      (pss_cons (ps_setLc (i := 10) (own := [("_law_house", 11)]) rfl sc__law_web.nd rfl rfl (sw_true rfl rfl rfl (by decide +kernel)) (pi_range1 (by rfl) B.n_range (pa_cons (pv 4) pa_nil)) (blkOk_by (N := N__law_web) (sc := defScope s__law_web) (by decide +kernel)) (fun _ _ _ _ _ => (pg_name (i := 11) sc__law_web.nd rfl (.inr rfl))) (fun _ _ _ _ _ => pts_nil) (fun _ _ _ _ _ => pe_lc (own := [("_law_k", 6)]) rfl sc__law_web.nd (pi_range1 (by rfl) B.n_range (pa_cons (pe_callB call_len_seq (by rfl) B.n_len (by decide +kernel) (pa_cons (pv 5) pa_nil)) pa_nil)) (blkOk_in (N := N__law_web) rfl (by decide +kernel)) (fun _ _ _ _ _ => (pg_name (i := 6) sc__law_web.nd rfl (.inl rfl))) (fun _ _ _ _ _ => pts_one (pt_cmpR (op_eqX hr.units) (pe_ix ix_seq (pe_ix ix_seq (pv 5) (pv 6) (fun _ _ => rfl)) pe_int (fun _ _ => rfl)) (pv 11) (nomark _))) (fun _ _ _ _ _ => (pv 6))))
      (pss_cons (ps_if (pt_cmpR op_lt (pv 3) pe_int (nomark _)) (pss_one (ps_ret (pe_tupF (pa_cons (pe_callTy cr_tupF (by rfl) B.n_tuple (by decide +kernel) (pa_cons (pv 5) pa_nil)) (pa_cons (pe_callTy cr_tupF (by rfl) B.n_tuple (by decide +kernel) (pa_cons (pe_lc (own := [("_law_row", 12)]) rfl sc__law_web.nd (PI.or (pi_list (pv 9)) (pi_tup (pv 9))) (blkOk_by (N := N__law_web) (sc := defScope s__law_web) (by decide +kernel)) (fun _ _ _ _ _ => (pg_name (i := 12) sc__law_web.nd rfl (.inl rfl))) (fun _ _ _ _ _ => pts_nil) (fun _ _ _ _ _ => pe_callTy cr_tupF (by rfl) B.n_tuple (by decide +kernel) (pa_cons (pv 12) pa_nil))) pa_nil)) (pa_cons (pe_callTy cr_tupF (by rfl) B.n_tuple (by decide +kernel) (pa_cons (pe_lc (own := [("_law_row", 12)]) rfl sc__law_web.nd (PI.or (pi_list (pv 10)) (pi_tup (pv 10))) (blkOk_by (N := N__law_web) (sc := defScope s__law_web) (by decide +kernel)) (fun _ _ _ _ _ => (pg_name (i := 12) sc__law_web.nd rfl (.inl rfl))) (fun _ _ _ _ _ => pts_nil) (fun _ _ _ _ _ => pe_callTy cr_tupF (by rfl) B.n_tuple (by decide +kernel) (pa_cons (pe_back (pv 12)) pa_nil))) pa_nil)) pa_nil)))))) pss_nil)
      (pss_cons (ps_set (i := 9) sc__law_web.nd rfl (.inl rfl) (pe_callTy cr_tupF (by rfl) B.n_tuple (by decide +kernel) (pa_cons (pe_lc (own := [("_law_row", 12)]) rfl sc__law_web.nd (PI.or (pi_list (pv 9)) (pi_tup (pv 9))) (blkOk_by (N := N__law_web) (sc := defScope s__law_web) (by decide +kernel)) (fun _ _ _ _ _ => (pg_name (i := 12) sc__law_web.nd rfl (.inl rfl))) (fun _ _ _ _ _ => pts_nil) (fun _ _ _ _ _ => pe_g c__law_order hr (by decide) hG (by rfl) (pa_cons (pv 0) (pa_cons (pv 12) pa_nil)))) pa_nil)))
      (pss_one (ps_ret (pe_tupF (pa_cons (pe_callTy cr_tupF (by rfl) B.n_tuple (by decide +kernel) (pa_cons (pv 5) pa_nil)) (pa_cons (pv 9) (pa_cons (pe_callTy cr_tupF (by rfl) B.n_tuple (by decide +kernel) (pa_cons (pe_lc (own := [("_law_row", 12)]) rfl sc__law_web.nd (PI.or (pi_list (pv 10)) (pi_tup (pv 10))) (blkOk_by (N := N__law_web) (sc := defScope s__law_web) (by decide +kernel)) (fun _ _ _ _ _ => (pg_name (i := 12) sc__law_web.nd rfl (.inl rfl))) (fun _ _ _ _ _ => pts_nil) (fun _ _ _ _ _ => pe_g c__law_order hr (by decide) hG (by rfl) (pa_cons (pv 0) (pa_cons (pv 12) pa_nil)))) pa_nil)) pa_nil))))))))))))
theorem eq_F__law_wide_f : F__law_wide_f = runW 0 9 X__law_wide_f := by unfold F__law_wide_f; rfl
theorem c__law_wide (F : Dfn K mg "_law_wide" s__law_wide ["_law_deck_here"]) (B : Bm mg) (c__law_next : CalG P w K mg base 2 "_law_next" (spW F__law_next_c)) (c__law_one : CalG P w K mg base 3 "_law_one" (spW F__law_one_b)) (c__law_order : CalG P w K mg base 3 "_law_order" (spW F__law_order_d)) : CalG P w K mg base 4 "_law_wide" (spW F__law_wide_f) := by
  rw [eq_F__law_wide_f]
  refine cal_g F sc__law_wide (fun vs H Q E h => len_W h) (fun f cdv A outer s H E hG hr => ⟨T__law_wide_f, ?_, fun vs Q h => go_W (n := 0) (k := 9) ss__law_wide_f rfl h⟩)
  unfold T__law_wide_f
  exact pss_cons (ps_set (i := 1) sc__law_wide.nd rfl (.inl rfl) (pe_op op_addU pe_int (pe_g c__law_next hr (by decide) hG (by rfl) (pa_cons (pv 0) (pa_cons pe_int pa_nil)))))
      (pss_cons (ps_set (i := 2) sc__law_wide.nd rfl (.inr rfl) (pe_lst pa_nil))
      (pss_cons (ps_for PassesOwn.never rfl (pi_range1 (by rfl) B.n_range (pa_cons (pe_op op_addU pe_int (pe_g c__law_next hr (by decide) hG (by rfl) (pa_cons (pv 0) (pa_cons pe_int pa_nil)))) pa_nil)) (pg_name (i := 3) sc__law_wide.nd rfl (.inl rfl)) (pss_cons (ps_set (i := 4) sc__law_wide.nd rfl (.inl rfl) (pe_op op_addU (pe_lst (pa_cons pe_non pa_nil)) (pe_listRg rfl (by rfl) B.n_list (prg_1 (by rfl) B.n_range (pv 1)))))
      (pss_cons (ps_set (i := 5) sc__law_wide.nd rfl (.inl rfl) (pe_bm PySem.F.plainAttrs_list PySem.F.slot_list_pop PySem.F.type_list_pop mt_popAt (pv 4) (pa_cons (pe_g c__law_next hr (by decide) hG (by rfl) (pa_cons (pv 0) (pa_cons (pe_callB call_len_seq (by rfl) B.n_len (by decide +kernel) (pa_cons (pv 4) pa_nil)) pa_nil))) pa_nil)))
      (pss_cons (ps_set (i := 6) sc__law_wide.nd rfl (.inl rfl) (pe_ix ix_seq (pe_lst (pa_cons pe_int (pa_cons pe_int (pa_cons pe_int (pa_cons (pe_g c__law_next hr (by decide) hG (by rfl) (pa_cons (pv 0) (pa_cons (pe_op op_pow pe_int pe_int) pa_nil))) (pa_cons (pe_op op_sub (pe_op op_pow pe_int pe_int) (pe_g c__law_next hr (by decide) hG (by rfl) (pa_cons (pv 0) (pa_cons pe_int pa_nil)))) pa_nil)))))) (pe_g c__law_next hr (by decide) hG (by rfl) (pa_cons (pv 0) (pa_cons pe_int pa_nil))) (fun _ _ => rfl)))
      (pss_one (ps_expr (pe_bm PySem.F.plainAttrs_list PySem.F.slot_list_append PySem.F.type_list_append mt_append (pv 2) (pa_cons (pe_tupF (pa_cons (pv 5) (pa_cons (pe_g c__law_one hr (by decide) hG (by rfl) (pa_cons (pv 0) (pa_cons (pv 4) pa_nil))) (pa_cons (pv 6) pa_nil)))) pa_nil))))))))
      (pss_cons (ps_par (i := 7) (j := 8) rfl sc__law_wide.nd rfl rfl (by decide) rfl rfl (pa_cons (pe_lst pa_nil) (pa_cons (pe_lst pa_nil) pa_nil)) rfl)
      (pss_cons (ps_for PassesOwn.never rfl (pi_range1 (by rfl) B.n_range (pa_cons (pv 1) pa_nil)) (pg_name (i := 9) sc__law_wide.nd rfl (.inr rfl)) (pss_cons (ps_expr (pe_bm PySem.F.plainAttrs_list PySem.F.slot_list_append PySem.F.type_list_append mt_append (pv 7) (pa_cons (pe_g c__law_order hr (by decide) hG (by rfl) (pa_cons (pv 0) (pa_cons (pe_lc (own := [("_law_k", 3)]) rfl sc__law_wide.nd (pi_range1 (by rfl) B.n_range (pa_cons (pe_callB call_len_seq (by rfl) B.n_len (by decide +kernel) (pa_cons (pv 2) pa_nil)) pa_nil)) (blkOk_by (N := N__law_wide) (sc := defScope s__law_wide) (by decide +kernel)) (fun _ _ _ _ _ => (pg_name (i := 3) sc__law_wide.nd rfl (.inl rfl))) (fun _ _ _ _ _ => pts_one (pt_cmpR (op_eqX hr.units) (pe_ix ix_seq (pe_ix ix_seq (pv 2) (pv 3) (fun _ _ => rfl)) pe_int (fun _ _ => rfl)) (pv 9) (nomark _))) (fun _ _ _ _ _ => (pv 3))) pa_nil))) pa_nil)))
      (pss_one (ps_expr (pe_bm PySem.F.plainAttrs_list PySem.F.slot_list_append PySem.F.type_list_append mt_append (pv 8) (pa_cons (pe_g c__law_order hr (by decide) hG (by rfl) (pa_cons (pv 0) (pa_cons (pe_lc (own := [("_law_k", 3)]) rfl sc__law_wide.nd (pi_range1 (by rfl) B.n_range (pa_cons (pe_callB call_len_seq (by rfl) B.n_len (by decide +kernel) (pa_cons (pv 2) pa_nil)) pa_nil)) (blkOk_by (N := N__law_wide) (sc := defScope s__law_wide) (by decide +kernel)) (fun _ _ _ _ _ => (pg_name (i := 3) sc__law_wide.nd rfl (.inl rfl))) (fun _ _ _ _ _ => pts_one (pt_cmpR (op_eqX hr.units) (pe_ix ix_seq (pe_ix ix_seq (pv 2) (pv 3) (fun _ _ => rfl)) pe_int (fun _ _ => rfl)) (pv 9) (nomark _))) (fun _ _ _ _ _ => (pv 3))) pa_nil))) pa_nil))))))
      (pss_one (ps_ret (pe_tupF (pa_cons (pe_callTy cr_tupF (by rfl) B.n_tuple (by decide +kernel) (pa_cons (pv 2) pa_nil)) (pa_cons (pe_callTy cr_tupF (by rfl) B.n_tuple (by decide +kernel) (pa_cons (pv 7) pa_nil)) (pa_cons (pe_callTy cr_tupF (by rfl) B.n_tuple (by decide +kernel) (pa_cons (pv 8) pa_nil)) pa_nil))))))))))
theorem eq_F_law_z179 : F_law_z179 = runP 1 6 X_law_z179 := by unfold F_law_z179; rfl
theorem ok_law {f : Addr} {fd : FuncData} (F : Fun K "law" "law" s_law f fd) (B : Bm mg) (c__law_deck : CalG P w K mg base 1 "_law_deck" (spD F__law_deck_f)) (c__law_next : CalG P w K mg base 2 "_law_next" (spW F__law_next_c)) (c__law_parted : CalG P w K mg base 2 "_law_parted" (spF F__law_parted_c)) (c__law_right : CalG P w K mg base 5 "_law_right" (spF F__law_right_z39)) (c__law_room : CalG P w K mg base 3 "_law_room" (spW F__law_room_e)) (c__law_web : CalG P w K mg base 4 "_law_web" (spW F__law_web_f)) (c__law_wide : CalG P w K mg base 4 "_law_wide" (spW F__law_wide_f)) : FnG P w K mg base 6 f fd ["_law_script"] (spF F_law_z179) := by
  rw [eq_F_law_z179]
  refine fn_g F sc_law (fun vs H Q E h => len_F h) (fun cdv A outer s H E hG hr => ⟨T_law_z179, ?_, fun vs Q h => go_P (n := 1) (k := 6) ss_law_z179 rfl h⟩)
  unfold T_law_z179
  exact pss_cons (ps_set (i := 1) sc_law.nd rfl (.inl rfl) (pe_g c__law_deck hr (by decide) hG (by rfl) (pa_cons (pv 0) pa_nil)))
      (pss_cons (ps_for PassesOwn.never rfl (pi_range1 (by rfl) B.n_range (pa_cons pe_int pa_nil)) (pg_name (i := 2) sc_law.nd rfl (.inl rfl)) (pss_cons (ps_set (i := 3) sc_law.nd rfl (.inl rfl) (pe_ix ix_seq (pe_lst (pa_cons (pe_g c__law_web hr (by decide) hG (by rfl) (pa_cons (pv 1) (pa_cons pe_int (pa_cons pe_int pa_nil)))) (pa_cons (pe_g c__law_wide hr (by decide) hG (by rfl) (pa_cons (pv 1) pa_nil)) pa_nil))) (pe_g c__law_next hr (by decide) hG (by rfl) (pa_cons (pv 1) (pa_cons pe_int pa_nil))) (fun _ _ => rfl)))
      (pss_cons (ps_for PassesOwn.never rfl (pi_range1 (by rfl) B.n_range (pa_cons pe_int pa_nil)) (pg_name (i := 4) sc_law.nd rfl (.inl rfl)) (pss_cons (ps_set (i := 5) sc_law.nd rfl (.inl rfl) (pe_g c__law_next hr (by decide) hG (by rfl) (pa_cons (pv 1) (pa_cons (pe_callB call_len_seq (by rfl) B.n_len (by decide +kernel) (pa_cons (pe_ix ix_seq (pv 3) pe_int (fun _ _ => rfl)) pa_nil)) pa_nil))))
      (pss_one (ps_if (pt_not (pt_val (pe_g c__law_right hr (by decide) hG (by rfl) (pa_cons (pv 3) (pa_cons (pv 5) (pa_cons (pe_g c__law_room hr (by decide) hG (by rfl) (pa_cons (pv 1) (pa_cons (pv 3) (pa_cons (pv 5) pa_nil)))) pa_nil)))))) (pss_one (ps_ret pe_bl)) pss_nil))))
      (pss_one (ps_for PassesOwn.never rfl (pi_range1 (by rfl) B.n_range (pa_cons pe_int pa_nil)) (pg_name (i := 4) sc_law.nd rfl (.inl rfl)) (pss_cons (ps_set (i := 5) sc_law.nd rfl (.inl rfl) (pe_g c__law_next hr (by decide) hG (by rfl) (pa_cons (pv 1) (pa_cons (pe_callB call_len_seq (by rfl) B.n_len (by decide +kernel) (pa_cons (pe_ix ix_seq (pv 3) pe_int (fun _ _ => rfl)) pa_nil)) pa_nil))))
      (pss_cons (ps_set (i := 6) sc_law.nd rfl (.inl rfl) (pe_g c__law_room hr (by decide) hG (by rfl) (pa_cons (pv 1) (pa_cons (pv 3) (pa_cons (pv 5) pa_nil)))))
      (pss_cons (ps_if (pt_not (pt_val (pe_g c__law_right hr (by decide) hG (by rfl) (pa_cons (pv 3) (pa_cons (pv 5) (pa_cons (pv 6) pa_nil)))))) (pss_one (ps_ret pe_bl)) pss_nil)
      (pss_one (ps_if (pt_cmpR op_lt (pe_callB call_len_seq (by rfl) B.n_len (by decide +kernel) (pa_cons (pe_ix ix_seq (pv 3) pe_int (fun _ _ => rfl)) pa_nil)) pe_int (nomark _)) (pss_one (ps_set (i := 3) sc_law.nd rfl (.inl rfl) (pe_g c__law_parted hr (by decide) hG (by rfl) (pa_cons (pv 3) (pa_cons (pv 5) (pa_cons (pv 6) pa_nil)))))) pss_nil))))))))))
      (pss_one (ps_ret pe_bl)))
end
theorem all_mk {l : PySem.W.OpenLaw} {w : World} {K : PySem.W.Frag} {h : Heap} {mg : Str → Option Value} {fa : Addr} (X : K.In h) (G : h.Ns mainGlobals mg) (hfa : mg "law" = some (.ref fa))
    {f0 : Addr} {od0 an0 : Option Addr} {sl0 : Array (Option Value)} {oc0 kV0 dc0 pm0 cd0 ct0 : Value}
    {f1 : Addr} {od1 an1 : Option Addr} {sl1 : Array (Option Value)} {oc1 kV1 dc1 pm1 cd1 ct1 : Value}
    {f2 : Addr} {od2 an2 : Option Addr} {sl2 : Array (Option Value)} {oc2 kV2 dc2 pm2 cd2 ct2 : Value}
    {f3 : Addr} {od3 an3 : Option Addr} {sl3 : Array (Option Value)} {oc3 kV3 dc3 pm3 cd3 ct3 : Value}
    {f4 : Addr} {od4 an4 : Option Addr} {sl4 : Array (Option Value)} {oc4 kV4 dc4 pm4 cd4 ct4 : Value}
    {f5 : Addr} {od5 an5 : Option Addr} {sl5 : Array (Option Value)} {oc5 kV5 dc5 pm5 cd5 ct5 : Value}
    {f6 : Addr} {od6 an6 : Option Addr} {sl6 : Array (Option Value)} {oc6 kV6 dc6 pm6 cd6 ct6 : Value}
    {f7 : Addr} {od7 an7 : Option Addr} {sl7 : Array (Option Value)} {oc7 kV7 dc7 pm7 cd7 ct7 : Value}
    {f8 : Addr} {od8 an8 : Option Addr} {sl8 : Array (Option Value)} {oc8 kV8 dc8 pm8 cd8 ct8 : Value}
    {f9 : Addr} {od9 an9 : Option Addr} {sl9 : Array (Option Value)} {oc9 kV9 dc9 pm9 cd9 ct9 : Value}
    {f10 : Addr} {od10 an10 : Option Addr} {sl10 : Array (Option Value)} {oc10 kV10 dc10 pm10 cd10 ct10 : Value}
    {f11 : Addr} {od11 an11 : Option Addr} {sl11 : Array (Option Value)} {oc11 kV11 dc11 pm11 cd11 ct11 : Value}
    {f12 : Addr} {od12 an12 : Option Addr} {sl12 : Array (Option Value)} {oc12 kV12 dc12 pm12 cd12 ct12 : Value}
    {f13 : Addr} {od13 an13 : Option Addr} {sl13 : Array (Option Value)} {oc13 kV13 dc13 pm13 cd13 ct13 : Value}
    {f14 : Addr} {od14 an14 : Option Addr} {sl14 : Array (Option Value)} {oc14 kV14 dc14 pm14 cd14 ct14 : Value}
    {f15 : Addr} {od15 an15 : Option Addr} {sl15 : Array (Option Value)} {oc15 kV15 dc15 pm15 cd15 ct15 : Value}
    {f16 : Addr} {od16 an16 : Option Addr} {sl16 : Array (Option Value)} {oc16 kV16 dc16 pm16 cd16 ct16 : Value}
    {f17 : Addr} {od17 an17 : Option Addr} {sl17 : Array (Option Value)} {oc17 kV17 dc17 pm17 cd17 ct17 : Value}
    {f18 : Addr} {od18 an18 : Option Addr} {sl18 : Array (Option Value)} {oc18 kV18 dc18 pm18 cd18 ct18 : Value}
    {t_HOUSES : Tok}
    {t_ROADS : Tok}
    {C_BadOrder : Addr}
    {C_Full : Addr}
    {C_NoRoads : Addr}
    {C_TooGreat : Addr}
    {C_WebError : Addr}
    (a0 : PySem.W.nsIn K mainGlobals "_law_deck" = some (some (.ref f0))) (l0 : K.lookup f0 = some ⟨oc0, od0, .func (PySem.W.fnOf "_law_deck" "_law_deck" (defArgs s__law_deck) (defBody s__law_deck) (defScope s__law_deck) .none kV0 dc0 pm0 an0 cd0 ct0), sl0⟩) (c0 : PySem.W.codeIn K cd0 "_law_deck" = true) (k0 : PySem.W.keepIn K (.ref f0) = true)
    (a1 : PySem.W.nsIn K mainGlobals "_law_mixed" = some (some (.ref f1))) (l1 : K.lookup f1 = some ⟨oc1, od1, .func (PySem.W.fnOf "_law_mixed" "_law_mixed" (defArgs s__law_mixed) (defBody s__law_mixed) (defScope s__law_mixed) .none kV1 dc1 pm1 an1 cd1 ct1), sl1⟩) (c1 : PySem.W.codeIn K cd1 "_law_mixed" = true) (k1 : PySem.W.keepIn K (.ref f1) = true)
    (a2 : PySem.W.nsIn K mainGlobals "_law_next" = some (some (.ref f2))) (l2 : K.lookup f2 = some ⟨oc2, od2, .func (PySem.W.fnOf "_law_next" "_law_next" (defArgs s__law_next) (defBody s__law_next) (defScope s__law_next) .none kV2 dc2 pm2 an2 cd2 ct2), sl2⟩) (c2 : PySem.W.codeIn K cd2 "_law_next" = true) (k2 : PySem.W.keepIn K (.ref f2) = true)
    (a3 : PySem.W.nsIn K mainGlobals "_law_behind" = some (some (.ref f3))) (l3 : K.lookup f3 = some ⟨oc3, od3, .func (PySem.W.fnOf "_law_behind" "_law_behind" (defArgs s__law_behind) (defBody s__law_behind) (defScope s__law_behind) .none kV3 dc3 pm3 an3 cd3 ct3), sl3⟩) (c3 : PySem.W.codeIn K cd3 "_law_behind" = true) (k3 : PySem.W.keepIn K (.ref f3) = true)
    (a4 : PySem.W.nsIn K mainGlobals "_law_parted" = some (some (.ref f4))) (l4 : K.lookup f4 = some ⟨oc4, od4, .func (PySem.W.fnOf "_law_parted" "_law_parted" (defArgs s__law_parted) (defBody s__law_parted) (defScope s__law_parted) .none kV4 dc4 pm4 an4 cd4 ct4), sl4⟩) (c4 : PySem.W.codeIn K cd4 "_law_parted" = true) (k4 : PySem.W.keepIn K (.ref f4) = true)
    (a5 : PySem.W.nsIn K mainGlobals "_law_full" = some (some (.ref f5))) (l5 : K.lookup f5 = some ⟨oc5, od5, .func (PySem.W.fnOf "_law_full" "_law_full" (defArgs s__law_full) (defBody s__law_full) (defScope s__law_full) .none kV5 dc5 pm5 an5 cd5 ct5), sl5⟩) (c5 : PySem.W.codeIn K cd5 "_law_full" = true) (k5 : PySem.W.keepIn K (.ref f5) = true)
    (a6 : PySem.W.nsIn K mainGlobals "check_many" = some (some (.ref f6))) (l6 : K.lookup f6 = some ⟨oc6, od6, .func (PySem.W.fnOf "check_many" "check_many" (defArgs s_check_many) (defBody s_check_many) (defScope s_check_many) .none kV6 dc6 pm6 an6 cd6 ct6), sl6⟩) (c6 : PySem.W.codeIn K cd6 "check_many" = true) (k6 : PySem.W.keepIn K (.ref f6) = true)
    (a7 : PySem.W.nsIn K mainGlobals "exchanged" = some (some (.ref f7))) (l7 : K.lookup f7 = some ⟨oc7, od7, .func (PySem.W.fnOf "exchanged" "exchanged" (defArgs s_exchanged) (defBody s_exchanged) (defScope s_exchanged) .none kV7 dc7 pm7 an7 cd7 ct7), sl7⟩) (c7 : PySem.W.codeIn K cd7 "exchanged" = true) (k7 : PySem.W.keepIn K (.ref f7) = true)
    (a8 : PySem.W.nsIn K mainGlobals "order_with" = some (some (.ref f8))) (l8 : K.lookup f8 = some ⟨oc8, od8, .func (PySem.W.fnOf "order_with" "order_with" (defArgs s_order_with) (defBody s_order_with) (defScope s_order_with) .none kV8 dc8 pm8 an8 cd8 ct8), sl8⟩) (c8 : PySem.W.codeIn K cd8 "order_with" = true) (k8 : PySem.W.keepIn K (.ref f8) = true)
    (a9 : PySem.W.nsIn K mainGlobals "orders_with" = some (some (.ref f9))) (l9 : K.lookup f9 = some ⟨oc9, od9, .func (PySem.W.fnOf "orders_with" "orders_with" (defArgs s_orders_with) (defBody s_orders_with) (defScope s_orders_with) .none kV9 dc9 pm9 an9 cd9 ct9), sl9⟩) (c9 : PySem.W.codeIn K cd9 "orders_with" = true) (k9 : PySem.W.keepIn K (.ref f9) = true)
    (a10 : PySem.W.nsIn K mainGlobals "parted" = some (some (.ref f10))) (l10 : K.lookup f10 = some ⟨oc10, od10, .func (PySem.W.fnOf "parted" "parted" (defArgs s_parted) (defBody s_parted) (defScope s_parted) .none kV10 dc10 pm10 an10 cd10 ct10), sl10⟩) (c10 : PySem.W.codeIn K cd10 "parted" = true) (k10 : PySem.W.keepIn K (.ref f10) = true)
    (a11 : PySem.W.nsIn K mainGlobals "_law_told" = some (some (.ref f11))) (l11 : K.lookup f11 = some ⟨oc11, od11, .func (PySem.W.fnOf "_law_told" "_law_told" (defArgs s__law_told) (defBody s__law_told) (defScope s__law_told) .none kV11 dc11 pm11 an11 cd11 ct11), sl11⟩) (c11 : PySem.W.codeIn K cd11 "_law_told" = true) (k11 : PySem.W.keepIn K (.ref f11) = true)
    (a12 : PySem.W.nsIn K mainGlobals "_law_right" = some (some (.ref f12))) (l12 : K.lookup f12 = some ⟨oc12, od12, .func (PySem.W.fnOf "_law_right" "_law_right" (defArgs s__law_right) (defBody s__law_right) (defScope s__law_right) .none kV12 dc12 pm12 an12 cd12 ct12), sl12⟩) (c12 : PySem.W.codeIn K cd12 "_law_right" = true) (k12 : PySem.W.keepIn K (.ref f12) = true)
    (a13 : PySem.W.nsIn K mainGlobals "_law_room" = some (some (.ref f13))) (l13 : K.lookup f13 = some ⟨oc13, od13, .func (PySem.W.fnOf "_law_room" "_law_room" (defArgs s__law_room) (defBody s__law_room) (defScope s__law_room) .none kV13 dc13 pm13 an13 cd13 ct13), sl13⟩) (c13 : PySem.W.codeIn K cd13 "_law_room" = true) (k13 : PySem.W.keepIn K (.ref f13) = true)
    (a14 : PySem.W.nsIn K mainGlobals "_law_one" = some (some (.ref f14))) (l14 : K.lookup f14 = some ⟨oc14, od14, .func (PySem.W.fnOf "_law_one" "_law_one" (defArgs s__law_one) (defBody s__law_one) (defScope s__law_one) .none kV14 dc14 pm14 an14 cd14 ct14), sl14⟩) (c14 : PySem.W.codeIn K cd14 "_law_one" = true) (k14 : PySem.W.keepIn K (.ref f14) = true)
    (a15 : PySem.W.nsIn K mainGlobals "_law_order" = some (some (.ref f15))) (l15 : K.lookup f15 = some ⟨oc15, od15, .func (PySem.W.fnOf "_law_order" "_law_order" (defArgs s__law_order) (defBody s__law_order) (defScope s__law_order) .none kV15 dc15 pm15 an15 cd15 ct15), sl15⟩) (c15 : PySem.W.codeIn K cd15 "_law_order" = true) (k15 : PySem.W.keepIn K (.ref f15) = true)
    (a16 : PySem.W.nsIn K mainGlobals "_law_web" = some (some (.ref f16))) (l16 : K.lookup f16 = some ⟨oc16, od16, .func (PySem.W.fnOf "_law_web" "_law_web" (defArgs s__law_web) (defBody s__law_web) (defScope s__law_web) .none kV16 dc16 pm16 an16 cd16 ct16), sl16⟩) (c16 : PySem.W.codeIn K cd16 "_law_web" = true) (k16 : PySem.W.keepIn K (.ref f16) = true)
    (a17 : PySem.W.nsIn K mainGlobals "_law_wide" = some (some (.ref f17))) (l17 : K.lookup f17 = some ⟨oc17, od17, .func (PySem.W.fnOf "_law_wide" "_law_wide" (defArgs s__law_wide) (defBody s__law_wide) (defScope s__law_wide) .none kV17 dc17 pm17 an17 cd17 ct17), sl17⟩) (c17 : PySem.W.codeIn K cd17 "_law_wide" = true) (k17 : PySem.W.keepIn K (.ref f17) = true)
    (a18 : PySem.W.nsIn K mainGlobals "law" = some (some (.ref f18))) (l18 : K.lookup f18 = some ⟨oc18, od18, .func (PySem.W.fnOf "law" "law" (defArgs s_law) (defBody s_law) (defScope s_law) .none kV18 dc18 pm18 an18 cd18 ct18), sl18⟩) (c18 : PySem.W.codeIn K cd18 "law" = true) (k18 : PySem.W.keepIn K (.ref f18) = true)
    (v_HOUSES : PySem.W.nsIn K mainGlobals "HOUSES" = some (some (.int 8 t_HOUSES)))
    (v_ROADS : PySem.W.nsIn K mainGlobals "ROADS" = some (some (.int 20 t_ROADS)))
    (z_ValueError : PySem.W.nsIn K mainGlobals "ValueError" = some none)
    (z_abs : PySem.W.nsIn K mainGlobals "abs" = some none)
    (z_int : PySem.W.nsIn K mainGlobals "int" = some none)
    (z_isinstance : PySem.W.nsIn K mainGlobals "isinstance" = some none)
    (z_len : PySem.W.nsIn K mainGlobals "len" = some none)
    (z_list : PySem.W.nsIn K mainGlobals "list" = some none)
    (z_max : PySem.W.nsIn K mainGlobals "max" = some none)
    (z_range : PySem.W.nsIn K mainGlobals "range" = some none)
    (z_repr : PySem.W.nsIn K mainGlobals "repr" = some none)
    (z_tuple : PySem.W.nsIn K mainGlobals "tuple" = some none)
    (y_BadOrder : PySem.W.nsIn K mainGlobals "BadOrder" = some (some (.ref C_BadOrder)))
    (yb_BadOrder : PySem.W.subIn K (.ref C_BadOrder) (.type "BaseException") = some true) (yt_BadOrder : PySem.W.typeIn K (.ref C_BadOrder) = some (.type "type")) (yh_BadOrder : PySem.W.hasDictIn K C_BadOrder = true)
    (y_Full : PySem.W.nsIn K mainGlobals "Full" = some (some (.ref C_Full)))
    (yb_Full : PySem.W.subIn K (.ref C_Full) (.type "BaseException") = some true) (yt_Full : PySem.W.typeIn K (.ref C_Full) = some (.type "type")) (yh_Full : PySem.W.hasDictIn K C_Full = true)
    (yk_Full : PySem.W.keepIn K (.ref C_Full) = true) (yx_Full : PySem.W.excIn K C_Full [.type "ValueError", .type "Exception", .type "BaseException", .type "object"] "ValueError.__new__" = true)
    (y_NoRoads : PySem.W.nsIn K mainGlobals "NoRoads" = some (some (.ref C_NoRoads)))
    (yb_NoRoads : PySem.W.subIn K (.ref C_NoRoads) (.type "BaseException") = some true) (yt_NoRoads : PySem.W.typeIn K (.ref C_NoRoads) = some (.type "type")) (yh_NoRoads : PySem.W.hasDictIn K C_NoRoads = true)
    (y_TooGreat : PySem.W.nsIn K mainGlobals "TooGreat" = some (some (.ref C_TooGreat)))
    (yb_TooGreat : PySem.W.subIn K (.ref C_TooGreat) (.type "BaseException") = some true) (yt_TooGreat : PySem.W.typeIn K (.ref C_TooGreat) = some (.type "type")) (yh_TooGreat : PySem.W.hasDictIn K C_TooGreat = true)
    (y_WebError : PySem.W.nsIn K mainGlobals "WebError" = some (some (.ref C_WebError)))
    (yb_WebError : PySem.W.subIn K (.ref C_WebError) (.type "BaseException") = some true) (yt_WebError : PySem.W.typeIn K (.ref C_WebError) = some (.type "type")) (yh_WebError : PySem.W.hasDictIn K C_WebError = true)
    (ye0_Full : PySem.W.findIn K (.ref C_Full) "__getattribute__" = some (some (.builtin "BaseException.__getattribute__")))
    (ye1_Full : PySem.W.findIn K (.ref C_Full) "__getattr__" = some none)
    (ye2_Full : PySem.W.findIn K (.ref C_Full) "__class__" = some (some (.builtin "object.__class__")))
    (ye3_Full : PySem.W.specialIn K (.builtin "object.__class__") "__get__" = some (some (.builtin "getset_descriptor.__get__")))
    (ye4_Full : PySem.W.takesIn K (.builtin "object.__class__") = some true)
    (ye5_Full : PySem.W.mroIn K C_Full (.type "object") = some true)
    (ye6_Full : PySem.W.subIn K (.ref C_Full) (.type "ValueError") = some true)
    (yk_Full_Full : PySem.W.subIn K (.ref C_Full) (.ref C_Full) = some true)
    (yk_Full_TooGreat : PySem.W.subIn K (.ref C_Full) (.ref C_TooGreat) = some false)
    (yk_Full_NoRoads : PySem.W.subIn K (.ref C_Full) (.ref C_NoRoads) = some false)
    (yk_Full_BadOrder : PySem.W.subIn K (.ref C_Full) (.ref C_BadOrder) = some false)
    (ys_Full_WebError : PySem.W.subIn K (.ref C_Full) (.ref C_WebError) = some true) :
    ∃ fd : FuncData, (∀ (s : Shared) (v : Value), BindsTo s fd ⟨[v], []⟩ [("_law_script", v)]) ∧ ∀ base : Heap, K.In base → base.Ns mainGlobals mg → FnG l.prog w K mg base 6 fa fd ["_law_script"] (@spF ⟨K⟩ F_law_z179) := by
  letI : KK := ⟨K⟩
  have e := hfa.symm.trans (PySem.W.mg_of X G a18)
  cases e
  have B : Bm mg := ⟨PySem.W.mg_none_of X G z_ValueError, PySem.W.mg_none_of X G z_abs, PySem.W.mg_none_of X G z_int, PySem.W.mg_none_of X G z_isinstance, PySem.W.mg_none_of X G z_len, PySem.W.mg_none_of X G z_list, PySem.W.mg_none_of X G z_max, PySem.W.mg_none_of X G z_range, PySem.W.mg_none_of X G z_repr, PySem.W.mg_none_of X G z_tuple⟩
  have Z : Clz K mg C_BadOrder C_Full C_NoRoads C_TooGreat C_WebError := ⟨PySem.W.mg_of X G y_BadOrder, PySem.W.mg_of X G y_Full, PySem.W.mg_of X G y_NoRoads, PySem.W.mg_of X G y_TooGreat, PySem.W.mg_of X G y_WebError, yx_Full, yk_Full, yb_Full, yt_Full, ⟨ye0_Full, ye1_Full, yb_Full, yh_Full, ye2_Full, ye3_Full, ye4_Full, ye5_Full⟩, kit_ref yh_Full yt_Full yk_Full_Full (fun _ => rfl), kit_VE ye6_Full, kitAny_cons (kit_ref yh_TooGreat yt_TooGreat yk_Full_TooGreat (fun z => by cases z; rw [yk_Full_Full] at yk_Full_TooGreat; cases yk_Full_TooGreat)) (fun _ => kitAny_cons (kit_ref yh_NoRoads yt_NoRoads yk_Full_NoRoads (fun z => by cases z; rw [yk_Full_Full] at yk_Full_NoRoads; cases yk_Full_NoRoads)) (fun _ => kitAny_cons (kit_ref yh_BadOrder yt_BadOrder yk_Full_BadOrder (fun z => by cases z; rw [yk_Full_Full] at yk_Full_BadOrder; cases yk_Full_BadOrder)) (fun _ => rfl) (fun z => nomatch z)) (fun z => nomatch z)) (fun z => nomatch z), (fun n hn => by simp only [List.mem_cons, List.not_mem_nil, or_false] at hn; rcases hn with rfl <;> first | exact PySem.W.exm_ref yb_WebError yh_WebError yt_WebError ys_Full_WebError)⟩
  have D0 : Dfn K mg "_law_deck" s__law_deck ["_law_script"] := dfn_mk X G a0 l0 c0 k0 fun _ _ _ _ _ _ us hl => match us, hl with | [_], _ => rfl
  have D1 : Dfn K mg "_law_mixed" s__law_mixed ["_law_cell", "_law_turn"] := dfn_mk X G a1 l1 c1 k1 fun _ _ _ _ _ _ us hl => match us, hl with | [_, _], _ => rfl
  have D2 : Dfn K mg "_law_next" s__law_next ["_law_deck_here", "_law_many"] := dfn_mk X G a2 l2 c2 k2 fun _ _ _ _ _ _ us hl => match us, hl with | [_, _], _ => rfl
  have D3 : Dfn K mg "_law_behind" s__law_behind ["_law_order_here", "_law_road", "_law_many"] := dfn_mk X G a3 l3 c3 k3 fun _ _ _ _ _ _ us hl => match us, hl with | [_, _, _], _ => rfl
  have D4 : Dfn K mg "_law_parted" s__law_parted ["_law_web_here", "_law_road", "_law_room_here"] := dfn_mk X G a4 l4 c4 k4 fun _ _ _ _ _ _ us hl => match us, hl with | [_, _, _], _ => rfl
  have D5 : Dfn K mg "_law_full" s__law_full ["_law_e"] := dfn_mk X G a5 l5 c5 k5 fun _ _ _ _ _ _ us hl => match us, hl with | [_], _ => rfl
  have D6 : Dfn K mg "check_many" s_check_many ["houses", "roads"] := dfn_mk X G a6 l6 c6 k6 fun _ _ _ _ _ _ us hl => match us, hl with | [_, _], _ => rfl
  have D7 : Dfn K mg "exchanged" s_exchanged ["things", "at", "thing"] := dfn_mk X G a7 l7 c7 k7 fun _ _ _ _ _ _ us hl => match us, hl with | [_, _, _], _ => rfl
  have D8 : Dfn K mg "order_with" s_order_with ["order", "road", "further"] := dfn_mk X G a8 l8 c8 k8 fun _ _ _ _ _ _ us hl => match us, hl with | [_, _, _], _ => rfl
  have D9 : Dfn K mg "orders_with" s_orders_with ["orders", "road", "further"] := dfn_mk X G a9 l9 c9 k9 fun _ _ _ _ _ _ us hl => match us, hl with | [_, _, _], _ => rfl
  have D10 : Dfn K mg "parted" s_parted ["web", "road", "room"] := dfn_mk X G a10 l10 c10 k10 fun _ _ _ _ _ _ us hl => match us, hl with | [_, _, _], _ => rfl
  have D11 : Dfn K mg "_law_told" s__law_told ["_law_web_here", "_law_road", "_law_room_here"] := dfn_mk X G a11 l11 c11 k11 fun _ _ _ _ _ _ us hl => match us, hl with | [_, _, _], _ => rfl
  have D12 : Dfn K mg "_law_right" s__law_right ["_law_web_here", "_law_road", "_law_room_here"] := dfn_mk X G a12 l12 c12 k12 fun _ _ _ _ _ _ us hl => match us, hl with | [_, _, _], _ => rfl
  have D13 : Dfn K mg "_law_room" s__law_room ["_law_deck_here", "_law_web_here", "_law_road"] := dfn_mk X G a13 l13 c13 k13 fun _ _ _ _ _ _ us hl => match us, hl with | [_, _, _], _ => rfl
  have D14 : Dfn K mg "_law_one" s__law_one ["_law_deck_here", "_law_things"] := dfn_mk X G a14 l14 c14 k14 fun _ _ _ _ _ _ us hl => match us, hl with | [_, _], _ => rfl
  have D15 : Dfn K mg "_law_order" s__law_order ["_law_deck_here", "_law_some"] := dfn_mk X G a15 l15 c15 k15 fun _ _ _ _ _ _ us hl => match us, hl with | [_, _], _ => rfl
  have D16 : Dfn K mg "_law_web" s__law_web ["_law_deck_here", "_law_most", "_law_many"] := dfn_mk X G a16 l16 c16 k16 fun _ _ _ _ _ _ us hl => match us, hl with | [_, _, _], _ => rfl
  have D17 : Dfn K mg "_law_wide" s__law_wide ["_law_deck_here"] := dfn_mk X G a17 l17 c17 k17 fun _ _ _ _ _ _ us hl => match us, hl with | [_], _ => rfl
  refine ⟨PySem.W.fnOf "law" "law" (defArgs s_law) (defBody s_law) (defScope s_law) .none kV18 dc18 pm18 an18 cd18 ct18, fun s v => .of_eq rfl, fun base _ _ => ?_⟩
  have C__law_deck := c__law_deck (P := l.prog) (w := w) (base := base) D0 B 
  have C__law_mixed := c__law_mixed (P := l.prog) (w := w) (base := base) D1 B 
  have C__law_next := c__law_next (P := l.prog) (w := w) (base := base) D2 B C__law_mixed
  have C__law_behind := c__law_behind (P := l.prog) (w := w) (base := base) D3 B 
  have C__law_parted := c__law_parted (P := l.prog) (w := w) (base := base) D4 B C__law_behind
  have C__law_full := c__law_full (P := l.prog) (w := w) (base := base) D5 B Z
  have C_check_many := c_check_many (P := l.prog) (w := w) (base := base) D6 B Z (PySem.W.mg_of X G v_HOUSES) (PySem.W.mg_of X G v_ROADS)
  have C_exchanged := c_exchanged (P := l.prog) (w := w) (base := base) D7 B 
  have C_order_with := c_order_with (P := l.prog) (w := w) (base := base) D8 B 
  have C_orders_with := c_orders_with (P := l.prog) (w := w) (base := base) D9 B C_order_with
  have C_parted := c_parted (P := l.prog) (w := w) (base := base) D10 B Z C_check_many C_exchanged C_orders_with
  have C__law_told := c__law_told (P := l.prog) (w := w) (base := base) D11 B Z C__law_full C_parted
  have C__law_right := c__law_right (P := l.prog) (w := w) (base := base) D12 B C__law_parted C__law_told
  have C__law_room := c__law_room (P := l.prog) (w := w) (base := base) D13 B C__law_next
  have C__law_one := c__law_one (P := l.prog) (w := w) (base := base) D14 B C__law_next
  have C__law_order := c__law_order (P := l.prog) (w := w) (base := base) D15 B C__law_next
  have C__law_web := c__law_web (P := l.prog) (w := w) (base := base) D16 B C__law_next C__law_one C__law_order
  have C__law_wide := c__law_wide (P := l.prog) (w := w) (base := base) D17 B C__law_next C__law_one C__law_order
  exact ok_law (fun_mk (st := s_law) l18 c18 k18) B C__law_deck C__law_next C__law_parted C__law_right C__law_room C__law_web C__law_wide
end Row
open PySem PySem.W PyProof.Rows
set_option maxHeartbeats 0 in
theorem PySem.Challenge.cw_unturned_k60_roads_parted_holds : PySem.Challenge.rw_unturned_k60_roads_parted.Holds := by
  w_on; o_law; k_head; (case hw => w_witness2)
  k_fill
  refine Uv.walk_v (l := PySem.Challenge.rw_unturned_k60_roads_parted) (n := 63) (k := 6) (x := "_law_script") (f := Fn.F_law_z179) rfl (by decide) rfl ⟨rfl, by decide, by decide⟩ (fun w h Y => PySem.W.kIn_of Y) ?F Fn.k60
  case F =>
    intro w mg fa h KX G hmg
    refine' Row.all_mk KX G hmg ?a0 ?l0 ?c0 ?k0 ?a1 ?l1 ?c1 ?k1 ?a2 ?l2 ?c2 ?k2 ?a3 ?l3 ?c3 ?k3 ?a4 ?l4 ?c4 ?k4 ?a5 ?l5 ?c5 ?k5 ?a6 ?l6 ?c6 ?k6 ?a7 ?l7 ?c7 ?k7 ?a8 ?l8 ?c8 ?k8 ?a9 ?l9 ?c9 ?k9 ?a10 ?l10 ?c10 ?k10 ?a11 ?l11 ?c11 ?k11 ?a12 ?l12 ?c12 ?k12 ?a13 ?l13 ?c13 ?k13 ?a14 ?l14 ?c14 ?k14 ?a15 ?l15 ?c15 ?k15 ?a16 ?l16 ?c16 ?k16 ?a17 ?l17 ?c17 ?k17 ?a18 ?l18 ?c18 ?k18 ?v_HOUSES ?v_ROADS ?z_ValueError ?z_abs ?z_int ?z_isinstance ?z_len ?z_list ?z_max ?z_range ?z_repr ?z_tuple ?y_BadOrder ?yb_BadOrder ?yt_BadOrder ?yh_BadOrder ?y_Full ?yb_Full ?yt_Full ?yh_Full ?yk_Full ?yx_Full ?y_NoRoads ?yb_NoRoads ?yt_NoRoads ?yh_NoRoads ?y_TooGreat ?yb_TooGreat ?yt_TooGreat ?yh_TooGreat ?y_WebError ?yb_WebError ?yt_WebError ?yh_WebError ?ye0_Full ?ye1_Full ?ye2_Full ?ye3_Full ?ye4_Full ?ye5_Full ?ye6_Full ?yk_Full_Full ?yk_Full_TooGreat ?yk_Full_NoRoads ?yk_Full_BadOrder ?ys_Full_WebError
    (case a0 => k_is); (case l0 => k_is); (case c0 => k_is); (case k0 => k_is); (case a1 => k_is); (case l1 => k_is); (case c1 => k_is); (case k1 => k_is); (case a2 => k_is); (case l2 => k_is); (case c2 => k_is); (case k2 => k_is); (case a3 => k_is); (case l3 => k_is); (case c3 => k_is); (case k3 => k_is); (case a4 => k_is); (case l4 => k_is); (case c4 => k_is); (case k4 => k_is); (case a5 => k_is); (case l5 => k_is); (case c5 => k_is); (case k5 => k_is); (case a6 => k_is); (case l6 => k_is); (case c6 => k_is); (case k6 => k_is); (case a7 => k_is); (case l7 => k_is); (case c7 => k_is); (case k7 => k_is); (case a8 => k_is); (case l8 => k_is); (case c8 => k_is); (case k8 => k_is); (case a9 => k_is); (case l9 => k_is); (case c9 => k_is); (case k9 => k_is); (case a10 => k_is); (case l10 => k_is); (case c10 => k_is); (case k10 => k_is); (case a11 => k_is); (case l11 => k_is); (case c11 => k_is); (case k11 => k_is); (case a12 => k_is); (case l12 => k_is); (case c12 => k_is); (case k12 => k_is); (case a13 => k_is); (case l13 => k_is); (case c13 => k_is); (case k13 => k_is); (case a14 => k_is); (case l14 => k_is); (case c14 => k_is); (case k14 => k_is); (case a15 => k_is); (case l15 => k_is); (case c15 => k_is); (case k15 => k_is); (case a16 => k_is); (case l16 => k_is); (case c16 => k_is); (case k16 => k_is); (case a17 => k_is); (case l17 => k_is); (case c17 => k_is); (case k17 => k_is); (case a18 => k_is); (case l18 => k_is); (case c18 => k_is); (case k18 => k_is); (case v_HOUSES => k_is); (case v_ROADS => k_is); (case z_ValueError => k_is); (case z_abs => k_is); (case z_int => k_is); (case z_isinstance => k_is); (case z_len => k_is); (case z_list => k_is); (case z_max => k_is); (case z_range => k_is); (case z_repr => k_is); (case z_tuple => k_is); (case y_BadOrder => k_is); (case yb_BadOrder => k_is); (case yt_BadOrder => k_is); (case yh_BadOrder => k_is); (case y_Full => k_is); (case yb_Full => k_is); (case yt_Full => k_is); (case yh_Full => k_is); (case yk_Full => k_is); (case yx_Full => k_exc); (case y_NoRoads => k_is); (case yb_NoRoads => k_is); (case yt_NoRoads => k_is); (case yh_NoRoads => k_is); (case y_TooGreat => k_is); (case yb_TooGreat => k_is); (case yt_TooGreat => k_is); (case yh_TooGreat => k_is); (case y_WebError => k_is); (case yb_WebError => k_is); (case yt_WebError => k_is); (case yh_WebError => k_is); (case ye0_Full => k_is); (case ye1_Full => k_is); (case ye2_Full => k_is); (case ye3_Full => k_is); (case ye4_Full => k_is); (case ye5_Full => k_is); (case ye6_Full => k_is); (case yk_Full_Full => k_is); (case yk_Full_TooGreat => k_is); (case yk_Full_NoRoads => k_is); (case yk_Full_BadOrder => k_is); (case ys_Full_WebError => k_is)
