import PyProof.Rows.All
import Wide.All
import OpenK.AllK
import Wide.FinOn
import HandS.Iter
import KE.GoesEnum
import PyProof.ReprRoads
import HandS.Dict
import PyProof.EqKinds
import PyProof.FactsAll.dict_1
import HandS.ForMost
import HandS.Evl
import HandS.Walk
import HandS.IsInst
import HandS.Wide
import HandS.NoneIn
import HandS.EndBits
import HandS.Codes
import HandS.TupAny
import HandS.TupMul
import HandS.Deep
import PyProof.TupleOfSeq
import PyProof.SeqIndex
import KE.DatumIndex
import HandS.Exc
import PyProof.CallFns
import HandS.SortInts
import HandS.Zip
import HandS.Star
import HandS.Conv
import KE.KRevSl
import HandS.Flt
import KE.DataCmp
import HandS.Zip0
import HandS.Strs
import HandS.SetFor
import HandS.DictComp
import HandS.Call
import HandS.RaiseMore
import KE.KDictPairs
import PyProof.Rows.IntBool
import KE.DatumOrd
import HandS.TryOnly
import HandS.ExcOwn
import HandS.Small
import HandS.ExcIs
import HandS.HotCalls
import HandS.Defaults
import KE.KMinKey
import PyProof.Rows.SetFrom
import HandS.TupSets
import HandS.SetBool
import KE.SortData
import HandS.Text
import HandS.StrMore
import HandS.FStr
import HandS.Flow
import HandS.ExcInit
import HandS.ExcField
import KE.KExcIs
import HandS.ReplaceLit
import HandS.Steps
import HandS.Style
import PyProof.SliceStr2
import KE.KDictLaw
import HandS.SetKeys
import HandS.More
import KE.KExcInit
import PyProof.ExcBaseAll.LookupError
import PyProof.CollectIter
import PyProof.WalksMore
import KE.KCallOwn
import KE.KTryMore
import HandS.ExcValue
import HandS.ExcCtx
import HandS.SuiteRaise
import HandS.RaiseFrom
import HandS.ExcInitHot
import KE.KAsSuite
import HandS.Comp
import PyProof.StrLawsRepr
import PySem.Challenge.RW_unturned_k61_webs_without_and_liked_othe
set_option Elab.async false
set_option linter.all false
set_option maxRecDepth 100000
set_option maxHeartbeats 8000000
namespace Uv
open PySem PySem.Spec PyProof.Rows L2
end Uv
namespace Hed
open PySem PySem.Spec PyProof.Rows L2 Uv
def topS (i : Nat) : Stmt := PySem.Challenge.pw_unturned_k61_webs_without_and_liked_othe.main.body.getD i (.Pass ⟨0, 0, 0, 0⟩)
abbrev s__law_deck : Stmt := topS 17
abbrev s__law_mixed : Stmt := topS 18
abbrev s__law_next : Stmt := topS 19
abbrev s__law_odd : Stmt := topS 23
abbrev s__law_bent : Stmt := topS 24
abbrev s__law_ordered : Stmt := topS 28
abbrev s__law_whole : Stmt := topS 26
abbrev s__law_liking : Stmt := topS 30
abbrev s__law_one : Stmt := topS 20
abbrev s__law_order : Stmt := topS 21
abbrev s__law_alone : Stmt := topS 31
abbrev s_order_place : Stmt := topS 15
abbrev s_exchanged : Stmt := topS 9
abbrev s_is_number : Stmt := topS 7
abbrev s_is_order : Stmt := topS 8
abbrev s_with_like : Stmt := topS 14
abbrev s_liked_less : Stmt := topS 13
abbrev s_orders_without : Stmt := topS 12
abbrev s_without : Stmt := topS 11
abbrev s__law_told : Stmt := topS 32
abbrev s__law_right : Stmt := topS 33
abbrev s__law_house_right : Stmt := topS 35
abbrev s__law_least : Stmt := topS 29
abbrev s__law_without : Stmt := topS 27
abbrev s__law_road_right : Stmt := topS 34
abbrev s__law_web : Stmt := topS 22
abbrev s__law_wide : Stmt := topS 25
abbrev s_law : Stmt := topS 36
end Hed
namespace Un
open PySem PySem.Spec PyProof.Rows L2
section
variable {prog : Program} {w : World} {A : Around} {E : Value → Shared → Prop} {s : Shared}
end
end Un

namespace Uv
open PySem PySem.Spec PyProof.Rows L2
mutual
inductive Rm (h : Heap) : Value → PyData → Prop
  | non : Rm h .none .none
  | bl (b : Bool) : Rm h (.bool b) (.bool b)
  | int (i t) : Rm h (.int i t) (.int i)
  | str (x t) : Rm h (.str x t) (.str x)
  | lst {a o vs n xs} : h.get? a = some o → o.cls = .type "list" → o.data = .seq vs n → Rms h vs.toList xs → Rm h (.ref a) (.list xs)
  | tup {a o vs n xs} : h.get? a = some o → o.cls = .type "tuple" → o.data = .seq vs n → Rms h vs.toList xs → Rm h (.ref a) (.tuple xs)
  | dct {a o es n kvs} : h.get? a = some o → o.cls = .type "dict" → o.data = .dict es n → (a == sysModules) = false → Rms h (es.toList.map (·.key)) (kvs.map (·.1)) → Rms h (es.toList.map (·.val)) (kvs.map (·.2)) → Rm h (.ref a) (.dict kvs)
inductive Rms (h : Heap) : List Value → List PyData → Prop
  | nil : Rms h [] []
  | cons {v vs d ds} : Rm h v d → Rms h vs ds → Rms h (v :: vs) (d :: ds)
end
section
variable {P : Program} {w : World} {g : Heap}
mutual
theorem Rm.rd : ∀ {v : Value} {d : PyData}, Rm g v d → ∃ as, Reads g v d as
  | _, _, .non => ⟨_, .none⟩
  | _, _, .bl b => ⟨_, .bool b⟩
  | _, _, .int i t => ⟨_, .int i t⟩
  | _, _, .str x t => ⟨_, .str x t⟩
  | _, _, .lst a b c r => let ⟨_, q⟩ := Rms.rd r; ⟨_, .list a b c q⟩
  | _, _, .tup a b c r => let ⟨_, q⟩ := Rms.rd r; ⟨_, .tuple a b c q⟩
  | _, _, .dct a b c _ r s => let ⟨_, q⟩ := Rms.rd r; let ⟨_, t⟩ := Rms.rd s; ⟨_, .dict a b c q t⟩
theorem Rms.rd : ∀ {vs : List Value} {ds : List PyData}, Rms g vs ds → ∃ as, ReadsAll g vs ds as
  | _, _, .nil => ⟨_, .nil⟩
  | _, _, .cons r s => let ⟨_, q⟩ := Rm.rd r; let ⟨_, t⟩ := Rms.rd s; ⟨_, .cons q t⟩
end
mutual
theorem Rm.rk : ∀ {v : Value} {d : PyData}, Rm g v d → d.showable = true → d.shown.length ≤ sizeLine → ∃ l, ReadAtMost g d.depth l ∧ ReprK P w l g d.depth v d.shown
  | _, _, .non, _, _ => ⟨[], nofun, by rw [PyData.shown]; exact .of_is ReprIs.none _ _ _⟩
  | _, _, .bl b, _, _ => ⟨[], nofun, by rw [PyData.shown]; exact .of_is (ReprIs.bool b) _ _ _⟩
  | _, _, .int i t, e, _ => ⟨[], nofun, by rw [PyData.shown]; exact .of_is (ReprIs.int t (by simpa [PyData.showable] using e)) _ _ _⟩
  | _, _, .str x t, _, z => ⟨[], nofun, by rw [PyData.shown] at z ⊢; exact .of_is (ReprIs.str x t z) _ _ _⟩
  | _, _, .lst (a := p) (vs := vs) (xs := ds) o1 o2 o3 q, e, z => by
    rw [PyData.shown] at z
    obtain ⟨_, full⟩ := Rm.rd (.lst o1 o2 o3 q)
    obtain ⟨l, l1, l2⟩ := Rms.rk q (by simpa [PyData.showable] using e) fun t m => Nat.le_trans (listText_mem_le m) z
    have off : p ∉ l := not_mem_of_deeper full (by rw [PyData.depth]; omega) l1
    refine ⟨p :: l, l1.cons full (by rw [PyData.depth]; omega), ?_⟩
    rw [PyData.depth, PyData.shown]
    obtain ⟨v⟩ := vs
    cases v with
    | cons x v => exact ReprK.list o1 o2 o3 off (by simpa using l2.length_eq) fun i y m => l2.item i y (by simpa using m)
    | nil =>
      have q' : Rms g [] ds := q
      cases q'
      rw [PyData.shownAll, listText_nil]
      exact ReprK.listEmpty o1 o2 o3
  | _, _, .tup (a := p) (xs := ds) o1 o2 o3 q, e, z => by
    rw [PyData.shown] at z
    obtain ⟨_, full⟩ := Rm.rd (.tup o1 o2 o3 q)
    obtain ⟨l, l1, l2⟩ := Rms.rk q (by simpa [PyData.showable] using e) fun t m => Nat.le_trans (tupleText_mem_le m) z
    have off : p ∉ l := not_mem_of_deeper full (by rw [PyData.depth]; omega) l1
    refine ⟨p :: l, l1.cons full (by rw [PyData.depth]; omega), ?_⟩
    rw [PyData.depth, PyData.shown]
    exact ReprK.tuple o1 o2 o3 off l2
  | _, _, .dct (a := p) (es := es) (kvs := ps) o1 o2 o3 o4 q1 q2, e, z => by
    rw [PyData.shown] at z
    obtain ⟨_, full⟩ := Rm.rd (.dct o1 o2 o3 o4 q1 q2)
    obtain ⟨e1, e2⟩ := PyData.showableKv_split ps (by simpa [PyData.showable] using e)
    obtain ⟨l, l1, l2⟩ := Rms.rk q1 e1 fun t m => let ⟨_, u1, u2⟩ := PyData.shownKv_key_le ps t m; Nat.le_trans u2 (Nat.le_trans (dictText_mem_le u1) z)
    obtain ⟨k, k1, k2⟩ := Rms.rk q2 e2 fun t m => let ⟨_, u1, u2⟩ := PyData.shownKv_val_le ps t m; Nat.le_trans u2 (Nat.le_trans (dictText_mem_le u1) z)
    have lk : ReadAtMost g (PyData.depthKv ps) (l ++ k) := (l1.mono (PyData.depthAll_keys_le ps)).append (k1.mono (PyData.depthAll_vals_le ps))
    have off : p ∉ l ++ k := not_mem_of_deeper full (by rw [PyData.depth]; omega) lk
    refine ⟨p :: (l ++ k), lk.cons full (by rw [PyData.depth]; omega), ?_⟩
    rw [PyData.depth, PyData.shown, PyData.shownKv_eq]
    exact ReprK.dict o1 o2 o3 o4 off (ReprEntriesK.of_two es.toList _ _ (l2.more_le (fun _ => List.mem_append_left _) (PyData.depthAll_keys_le ps)) (k2.more_le (fun _ => List.mem_append_right _) (PyData.depthAll_vals_le ps)))
theorem Rms.rk : ∀ {vs : List Value} {ds : List PyData}, Rms g vs ds → PyData.showableAll ds = true → (∀ t ∈ PyData.shownAll ds, t.length ≤ sizeLine) → ∃ l, ReadAtMost g (PyData.depthAll ds) l ∧ ReprAllK P w l g (PyData.depthAll ds) vs (PyData.shownAll ds)
  | _, _, .nil, _, _ => ⟨[], nofun, by rw [PyData.shownAll]; exact .nil⟩
  | _, _, .cons (d := d) (ds := ds) q r, e, z => by
    obtain ⟨e1, e2⟩ : d.showable = true ∧ PyData.showableAll ds = true := by simpa [PyData.showableAll] using e
    rw [PyData.shownAll] at z
    obtain ⟨l, l1, l2⟩ := Rm.rk q e1 (z _ (List.mem_cons_self ..))
    obtain ⟨k, k1, k2⟩ := Rms.rk r e2 fun t m => z t (List.mem_cons_of_mem _ m)
    rw [PyData.depthAll, PyData.shownAll]
    exact ⟨l ++ k, (l1.mono (Nat.le_max_left _ _)).append (k1.mono (Nat.le_max_right _ _)), .cons ((l2.more fun _ => List.mem_append_left _).level_le (Nat.le_max_left _ _)) (k2.more_le (fun _ => List.mem_append_right _) (Nat.le_max_right _ _))⟩
end
theorem Rm.shows {a : Addr} {d : PyData} (r : Rm g (.ref a) d) (e : d.showable = true) (z : d.shown.length ≤ sizeLine) : ∃ T i, ShowsBy P w g a d T i := by
  obtain ⟨_, full⟩ := r.rd
  cases r with
  | lst o1 o2 o3 q =>
    rename_i o vs n ds
    rw [PyData.shown] at z
    obtain ⟨l, l1, l2⟩ := Rms.rk (P := P) (w := w) q (by simpa [PyData.showable] using e) fun t m => Nat.le_trans (listText_mem_le m) z
    have off : a ∉ l := not_mem_of_deeper full (by rw [PyData.depth]; omega) l1
    refine ⟨"list", "list.__repr__", F.slot_list_repr.toG, F.slot_list_str, F.slot_list_format, fun s k => ⟨o, k _ _ o1, o2⟩, fun A E s Q ag au k hq => ?_⟩
    rw [PyData.depth] at au
    rw [PyData.shown] at hq
    obtain ⟨v⟩ := vs
    cases v with
    | cons x v => exact call_list_reprK o1 o2 o3 off (by simpa using l2.length_eq) (fun i y m => l2.item i y (by simpa using m)) ag (fun b _ => Clear.nil b) au k hq z
    | nil =>
      have q' : Rms g [] ds := q
      cases q'
      rw [PyData.shownAll, listText_nil] at hq
      exact call_list_repr_empty ⟨o, k _ _ o1, o2⟩ (k _ _ o1) o3 (hq s.heap _ _ fun _ _ y => y)
  | tup o1 o2 o3 q =>
    rename_i o vs n ds
    rw [PyData.shown] at z
    obtain ⟨l, l1, l2⟩ := Rms.rk (P := P) (w := w) q (by simpa [PyData.showable] using e) fun t m => Nat.le_trans (tupleText_mem_le m) z
    have off : a ∉ l := not_mem_of_deeper full (by rw [PyData.depth]; omega) l1
    refine ⟨"tuple", "tuple.__repr__", F.slot_tuple_repr, F.slot_tuple_str, F.slot_tuple_format, fun s k => ⟨o, k _ _ o1, o2⟩, fun A E s Q ag au k hq => ?_⟩
    rw [PyData.depth] at au
    rw [PyData.shown] at hq
    exact call_tuple_reprK o1 o2 o3 off l2 ag (fun b _ => Clear.nil b) au k hq z
  | dct o1 o2 o3 o4 q1 q2 =>
    rename_i o es n ps
    rw [PyData.shown] at z
    obtain ⟨e1, e2⟩ := PyData.showableKv_split ps (by simpa [PyData.showable] using e)
    obtain ⟨l, l1, l2⟩ := Rms.rk (P := P) (w := w) q1 e1 fun t m => let ⟨_, u1, u2⟩ := PyData.shownKv_key_le ps t m; Nat.le_trans u2 (Nat.le_trans (dictText_mem_le u1) z)
    obtain ⟨k, k1, k2⟩ := Rms.rk (P := P) (w := w) q2 e2 fun t m => let ⟨_, u1, u2⟩ := PyData.shownKv_val_le ps t m; Nat.le_trans u2 (Nat.le_trans (dictText_mem_le u1) z)
    have lk : ReadAtMost g (PyData.depthKv ps) (l ++ k) := (l1.mono (PyData.depthAll_keys_le ps)).append (k1.mono (PyData.depthAll_vals_le ps))
    have off : a ∉ l ++ k := not_mem_of_deeper full (by rw [PyData.depth]; omega) lk
    refine ⟨"dict", "dict.__repr__", F.slot_dict_repr, F.slot_dict_str, F.slot_dict_format, fun s k => ⟨o, k _ _ o1, o2⟩, fun A E s Q ag au kk hq => ?_⟩
    rw [PyData.depth] at au
    rw [PyData.shown, PyData.shownKv_eq] at hq
    exact call_dict_reprK o1 o2 o3 o4 off (ReprEntriesK.of_two es.toList _ _ (l2.more_le (fun _ => List.mem_append_left _) (PyData.depthAll_keys_le ps)) (k2.more_le (fun _ => List.mem_append_right _) (PyData.depthAll_vals_le ps))) ag (fun b _ => Clear.nil b) au kk hq (by rw [← PyData.shownKv_eq]; exact z)
theorem Rm.repr {A : Around} {E : Value → Shared → Prop} {s : Shared} {Q : Value → Shared → Prop} {a : Addr} {d : PyData} (r : Rm s.heap (.ref a) d) (e : d.showable = true) (ag : A.guards = some []) (au : A.units + (d.depth + 1) < cLine) (hq : ∀ h' u tk, (∀ b o, s.heap.get? b = some o → h'.get? b = some o) → Q (.str d.shown u) { s with heap := h', toks := tk }) (z : d.shown.length ≤ sizeLine) : wpAny (model P w) A (call (.builtin "repr") [.ref a]) Q E s := by
  obtain ⟨T, i, S⟩ := r.shows (P := P) (w := w) e z
  have k0 : ∀ (b : Addr) (o : Obj), s.heap.get? b = some o → s.heap.get? b = some o := fun _ _ y => y
  exact call_repr_slot (by omega) (S.typeIs s k0) S.slotRepr (S.call A.in1 E s _ ag (by show A.units + 1 + d.depth < cLine; omega) k0 fun h' u tk k => ⟨_, _, rfl, hq h' u tk k⟩)
end
end Uv

namespace Uv
open PySem PySem.Spec PyProof.Rows L2
theorem dct_no (a : Addr) (es : Array DictEntry) (n : Nat) (p : Option Addr) (c : Array (Option Value)) (x : Str) (t : Tok) : Meets (Builtin.«dict.__eq__» ⟨[.ref a, .str x t], []⟩) (fun _ R s => s.heap.get? a = some { cls := .type "dict", dict := p, data := .dict es n, slots := c } ∧ R (.ok (.ret .notImplemented)) s) :=
  .of_wp fun pr w A R s h => by
    obtain ⟨hp, g, d, tk, os⟩ := s
    obtain ⟨ho, h⟩ := h
    have no := F.sub_str_dict
    wp_walk using wpAny_loadPart' ho
    exact ⟨_, rfl, h⟩
theorem str_no (a : Addr) (k : Value) (es : Array DictEntry) (n : Nat) (p : Option Addr) (c : Array (Option Value)) (x : Str) (t : Tok) : Meets (Builtin.«str.__eq__» ⟨[.str x t, .ref a], []⟩) (fun _ R s => s.heap.get? a = some { cls := k, dict := p, data := .dict es n, slots := c } ∧ R (.ok (.ret .notImplemented)) s) :=
  .of_wp fun pr w A R s h => by
    obtain ⟨hp, g, d, tk, os⟩ := s
    obtain ⟨ho, h⟩ := h
    wp_walk using wpAny_loadPart' ho, wpAny_load ho
    exact ⟨_, rfl, h⟩
theorem dct_str {A : Around} {s : Shared} {a : Addr} {es : Array DictEntry} {n : Nat} {p : Option Addr} {c : Array (Option Value)} (x : Str) (t : Tok) (ho : s.heap.get? a = some { cls := .type "dict", dict := p, data := .dict es n, slots := c }) (hu : A.units < cLine) : SeqAt.RcAt A s (.ref a) (.str x t) false := fun pr w E Q h =>
  SeqAt.rc_eq_decline_or (k := false) ⟨_, ho, rfl⟩ (typeIs_str s x t) (by decide) F.sub_str_dict F.slot_dict_eq F.slot_str_eq_refl
    (fun _ q => call_meets F.slot_dict_eq ⟨_, ho, rfl⟩ F.entry_dict_eq (F.args_dict_eq_2 _ _) (dct_no a es n p c x t) ⟨ho, q⟩)
    (fun _ q => call_meets F.slot_str_eq_refl (typeIs_str s x t) F.entry_str_eq (F.args_str_eq_2 _ _) (str_no a (.type "dict") es n p c x t) ⟨ho, q⟩)
    (fun _ q => wpAny_of_eq (rfl : isSame (.ref a) (.str x t) = pure false) q) (.inr hu) h
end Uv

namespace Uv
open PySem PySem.Spec PyProof.Rows L2
open Evl (Ex)
def Plain (o : Obj) : Prop := o.cls = .type "tuple" ∧ o.dict = none
abbrev fz (o : Obj) (xs : List V) : HO := .frz o (.tup xs)
def tTupF (t : TA) : TE := fun σ H Q => t σ H fun xs H1 => xs.length ≤ sizeLine ∧ ∀ p o, H1 p = none → Plain o → Q (.ref p) (upd H1 p (fz o xs))
theorem pe_tupF {X : Cx} {es : List Expr} {t : TA} {pos : Pos} {x1} (h : PA X es t) : PE X (.Tuple es x1 pos) (tTupF t) := by
  refine ⟨fun pins s σ H Q I hq => ?_⟩
  refine wpAny_Tuple_spliced (thn (h.run pos pins s σ H _ I hq) fun us s1 ⟨xs, H1, I1, r, z, q⟩ => ⟨by rw [← r.length]; exact z, ?_⟩)
  have I2 : Inv X pins σ (upd H1 s1.heap.objs.size (fz { cls := .type "tuple", data := .seq us.toArray } xs)) { s1 with heap := s1.heap.push { cls := .type "tuple", data := .seq us.toArray }, toks := s1.toks } :=
    I1.laid (t' := s1.toks) (fun b u e => Heap.get?_push_of_some _ e) (Nat.le_refl _) (show ObjOk X.prog X.w _ _ _ (.frz _ (.tup xs)) from ⟨Heap.get?_push_size _ rfl, z, us, r, IsTup.new _ _⟩)
  exact ⟨.ref s1.heap.objs.size, _, I2, rfl, q _ _ (I1.hok.fresh (Nat.le_refl _)) ⟨rfl, rfl⟩⟩
def rTupF (K : PySem.W.Frag) : List V → Hp → VK → Prop := fun xs H Q => ∃ p ys, xs = [.ref p] ∧ ((SqL K H p ys ∧ ∀ l o, H l = none → Plain o → Q (.ref l) (upd H l (fz o ys))) ∨ (SqT K H p ys ∧ Q (.ref p) H))
theorem cr_tupF {X : Cx} : CallR X (.type "tuple") (rTupF X.K) := by
  intro pins s σ H xs us Q I r h
  obtain ⟨p, ys, rfl, h⟩ := h
  rcases h with ⟨hq, q⟩ | ⟨ht, q⟩
  · obtain ⟨u, rfl, rx⟩ := vals1 r
    cases rx
    obtain ⟨its, r', pl, hz⟩ := I.list hq
    have hlen := r'.length
    refine call_tuple_list pl.isList (fun h' kp => ?_) (by simp only [List.size_toArray] <;> omega)
    have I1 : Inv X pins σ H { s with heap := h' } := I.kept (t' := s.toks) kp
    have I2 : Inv X pins σ (upd H h'.objs.size (fz { cls := .type "tuple", data := .seq its.toArray } ys)) { s with heap := h'.push { cls := .type "tuple", data := .seq its.toArray } } :=
      I1.laid (t' := s.toks) (fun b o e => Heap.get?_push_of_some _ e) (Nat.le_refl _) (show ObjOk X.prog X.w _ _ _ (.frz _ (.tup ys)) from ⟨Heap.get?_push_size _ rfl, hz, its, r', IsTup.new _ _⟩)
    exact ⟨.ref h'.objs.size, _, I2, rfl, q _ _ (I1.hok.fresh (Nat.le_refl _)) ⟨rfl, rfl⟩⟩
  · exact call_tupleT pins s σ H _ us Q I r ⟨p, ys, rfl, ht, q⟩
def rCatF (K : PySem.W.Frag) : R2 := fun x y H Q => ∃ a b xs ys, x = .ref a ∧ y = .ref b ∧ SqT K H a xs ∧ SqT K H b ys ∧ xs.length + ys.length ≤ sizeLine ∧
  (xs = [] → Q (.ref b) H) ∧ (xs ≠ [] → ys = [] → Q (.ref a) H) ∧ (xs ≠ [] → ys ≠ [] → ∀ p o, H p = none → Plain o → Q (.ref p) (upd H p (fz o (xs ++ ys))))
theorem op_catF {X : Cx} : OpR X (binaryOp .Add) (rCatF X.K) := by
  intro pins s σ H x y v u Q I rx ry h
  obtain ⟨a, b, xs, ys, rfl, rfl, ha, hb, hz, q0, q1, q2⟩ := h
  cases rx
  cases ry
  obtain ⟨its, r1, p1, _⟩ := I.tuple ha
  obtain ⟨its2, r2, p2, _⟩ := I.tuple hb
  by_cases hx : xs = []
  · subst hx
    cases r1
    exact cat_tup0 p1 p2 ⟨.ref b, H, I, rfl, q0 rfl⟩
  · refine HT.cat_tup p1 p2 (fun z => hx (r1.nil_iff.mp z)) (fun z => ⟨.ref a, H, I, rfl, q1 hx (r2.nil_iff.mp z)⟩) (fun z => ?_) (by rw [← r1.length, ← r2.length]; exact hz)
    have hy : ys ≠ [] := fun w => z (r2.nil_iff.mpr w)
    have ok := I.laid (t' := s.toks) (o := fz _ (xs ++ ys)) (fun b ob q => Heap.get?_push_of_some _ q) (Nat.le_refl _) (show ObjOk X.prog X.w _ _ _ (.frz _ (.tup (xs ++ ys))) from ⟨Heap.get?_push_size _ rfl, by rw [List.length_append]; exact hz, _, r1.append r2, IsTup.new _ _⟩)
    exact ⟨.ref s.heap.objs.size, _, ok, rfl, q2 hx hy _ _ (I.hok.fresh (Nat.le_refl _)) ⟨rfl, rfl⟩⟩
def rSlF (K : PySem.W.Frag) : V → Option Int → Option Int → Hp → VK → Prop := fun x lo hi H Q => ∃ a xs, x = .ref a ∧ SqT K H a xs ∧
  (HT.sIx xs.length 0 lo = 0 ∧ HT.sIx xs.length xs.length hi = xs.length → Q (.ref a) H) ∧ (¬ (HT.sIx xs.length 0 lo = 0 ∧ HT.sIx xs.length xs.length hi = xs.length) → ∀ p o, H p = none → Plain o → Q (.ref p) (upd H p (fz o (cutV xs lo hi))))
theorem sl_tupF {X : Cx} : SlR X (rSlF X.K) := by
  intro pins s σ H x v vl vu lo hi sl Q I rx hs pl pu h
  obtain ⟨a, xs, rfl, hx, q1, q2⟩ := h
  cases rx
  obtain ⟨its, r, ht, hz⟩ := I.tuple hx
  have hlen : its.toArray.size = xs.length := by rw [List.size_toArray]; exact r.length.symm
  refine ⟨"tuple", _, PyProof.Rows.slot_tuple_getitem.lookup, ht.typeIs, ?_⟩
  by_cases hw : HT.sIx xs.length 0 lo = 0 ∧ HT.sIx xs.length xs.length hi = xs.length
  · exact getItem_tuple_whole ht hs pl pu (by rw [hlen]; exact hw) ⟨.ref a, H, I, rfl, q1 hw⟩
  · refine HT.getItem_tuple_cut ht hs pl pu (by rw [hlen]; exact hw) ?_ (by rw [hlen]; exact hz)
    rw [hlen]
    have ok := I.laid (t' := s.toks) (o := fz _ (cutV xs lo hi)) (fun b ob q => Heap.get?_push_of_some _ q) (Nat.le_refl _) (show ObjOk X.prog X.w _ _ _ (.frz _ (.tup (cutV xs lo hi))) from ⟨Heap.get?_push_size _ rfl, Nat.le_trans (cutV_length xs lo hi) hz, _, (r.drop (HT.sIx xs.length 0 lo)).take (HT.sIx xs.length xs.length hi - HT.sIx xs.length 0 lo), IsTup.new _ _⟩)
    exact ⟨.ref s.heap.objs.size, _, ok, rfl, q2 hw _ _ (I.hok.fresh (Nat.le_refl _)) ⟨rfl, rfl⟩⟩
def rIndexF (K : PySem.W.Frag) : V → List V → Hp → VK → Prop := fun x xs H Q => ∃ (a : Addr) (ns : List Int) (m : Int), x = .ref a ∧ xs = [.int m] ∧ SqT K H a (ns.map V.int) ∧ m ∈ ns ∧ Q (.int (ns.idxOf m : Nat)) H
theorem mt_indexF {X : Cx} (hu : X.A.units + 65 < cLine) : MtR X "tuple.index" (rIndexF X.K) := by
  intro pins s σ H x xs v us Q I rx rxs h
  obtain ⟨a, ns, m, rfl, rfl, hs, hm, q⟩ := h
  cases rx
  obtain ⟨u, rfl, t, rfl⟩ := vals1 rxs
  obtain ⟨its, rv, p, _⟩ := I.tuple hs
  refine PySem.W.index_tuple_datum (xs := ns) (x := m) p ⟨[], rv.ints.reads s.heap⟩ ⟨[], .int m t⟩ (by show X.A.units + 1 + 0 < cLine; omega) hm ?_
  exact ⟨.int _, H, I.tok _, ⟨_, rfl⟩, q⟩
def tBMF (r : V → List V → Hp → VK → Prop) (to : TE) (t : TA) : TE := fun σ H Q => to σ H fun x H1 => (∃ p o u, x = .ref p ∧ H1 p = some (.frz o u) ∧ Plain o) ∧ t σ H1 fun xs H2 => r x xs H2 Q
theorem pe_bmF {X : Cx} {o e : Expr} {es : List Expr} {to : TE} {t : TA} {name : Str} {apos cpos : Pos} {id : String} {r : V → List V → Hp → VK → Prop} (slot : Slot "tuple" name id) (hty : typeOf (.builtin id) = pure (.type "method_descriptor")) (hm : MtR X id r) (ho : PE X o to) (ha : PA X (e :: es) t)
    (hbase : attributeBase o name X.env (eval o X.env) = eval o X.env := by rfl)
    (hfew : ((backTo cpos (starEach (e :: es) X.env)).all (fun x => !x.1) && (backToKw cpos (keywordEach [] X.env)).all (fun x => x.1.isSome)
      && decide ((e :: es).length + ([] : List Keyword).length + (if ([] : List Keyword).isEmpty then 0 else 1) < 30)) = true := by rfl)
    (hline : (apos.endLine == cpos.line) = true := by rfl) (hs : starEach (e :: es) X.env = (false, eval e X.env) :: starEach es X.env := by rfl) (hplain : (backTo cpos (starEach es X.env)).any (·.1) = false := by rfl) :
    PE X (.Call (.Attribute o name apos) (e :: es) [] cpos) (tBMF r to t) := by
  refine ⟨fun pins s σ H Q I h => wpAny_Call_method_late hbase hfew hline rfl (thn (ho.run pins s σ H _ I h) fun v s1 ⟨x, H1, I1, r1, ty, q1⟩ => ?_)⟩
  obtain ⟨p, ob, u, rfl, hp, hc, hd⟩ := ty
  cases r1
  have hg := (I1.hok p _ hp).1
  refine ⟨"tuple", id, PySem.F.plainAttrs_tuple, slot, hty, ⟨ob, hg, hc⟩, fun a e => by cases e; exact ⟨ob, hg, hd⟩, ?_⟩
  have hA := ha.run cpos pins s1 σ H1 _ I1 q1
  rw [hs] at hA ⊢
  refine Calls.callWith_builtin (by show (false || (backTo cpos (starEach es X.env)).any (·.1)) = false; rw [hplain] <;> rfl) (Calls.evalArgs_plain ?_)
  exact thn hA fun us s2 ⟨vs, H2, I2, r2, q2⟩ => hm pins s2 σ H2 (.ref p) vs (.ref p) us Q I2 (show L2.RelV (.ref p) (.ref p) from rfl) r2 q2
theorem u65 {k : Nat} {A : Around} (r : Room k A) : A.units + 65 < cLine := by have := r.un; omega
end Uv

namespace Uv
open PySem PySem.Spec PyProof.Rows L2
open Evl (Ex)
class KK where
  fr : PySem.W.Frag
  /-- the exception classes of the program, by number -/
  cl : Nat → Option Addr
  /-- defs that are told as values, by number -/
  fn : Nat → Option Addr
  /-- the class Hall -/
  hall : Addr
abbrev K [kk : KK] : PySem.W.Frag := kk.fr
variable [kk : KK]
abbrev PD := PyData
abbrev scrD (ds : List PD) : PD := .dict [(.none, .list ds)]
theorem sqx {K : PySem.W.Frag} {H H' : Hp} {a : Addr} {xs : List V} (e : Ex H H') (h : SqL K H a xs) : SqL K H' a xs := h.elim (fun r => .inl (r.elim (fun r => .inl (e _ _ r)) fun ⟨o, r⟩ => .inr ⟨o, e _ _ r⟩)) .inr
abbrev Hs := Addr → Prop
open Classical in
noncomputable def hid (S : Hs) (H : Hp) : Hp := fun x => if S x then none else H x
section
variable {S S' : Hs} {H H' : Hp} {x p : Addr} {o : HO}
theorem hid_in (h : S x) : hid S H x = none := by unfold hid; rw [if_pos h]
theorem hid_out (h : ¬ S x) : hid S H x = H x := by unfold hid; rw [if_neg h]
theorem hid_some (h : hid S H x = some o) : ¬ S x ∧ H x = some o := by
  by_cases c : S x
  · rw [hid_in c] at h; cases h
  · rw [hid_out c] at h; exact ⟨c, h⟩
theorem hid_ex (e : Ex H H') : Ex (hid S H) (hid S H') := fun x o h => by
  obtain ⟨c, h⟩ := hid_some h
  rw [hid_out c]; exact e x o h
theorem hid_le : Ex (hid S H) H := fun x o h => (hid_some h).2
theorem hid_sub (h : ∀ x, S' x → S x) : Ex (hid S H) (hid S' H) := fun x o q => by
  obtain ⟨c, q⟩ := hid_some q
  rw [hid_out fun z => c (h x z)]; exact q
theorem hid_eq (h : ∀ x, S x ↔ S' x) : hid S H = hid S' H := by
  funext x
  by_cases c : S x
  · rw [hid_in c, hid_in ((h x).mp c)]
  · rw [hid_out c, hid_out fun z => c ((h x).mpr z)]
def Al (S : Hs) (H : Hp) : Prop := ∀ x, S x → H x ≠ none
theorem Al.ex (a : Al S H) (e : Ex H H') : Al S H' := fun x hx z => by
  cases q : H x with
  | none => exact a x hx q
  | some o => rw [e x o q] at z; cases z
theorem Al.new (a : Al S H) (hp : H p = none) : ¬ S p := fun z => a p z hp
theorem new_ok (al : Al S H) (hp : H p = none) : hid S (upd H p o) p = some o := by rw [hid_out (al.new hp), upd_same]
theorem hid_cons (e : Ex H H') (hp : H p = none) : Ex (hid S H) (hid (fun x => x = p ∨ S x) H') := fun x o h => by
  obtain ⟨c, h⟩ := hid_some h
  have n : ¬ (x = p ∨ S x) := fun z => z.elim (fun z => by subst z; rw [hp] at h; cases h) c
  rw [hid_out n]; exact e x o h
end
abbrev dciD (ks : List Int) (ds : List PD) : PD := .dict [(.bool true, .list [.list (ks.map PyData.int), .list ds])]
def exFld : Nat → List Str
  | 1 => ["word", "path"]
  | 6 => ["bound"]
  | 11 => ["number"]
  | 14 => ["room"]
  | 15 => ["fault"]
  | 16 => ["line"]
  | 17 => ["road"]
  | 18 => ["road"]
  | 19 => ["house"]
  | 20 => ["end"]
  | 21 => ["number"]
  | _ => []
abbrev heldD (n : Nat) (ds : List PD) : PD := .dict [(.none, .int (n : Int)), (.none, .list ds)]
abbrev fnD (n : Nat) : PD := .dict [(.none, .int (n : Int))]
abbrev hallD (ws st : List PD) (bz : Bool) (lg : List PD) : PD := .dict [(.none, .tuple ws), (.none, .tuple st), (.none, .bool bz), (.none, .list lg)]
def ExH (C : Addr) (od : Option Addr) (a : Addr) : HO := .ext fun h => ∃ (oe : Obj) (vs : Array Value), h.get? a = some oe ∧ Zc (.ref C) od oe ∧ oe.data = .fields vs
def DcAt (H : Hp) (od : Option Addr) (fs : List Str) (xs : List V) : Prop := match fs with
  | [] => od = none ∧ xs = []
  | _ => ∃ dd, od = some dd ∧ H dd = some (.xd (fs.zip xs)) ∧ fs.length = xs.length
theorem DcAt.ex {H H' : Hp} (e : Ex H H') {od : Option Addr} {fs : List Str} {xs : List V} (h : DcAt H od fs xs) : DcAt H' od fs xs := by
  cases fs with
  | nil => exact h
  | cons f fs =>
    obtain ⟨dd, h1, h2, h3⟩ := h
    exact ⟨dd, h1, e _ _ h2, h3⟩
abbrev hallF (w s : V) (bz : Bool) (l : Addr) : List (Str × V) := [("webs", w), ("stood", s), ("busy", .bl bz), ("logged", .ref l)]
mutual
inductive Rp (H : Hp) : V → PD → Prop
  | non : Rp H .non .none
  | bl (b : Bool) : Rp H (.bl b) (.bool b)
  | int (i : Int) : Rp H (.int i) (.int i)
  | str (x : Str) : Rp H (.str x) (.str x)
  | lst {a : Addr} {xs : List V} {ds : List PD} : H a = some (.lst xs) → RpAll H xs ds → Rp H (.ref a) (.list ds)
  | tup {a : Addr} {o : Obj} {xs : List V} {ds : List PD} : H a = some (fz o xs) → Plain o → RpAll H xs ds → Rp H (.ref a) (.tuple ds)
  | dct {a : Addr} {ks : List Str} {xs : List V} {ds : List PD} {ps : List (PD × PD)} : H a = some (.dK ((ks.map Sum.inr).zip xs)) → ks.length = xs.length → ps = (ks.map PyData.str).zip ds → RpAll H xs ds → Rp H (.ref a) (.dict ps)
  | dci {a : Addr} {ks : List Int} {xs : List V} {ds : List PD} : H a = some (.dK ((ks.map Sum.inl).zip xs)) → ks.length = xs.length → RpAll H xs ds → Rp H (.ref a) (dciD ks ds)
  | scr {a : Addr} {xs : List V} {ds : List PD} : SqL K H a xs → RpAll H xs ds → Rp H (.ref a) (scrD ds)
  | exo {a C : Addr} {n : Nat} {od : Option Addr} {xs : List V} {ds : List PD} : kk.cl n = some C → H a = some (ExH C od a) → DcAt H od (exFld n) xs → RpAll H xs ds → Rp H (.ref a) (heldD n ds)
  | «fun» {a : Addr} {n : Nat} : kk.fn n = some a → Rp H (.ref a) (fnD n)
  | hal {a dx l : Addr} {w s : V} {lv : List V} {ws st lg : List PD} {bz : Bool} : H a = some (.ins kk.hall dx (hallF w s bz l)) → H l = some (.lst lv) → Rp H w (.tuple ws) → Rp H s (.tuple st) → RpAll H lv lg → Rp H (.ref a) (hallD ws st bz lg)
inductive RpAll (H : Hp) : List V → List PD → Prop
  | nil : RpAll H [] []
  | cons {v : V} {vs : List V} {d : PD} {ds : List PD} : Rp H v d → RpAll H vs ds → RpAll H (v :: vs) (d :: ds)
end
mutual
theorem Rp.ex {H H' : Hp} (e : Ex H H') : ∀ {v : V} {d : PD}, Rp H v d → Rp H' v d
  | _, _, .non => .non
  | _, _, .bl b => .bl b
  | _, _, .int i => .int i
  | _, _, .str x => .str x
  | _, _, .lst h r => .lst (e _ _ h) (RpAll.ex e r)
  | _, _, .tup h p r => .tup (e _ _ h) p (RpAll.ex e r)
  | _, _, .dct h l q r => .dct (e _ _ h) l q (RpAll.ex e r)
  | _, _, .dci h l r => .dci (e _ _ h) l (RpAll.ex e r)
  | _, _, .scr h r => .scr (sqx e h) (RpAll.ex e r)
  | _, _, .exo c h d r => .exo c (e _ _ h) (d.ex e) (RpAll.ex e r)
  | _, _, .«fun» h => .«fun» h
  | _, _, .hal h l w s r => .hal (e _ _ h) (e _ _ l) (Rp.ex e w) (Rp.ex e s) (RpAll.ex e r)
theorem RpAll.ex {H H' : Hp} (e : Ex H H') : ∀ {vs : List V} {ds : List PD}, RpAll H vs ds → RpAll H' vs ds
  | _, _, .nil => .nil
  | _, _, .cons h r => .cons (Rp.ex e h) (RpAll.ex e r)
end
mutual
theorem Rp.dp {H : Hp} : ∀ {v : V} {d : PD}, Rp H v d → d.hasDict = false → Dp K H v d
  | _, _, .non, _ => .non
  | _, _, .bl b, _ => .bl b
  | _, _, .int i, _ => .int i
  | _, _, .str x, _ => .str x
  | _, _, .lst h r, n => .lst (.inl (.inl h)) (RpAll.dp r (by simpa [PyData.hasDict] using n))
  | _, _, .tup h _ r, n => .tup (.inl (.inr ⟨_, h⟩)) (RpAll.dp r (by simpa [PyData.hasDict] using n))
  | _, _, .dct h _ _ _, n => by simp [PyData.hasDict] at n
  | _, _, .dci h _ _, n => by simp [PyData.hasDict] at n
  | _, _, .scr h r, n => by simp [PyData.hasDict] at n
  | _, _, .exo _ _ _ _, n => by simp [PyData.hasDict] at n
  | _, _, .«fun» _, n => by simp [PyData.hasDict] at n
  | _, _, .hal _ _ _ _ _, n => by simp [PyData.hasDict] at n
theorem RpAll.dp {H : Hp} : ∀ {vs : List V} {ds : List PD}, RpAll H vs ds → PyData.hasDictAll ds = false → DpAll K H vs ds
  | _, _, .nil, _ => .nil
  | _, _, .cons h r, n => by
    simp only [PyData.hasDictAll, Bool.or_eq_false_iff] at n
    exact .cons (Rp.dp h n.1) (RpAll.dp r n.2)
end
section
variable {H : Hp}
theorem RpAll.length : ∀ {vs : List V} {ds : List PD}, RpAll H vs ds → vs.length = ds.length
  | _, _, .nil => rfl
  | _, _, .cons _ r => by rw [List.length_cons, List.length_cons, RpAll.length r]
theorem RpAll.get : ∀ {vs : List V} {ds : List PD} {i : Nat} {d : PD}, RpAll H vs ds → ds[i]? = some d → ∃ v, vs[i]? = some v ∧ Rp H v d
  | _, _, _, _, .nil, e => by simp at e
  | _, _, 0, _, .cons h _, e => by
    simp at e
    subst e
    exact ⟨_, rfl, h⟩
  | _, _, i + 1, d, .cons _ r, e => by
    obtain ⟨v, h1, h2⟩ := RpAll.get (i := i) (d := d) r (by simpa using e)
    exact ⟨v, by simpa using h1, h2⟩
theorem RpAll.append : ∀ {vs ws : List V} {ds es : List PD}, RpAll H vs ds → RpAll H ws es → RpAll H (vs ++ ws) (ds ++ es)
  | _, _, _, _, .nil, s => s
  | _, _, _, _, .cons h r, s => .cons h (RpAll.append r s)
theorem RpAll.drop : ∀ {vs : List V} {ds : List PD} (n : Nat), RpAll H vs ds → RpAll H (vs.drop n) (ds.drop n)
  | _, _, 0, r => by simpa using r
  | _, _, n + 1, .nil => by simpa using RpAll.nil
  | _, _, n + 1, .cons _ r => by simpa using RpAll.drop n r
theorem RpAll.take : ∀ {vs : List V} {ds : List PD} (n : Nat), RpAll H vs ds → RpAll H (vs.take n) (ds.take n)
  | _, _, 0, r => by simpa using RpAll.nil
  | _, _, n + 1, .nil => by simpa using RpAll.nil
  | _, _, n + 1, .cons h r => by simpa using RpAll.cons h (RpAll.take n r)
theorem RpAll.at {vs : List V} {ds : List PD} {i : Int} {d : PD} (r : RpAll H vs ds) (h : atI ds i = some d) : ∃ v, atI vs i = some v ∧ Rp H v d := by
  unfold atI at h ⊢
  rw [r.length]
  cases e : ixN ds.length i with
  | none => rw [e] at h; cases h
  | some j =>
    rw [e] at h
    exact r.get (i := j) h
theorem RpAll.rep {vs : List V} {ds : List PD} (r : RpAll H vs ds) : ∀ n, RpAll H (List.replicate n vs).flatten (List.replicate n ds).flatten
  | 0 => .nil
  | n + 1 => by
    rw [List.replicate_succ, List.replicate_succ, List.flatten_cons, List.flatten_cons]
    exact r.append (RpAll.rep r n)
def unI : List PD → Option (List Int)
  | [] => some []
  | .int i :: r => (unI r).map (i :: ·)
  | _ => none
def unB : List PD → Option (List Bool)
  | [] => some []
  | .bool b :: r => (unB r).map (b :: ·)
  | _ => none
theorem unI_map : ∀ ns : List Int, unI (ns.map PyData.int) = some ns
  | [] => rfl
  | n :: ns => by rw [List.map_cons, unI, unI_map ns]; rfl
theorem unB_map : ∀ ns : List Bool, unB (ns.map PyData.bool) = some ns
  | [] => rfl
  | n :: ns => by rw [List.map_cons, unB, unB_map ns]; rfl
theorem unI_eq : ∀ {ds : List PD} {ns : List Int}, unI ds = some ns → ds = ns.map PyData.int
  | [], ns, h => by cases h; rfl
  | .int i :: r, ns, h => by
    unfold unI at h
    cases q : unI r with
    | none => rw [q] at h; cases h
    | some ms =>
      rw [q] at h
      cases h
      rw [unI_eq q]
      rfl
  | .none :: _, _, h => by cases h
  | .bool _ :: _, _, h => by cases h
  | .str _ :: _, _, h => by cases h
  | .list _ :: _, _, h => by cases h
  | .tuple _ :: _, _, h => by cases h
  | .dict _ :: _, _, h => by cases h
theorem unB_eq : ∀ {ds : List PD} {ns : List Bool}, unB ds = some ns → ds = ns.map PyData.bool
  | [], ns, h => by cases h; rfl
  | .bool i :: r, ns, h => by
    unfold unB at h
    cases q : unB r with
    | none => rw [q] at h; cases h
    | some ms =>
      rw [q] at h
      cases h
      rw [unB_eq q]
      rfl
  | .none :: _, _, h => by cases h
  | .int _ :: _, _, h => by cases h
  | .str _ :: _, _, h => by cases h
  | .list _ :: _, _, h => by cases h
  | .tuple _ :: _, _, h => by cases h
  | .dict _ :: _, _, h => by cases h
theorem RpAll.ints : ∀ {vs : List V} {ns : List Int}, RpAll H vs (ns.map PyData.int) → vs = ns.map V.int
  | _, [], .nil => rfl
  | _, n :: ns, .cons (.int _) r => by rw [RpAll.ints r]; rfl
theorem RpAll.bools : ∀ {vs : List V} {bs : List Bool}, RpAll H vs (bs.map PyData.bool) → vs = bs.map V.bl
  | _, [], .nil => rfl
  | _, n :: ns, .cons (.bl _) r => by rw [RpAll.bools r]; rfl
theorem RpAll.ofInts : ∀ (ns : List Int), RpAll H (ns.map V.int) (ns.map PyData.int)
  | [] => .nil
  | n :: ns => .cons (.int n) (RpAll.ofInts ns)
end
omit kk in
theorem zip_str {ks : List Str} {ds : List PD} {ps : List (PD × PD)} (h : ps = (ks.map PyData.str).zip ds) : ps = [] ∨ ∃ k d r, ps = (PyData.str k, d) :: r := by
  subst h
  cases ks with
  | nil => exact .inl rfl
  | cons k ks => cases ds with
    | nil => exact .inl rfl
    | cons d ds => exact .inr ⟨k, d, _, rfl⟩
mutual
def scrF : PD → Bool
  | .none | .bool _ | .int _ | .str _ => true
  | .list xs | .tuple xs => scrFs xs
  | .dict kvs => scrFk kvs
def scrFs : List PD → Bool
  | [] => true
  | x :: xs => scrF x && scrFs xs
def scrFk : List (PD × PD) → Bool
  | [] => true
  | (k, v) :: r => (match k with | .str _ => true | _ => false) && scrF v && scrFk r
end
theorem scrFk_zip : ∀ {ks : List Str} {ds : List PD}, ks.length = ds.length → scrFk ((ks.map PyData.str).zip ds) = scrFs ds
  | [], [], _ => rfl
  | k :: ks, d :: ds, h => by
    show (true && scrF d && scrFk ((ks.map PyData.str).zip ds)) = (scrF d && scrFs ds)
    rw [scrFk_zip (by simpa using h), Bool.true_and]
section
variable {X : Cx} {pins : List (Addr × Obj)} {σ : L2.St} {H : Hp} {s : Shared}
theorem rm_keys {P : Program} {w : World} {g : Heap} : ∀ {ks : List Str} {xs : List V} {vs : List (Key × Value)} {es : List DictEntry}, ks.length = xs.length → KV ((ks.map Sum.inr).zip xs) vs → Pairs (mixKind P w) es vs → Rms g (es.map (·.key)) (ks.map PyData.str) ∧ Vals xs (es.map (·.val))
  | [], [], _, _, _, r, p => by
    cases r
    cases p
    exact ⟨.nil, .nil⟩
  | k :: ks, x :: xs, _, _, hl, r, p => by
    have r : KV ((Sum.inr k, x) :: (ks.map Sum.inr).zip xs) _ := r
    cases r with
    | cons h t =>
      cases p with
      | cons p1 p2 p3 =>
        obtain ⟨h1, h2⟩ := h
        obtain ⟨q1, q2⟩ := rm_keys (g := g) (by simpa using hl) t p3
        rcases keyIs_shape p1 with ⟨i, u, e, _⟩ | ⟨y, u, e, e2⟩
        · rw [← h1] at e; exact nomatch e
        · rw [← h1] at e
          have e : k = y := Sum.inr.inj e
          subst e
          refine ⟨?_, ?_⟩
          · refine Rms.cons (ds := ks.map PyData.str) ?_ q1
            show Rm g _ (PyData.str k)
            have z := Rm.str (h := g) k u
            rw [← e2] at z
            exact z
          · refine Paired.cons ?_ q2
            show RelV x _
            have z : RelV x _ := h2
            rw [← p2] at z
            exact z
mutual
theorem Rp.rm (I : L2.Inv X pins σ H s) : ∀ {v : V} {d : PD}, Rp H v d → scrF d = true → ∀ {u : Value}, RelV v u → Rm s.heap u d
  | _, _, .non, _, _, r => by cases r; exact .non
  | _, _, .bl b, _, _, r => by cases r; exact .bl b
  | _, _, .int i, _, _, r => by obtain ⟨t, rfl⟩ := r; exact .int i t
  | _, _, .str x, _, _, r => by obtain ⟨t, rfl⟩ := r; exact .str x t
  | _, _, .lst h ra, f, _, r => by
    cases r
    obtain ⟨its, rv, ⟨o, n, ho, hc, _, hd⟩, _⟩ := I.list (show SqL X.K H _ _ from .inl (.inl h))
    exact .lst ho hc hd (RpAll.rm I ra (by simpa [scrF] using f) rv)
  | _, _, .tup h _ ra, f, _, r => by
    cases r
    obtain ⟨its, rv, ⟨o, ho, hc, n, hd⟩, _⟩ := I.tuple (show SqT X.K H _ _ from .inl (.inr ⟨_, h⟩))
    exact .tup ho hc hd (RpAll.rm I ra (by simpa [scrF] using f) rv)
  | _, _, .dct (ks := ks) (xs := xs) (ds := ds) h hl hp ra, f, _, r => by
    cases r
    subst hp
    have ld : xs.length = ds.length := ra.length
    obtain ⟨_, sm, vs, rel, o, es, ep, h1, h2, h3, _, h5, _⟩ := dk_of I.hok h
    obtain ⟨k1, k2⟩ := rm_keys (g := s.heap) hl rel h5
    refine .dct h1 h2.1 h3 sm ?_ ?_
    · rw [List.map_fst_zip (by simp; omega)]; exact k1
    · rw [List.map_snd_zip (by simp; omega)]
      refine RpAll.rm I ra ?_ k2
      rw [← scrFk_zip (ks := ks) (by omega)]
      simpa [scrF] using f
  | _, _, .scr _ _, f, _, _ => by simp [scrF, scrFk] at f
  | _, _, .dci _ _ _, f, _, _ => by simp [scrF, scrFk] at f
  | _, _, .exo _ _ _ _, f, _, _ => by simp [scrF, scrFk] at f
  | _, _, .«fun» _, f, _, _ => by simp [scrF, scrFk] at f
  | _, _, .hal _ _ _ _ _, f, _, _ => by simp [scrF, scrFk] at f
theorem RpAll.rm (I : L2.Inv X pins σ H s) : ∀ {vs : List V} {ds : List PD}, RpAll H vs ds → scrFs ds = true → ∀ {us : List Value}, Vals vs us → Rms s.heap us ds
  | _, _, .nil, _, _, r => by cases r; exact .nil
  | _, _, .cons h t, f, _, r => by
    simp only [scrFs, Bool.and_eq_true] at f
    cases r with
    | cons r1 r2 => exact .cons (Rp.rm I h f.1 r1) (RpAll.rm I t f.2 r2)
end
end
abbrev VE := List (Option PD)
def En (H : Hp) (σ : L2.St) (ρ : VE) : Prop := σ.length = ρ.length ∧ ∀ (i : Nat) (d : PD), ρ[i]? = some (some d) → ∃ v, σ[i]? = some (some v) ∧ Rp H v d
section
variable {H H' : Hp} {σ : L2.St} {ρ : VE}
theorem En.ex (h : En H σ ρ) (e : Ex H H') : En H' σ ρ := ⟨h.1, fun i d hi => let ⟨v, h1, h2⟩ := h.2 i d hi; ⟨v, h1, h2.ex e⟩⟩
theorem En.set (h : En H σ ρ) (j : Nat) {v : V} {d : PD} (hr : Rp H v d) : En H (σ.set j (some v)) (ρ.set j (some d)) := by
  refine ⟨by rw [List.length_set, List.length_set]; exact h.1, fun i q hi => ?_⟩
  by_cases c : j = i
  · subst c
    have hl : j < ρ.length := by
      have := (List.getElem?_eq_some_iff.mp hi).1
      simpa using this
    rw [List.getElem?_set_self hl] at hi
    cases hi
    exact ⟨v, List.getElem?_set_self (by rw [h.1]; exact hl), hr⟩
  · rw [List.getElem?_set_ne c] at hi
    rw [List.getElem?_set_ne c]
    exact h.2 i q hi
theorem En.clear (h : En H σ ρ) (j : Nat) (o : Option V) : En H (σ.set j o) (ρ.set j none) := by
  refine ⟨by rw [List.length_set, List.length_set]; exact h.1, fun i q hi => ?_⟩
  by_cases c : j = i
  · subst c
    have hl : j < ρ.length := by
      have := (List.getElem?_eq_some_iff.mp hi).1
      simpa using this
    rw [List.getElem?_set_self hl] at hi
    cases hi
  · rw [List.getElem?_set_ne c] at hi
    rw [List.getElem?_set_ne c]
    exact h.2 i q hi
end
def Ed (te : TE) (ρ : VE) (d : PD) : Prop := ∀ S σ H, Al S H → En (hid S H) σ ρ → ∀ Q : VK, (∀ v H2, Ex H H2 → Rp (hid S H2) v d → Q v H2) → te σ H Q
def Et (tt : TT) (ρ : VE) (b : Bool) : Prop := ∀ S σ H, Al S H → En (hid S H) σ ρ → ∀ Q : Bool → Hp → Prop, (∀ H2, Ex H H2 → Q b H2) → tt σ H Q
def Ea (ta : TA) (ρ : VE) (ds : List PD) : Prop := ∀ S σ H, Al S H → En (hid S H) σ ρ → ∀ Q : List V → Hp → Prop, (∀ vs H2, Ex H H2 → RpAll (hid S H2) vs ds → Q vs H2) → ta σ H Q
def Ro (r : R2) (x y z : PD) : Prop := ∀ S H vx vy, Al S H → Rp (hid S H) vx x → Rp (hid S H) vy y → ∀ Q : VK, (∀ v H2, Ex H H2 → Rp (hid S H2) v z → Q v H2) → r vx vy H Q
def Ru (r : V → Hp → VK → Prop) (x z : PD) : Prop := ∀ S H vx, Al S H → Rp (hid S H) vx x → ∀ Q : VK, (∀ v H2, Ex H H2 → Rp (hid S H2) v z → Q v H2) → r vx H Q
def Rc (r : List V → Hp → VK → Prop) (xs : List PD) (z : PD) : Prop := ∀ S H vs, Al S H → RpAll (hid S H) vs xs → ∀ Q : VK, (∀ v H2, Ex H H2 → Rp (hid S H2) v z → Q v H2) → r vs H Q
abbrev XE := VE → Option PD
abbrev XT := VE → Option Bool
abbrev XA := VE → Option (List PD)
def SE (te : TE) (x : XE) : Prop := ∀ ρ d, x ρ = some d → Ed te ρ d
def ST (tt : TT) (x : XT) : Prop := ∀ ρ b, x ρ = some b → Et tt ρ b
def SA (ta : TA) (x : XA) : Prop := ∀ ρ ds, x ρ = some ds → Ea ta ρ ds
def SO (r : R2) (f : PD → PD → Option PD) : Prop := ∀ x y z, f x y = some z → Ro r x y z
def SU (r : V → Hp → VK → Prop) (f : PD → Option PD) : Prop := ∀ x z, f x = some z → Ru r x z
def SC (r : List V → Hp → VK → Prop) (f : List PD → Option PD) : Prop := ∀ xs z, f xs = some z → Rc r xs z
theorem bind_some {α β : Type} {a : Option α} {f : α → Option β} {z : β} (h : a.bind f = some z) : ∃ x, a = some x ∧ f x = some z := by
  cases a with
  | none => cases h
  | some x => exact ⟨x, rfl, h⟩
def xVar (i : Nat) : XE := fun ρ => (ρ[i]?).bind id
def xC (d : PD) : XE := fun _ => some d
def xOp (f : PD → PD → Option PD) (a b : XE) : XE := fun ρ => (a ρ).bind fun x => (b ρ).bind fun y => f x y
def xUn (f : PD → Option PD) (a : XE) : XE := fun ρ => (a ρ).bind f
def xNil : XA := fun _ => some []
def xCons (a : XE) (as : XA) : XA := fun ρ => (a ρ).bind fun x => (as ρ).bind fun xs => some (x :: xs)
def xTup (as : XA) : XE := fun ρ => (as ρ).bind fun ds => if ds.length ≤ 100000 then some (.tuple ds) else none
def xLst (as : XA) : XE := fun ρ => (as ρ).bind fun ds => if ds.length ≤ 100000 then some (.list ds) else none
def xCB (f : List PD → Option PD) (as : XA) : XE := fun ρ => (as ρ).bind f
def isB : PD → Option Bool
  | .bool b => some b
  | _ => none
theorem isB_eq {d : PD} {b : Bool} (h : isB d = some b) : d = .bool b := by
  cases d with
  | bool c => cases h; rfl
  | _ => cases h
def xB (a : XE) : XT := fun ρ => (a ρ).bind isB
def xTAnd (a b : XT) : XT := fun ρ => (a ρ).bind fun c => if c = true then b ρ else some false
def xTOr (a b : XT) : XT := fun ρ => (a ρ).bind fun c => if c = true then some true else b ρ
def xTNot (a : XT) : XT := fun ρ => (a ρ).bind fun c => some (!c)
def xYes : XT := fun _ => some true
def xAnd (a b : XE) : XE := fun ρ => ((a ρ).bind isB).bind fun c => if c = true then b ρ else some (.bool false)
def xNot (a : XE) : XE := fun ρ => ((a ρ).bind isB).bind fun c => some (.bool (!c))
def xIf (c : XT) (a b : XE) : XE := fun ρ => (c ρ).bind fun k => if k = true then a ρ else b ρ
def xChain (f g : PD → PD → Option PD) (a b c : XE) : XE := fun ρ => (a ρ).bind fun x => (b ρ).bind fun y => ((f x y).bind isB).bind fun k => if k = true then (c ρ).bind fun z => g y z else some (.bool false)
section
variable {ta tb tc te : TE} {t u : TT} {ts : TA} {a b c x : XE} {p q : XT} {as : XA} {r r' : R2} {f g : PD → PD → Option PD}
theorem se_var {i : Nat} : SE (tVar i) (xVar i) := fun ρ d h S σ H _ en Q q => by
  obtain ⟨o, h1, h2⟩ := bind_some h
  cases h2
  obtain ⟨v, e, rv⟩ := en.2 i d h1
  exact ⟨v, e, q v H (Ex.refl H) rv⟩
theorem se_int {i : Int} : SE (tC (.int i)) (xC (.int i)) := fun ρ d h S σ H _ _ Q q => by cases h; exact q _ H (Ex.refl H) (.int i)
theorem se_bl {b : Bool} : SE (tC (.bl b)) (xC (.bool b)) := fun ρ d h S σ H _ _ Q q => by cases h; exact q _ H (Ex.refl H) (.bl b)
theorem se_non : SE (tC .non) (xC .none) := fun ρ d h S σ H _ _ Q q => by cases h; exact q _ H (Ex.refl H) .non
theorem se_str {s : Str} : SE (tC (.str s)) (xC (.str s)) := fun ρ d h S σ H _ _ Q q => by cases h; exact q _ H (Ex.refl H) (.str s)
theorem se_d0 : SE tDNewK (xC (.dict [])) := fun ρ d h S σ H al _ Q q => by
  cases h
  intro p hp
  exact q _ _ (Ex.new hp) (.dct (ks := []) (xs := []) (ds := []) (new_ok al hp) rfl rfl .nil)
def xD1 (k : Str) (a : XE) : XE := fun ρ => (a ρ).bind fun d => some (.dict [(.str k, d)])
theorem se_d1 {k : Str} (ha : SE ta a) : SE (tDisp [(tC (.str k), ta)]) (xD1 k a) := fun ρ d h S σ H al en Q q => by
  obtain ⟨x, h1, h⟩ := bind_some h
  cases h
  intro p hp
  have e0 : Ex H (upd H p (.dK [])) := Ex.new hp
  have al1 := al.ex e0
  -- the new dict is hidden while the value is made
  have al2 : Al (fun y => y = p ∨ S y) (upd H p (.dK [])) := fun y hy z => by
    rcases hy with rfl | hy
    · rw [upd_same] at z; cases z
    · exact al1 y hy z
  have en2 : En (hid (fun y => y = p ∨ S y) (upd H p (.dK []))) σ ρ := en.ex (hid_cons e0 hp)
  refine ha ρ x h1 _ σ _ al2 en2 _ fun v H1 e1 rv => ?_
  have hp1 : H1 p = some (.dK []) := e1 p _ upd_same
  refine ⟨hp1, [(Sum.inr k, v)], rfl, by simp, ?_⟩
  have np : ¬ S p := al.new hp
  have eq1 : Ex H (upd H1 p (.dK (mergeK [] [(Sum.inr k, v)]))) := fun y o hy => by
    have ne : y ≠ p := fun z => by rw [z, hp] at hy; cases hy
    rw [upd_ne ne]
    exact e1 y o (by rw [upd_ne ne]; exact hy)
  refine q _ _ eq1 (.dct (ks := [k]) (xs := [v]) (ds := [x]) ?_ rfl rfl (.cons (rv.ex fun y o hy => ?_) .nil))
  · rw [hid_out np, upd_same]
    rfl
  · obtain ⟨c, hy⟩ := hid_some hy
    have c1 : y ≠ p := fun z => c (.inl z)
    rw [hid_out fun z => c (.inr z), upd_ne c1]
    exact hy
theorem se_op (hr : SO r f) (ha : SE ta a) (hb : SE tb b) : SE (tOp r ta tb) (xOp f a b) := fun ρ d h S σ H al en Q q => by
  obtain ⟨x, h1, h⟩ := bind_some h
  obtain ⟨y, h2, h⟩ := bind_some h
  exact ha ρ x h1 S σ H al en _ fun vx H1 e1 rx => hb ρ y h2 S σ H1 (al.ex e1) (en.ex (hid_ex e1)) _ fun vy H2 e2 ry =>
    hr x y d h S H2 vx vy ((al.ex e1).ex e2) (rx.ex (hid_ex e2)) ry Q fun v H3 e3 rv => q v H3 ((e1.trans e2).trans e3) rv
theorem se_un {r : V → Hp → VK → Prop} {f : PD → Option PD} (hr : SU r f) (ha : SE ta a) : SE (tUn r ta) (xUn f a) := fun ρ d h S σ H al en Q q => by
  obtain ⟨x, h1, h⟩ := bind_some h
  exact ha ρ x h1 S σ H al en _ fun vx H1 e1 rx => hr x d h S H1 vx (al.ex e1) rx Q fun v H3 e3 rv => q v H3 (e1.trans e3) rv
theorem sa_nil : SA tNil xNil := fun ρ ds h S σ H _ _ Q q => by cases h; exact q [] H (Ex.refl H) .nil
theorem sa_cons (ha : SE ta a) (hs : SA ts as) : SA (tCons ta ts) (xCons a as) := fun ρ ds h S σ H al en Q q => by
  obtain ⟨x, h1, h⟩ := bind_some h
  obtain ⟨xs, h2, h⟩ := bind_some h
  cases h
  exact ha ρ x h1 S σ H al en _ fun v H1 e1 rv => hs ρ xs h2 S σ H1 (al.ex e1) (en.ex (hid_ex e1)) _ fun vs H2 e2 rs => q (v :: vs) H2 (e1.trans e2) (.cons (rv.ex (hid_ex e2)) rs)
theorem se_tup (hs : SA ts as) : SE (tTupF ts) (xTup as) := fun ρ d h S σ H al en Q q => by
  obtain ⟨ds, h1, h⟩ := bind_some h
  by_cases hl : ds.length ≤ 100000
  · rw [if_pos hl] at h
    cases h
    refine hs ρ ds h1 S σ H al en _ fun vs H1 e1 ra => ⟨by rw [ra.length]; exact Evl.sz_of hl, fun p o hp pl => q _ _ (e1.trans (Ex.new hp)) (.tup (new_ok (al.ex e1) hp) pl (ra.ex (hid_ex (Ex.new hp))))⟩
  · rw [if_neg hl] at h; cases h
theorem se_cb {r : List V → Hp → VK → Prop} {f : List PD → Option PD} (hr : SC r f) (hs : SA ts as) : SE (tCB r ts) (xCB f as) := fun ρ d h S σ H al en Q q => by
  obtain ⟨ds, h1, h⟩ := bind_some h
  exact hs ρ ds h1 S σ H al en _ fun vs H1 e1 rv => hr ds d h S H1 vs (al.ex e1) rv Q fun v H2 e2 r2 => q v H2 (e1.trans e2) r2
theorem st_B (ha : SE ta a) : ST (tB ta) (xB a) := fun ρ b h S σ H al en Q q => by
  obtain ⟨x, h1, h⟩ := bind_some h
  have e := isB_eq h
  subst e
  exact ha ρ _ h1 S σ H al en _ fun v H1 e1 rv => by cases rv; exact ⟨b, rfl, q H1 e1⟩
theorem st_test (ha : SE ta a) : ST (tTest ta) (xB a) := fun ρ b h S σ H al en Q q => by
  obtain ⟨x, h1, h⟩ := bind_some h
  have e := isB_eq h
  subst e
  exact ha ρ _ h1 S σ H al en _ fun v H1 e1 rv => by cases rv; exact ⟨b, rfl, q H1 e1⟩
theorem st_yes : ST tYes xYes := fun ρ b h S σ H al en Q q => by cases h; exact q H (Ex.refl H)
theorem st_not (ht : ST t p) : ST (tNot t) (xTNot p) := fun ρ b h S σ H al en Q q => by
  obtain ⟨c, h1, h⟩ := bind_some h
  cases h
  exact ht ρ c h1 S σ H al en _ fun H1 e1 => q H1 e1
theorem st_and (ht : ST t p) (hu : ST u q) : ST (tAnd t u) (xTAnd p q) := fun ρ b h S σ H al en Q k => by
  obtain ⟨c, h1, h⟩ := bind_some h
  refine ht ρ c h1 S σ H al en _ fun H1 e1 => ?_
  cases c with
  | true => exact hu ρ b h S σ H1 (al.ex e1) (en.ex (hid_ex e1)) Q fun H2 e2 => k H2 (e1.trans e2)
  | false => cases h; exact k H1 e1
theorem st_or (ht : ST t p) (hu : ST u q) : ST (tOr t u) (xTOr p q) := fun ρ b h S σ H al en Q k => by
  obtain ⟨c, h1, h⟩ := bind_some h
  refine ht ρ c h1 S σ H al en _ fun H1 e1 => ?_
  cases c with
  | true => cases h; exact k H1 e1
  | false => exact hu ρ b h S σ H1 (al.ex e1) (en.ex (hid_ex e1)) Q fun H2 e2 => k H2 (e1.trans e2)
theorem se_and (ha : SE ta a) (hb : SE tb b) : SE (tAndV ta tb) (xAnd a b) := fun ρ d h S σ H al en Q q => by
  obtain ⟨c, h1, h⟩ := bind_some h
  obtain ⟨x, h0, h1⟩ := bind_some h1
  have e := isB_eq h1
  subst e
  refine ha ρ _ h0 S σ H al en _ fun v H1 e1 rv => ?_
  cases rv
  refine ⟨c, rfl, ?_⟩
  cases c with
  | true => exact hb ρ d h S σ H1 (al.ex e1) (en.ex (hid_ex e1)) Q fun v H2 e2 r2 => q v H2 (e1.trans e2) r2
  | false => cases h; exact q _ H1 e1 (.bl false)
theorem se_not (ha : SE ta a) : SE (tNotV ta) (xNot a) := fun ρ d h S σ H al en Q q => by
  obtain ⟨c, h1, h⟩ := bind_some h
  obtain ⟨x, h0, h1⟩ := bind_some h1
  have e := isB_eq h1
  subst e
  cases h
  refine ha ρ _ h0 S σ H al en _ fun v H1 e1 rv => ?_
  cases rv
  exact ⟨c, rfl, q _ H1 e1 (.bl _)⟩
theorem se_if (ht : ST t p) (ha : SE ta a) (hb : SE tb b) : SE (tIf t ta tb) (xIf p a b) := fun ρ d h S σ H al en Q q => by
  obtain ⟨c, h1, h⟩ := bind_some h
  refine ht ρ c h1 S σ H al en _ fun H1 e1 => ?_
  cases c with
  | true => exact ha ρ d h S σ H1 (al.ex e1) (en.ex (hid_ex e1)) Q fun v H2 e2 r2 => q v H2 (e1.trans e2) r2
  | false => exact hb ρ d h S σ H1 (al.ex e1) (en.ex (hid_ex e1)) Q fun v H2 e2 r2 => q v H2 (e1.trans e2) r2
theorem se_chain (hr : SO r f) (hr' : SO r' g) (ha : SE ta a) (hb : SE tb b) (hc : SE tc c) : SE (tChain r r' ta tb tc) (xChain f g a b c) := fun ρ d h S σ H al en Q q => by
  obtain ⟨x, h1, h⟩ := bind_some h
  obtain ⟨y, h2, h⟩ := bind_some h
  obtain ⟨k, h3, h⟩ := bind_some h
  obtain ⟨w, h3, h4⟩ := bind_some h3
  have e := isB_eq h4
  subst e
  refine ha ρ x h1 S σ H al en _ fun vx H1 e1 rx => hb ρ y h2 S σ H1 (al.ex e1) (en.ex (hid_ex e1)) _ fun vy H2 e2 ry => hr x y _ h3 S H2 vx vy ((al.ex e1).ex e2) (rx.ex (hid_ex e2)) ry _ fun v H3 e3 rv => ?_
  cases rv
  refine ⟨k, rfl, ?_⟩
  have e13 := (e1.trans e2).trans e3
  cases k with
  | true =>
    obtain ⟨z, h5, h⟩ := bind_some h
    refine iteT (hc ρ z h5 S σ H3 (al.ex e13) (en.ex (hid_ex e13)) _ fun vz H4 e4 rz => ?_)
    exact hr' y z d h S H4 vy vz ((al.ex e13).ex e4) (ry.ex ((hid_ex e3).trans (hid_ex e4))) rz Q fun w H5 e5 rw' => q w H5 ((e13.trans e4).trans e5) rw'
  | false => cases h; exact iteF (q _ H3 e13 (.bl false))
end
end Uv

namespace Uv
open PySem PySem.Spec PyProof.Rows L2
open Evl (Ex)
variable [kk : KK]
theorem OpR.or {X : Cx} {f : Value → Value → Sem Value} {r r' : R2} (h : OpR X f r) (h' : OpR X f r') : OpR X f (fun x y H Q => r x y H Q ∨ r' x y H Q) := fun pins s σ H x y v u Q I rx ry q =>
  q.elim (h pins s σ H x y v u Q I rx ry) (h' pins s σ H x y v u Q I rx ry)
theorem CallR.or {X : Cx} {f : Value} {r r' : List V → Hp → VK → Prop} (h : CallR X f r) (h' : CallR X f r') : CallR X f (fun xs H Q => r xs H Q ∨ r' xs H Q) := fun pins s σ H xs us Q I rx q =>
  q.elim (h pins s σ H xs us Q I rx) (h' pins s σ H xs us Q I rx)
theorem SlR.or {X : Cx} {r r' : V → Option Int → Option Int → Hp → VK → Prop} (h : SlR X r) (h' : SlR X r') : SlR X (fun x lo hi H Q => r x lo hi H Q ∨ r' x lo hi H Q) := fun pins s σ H x v vl vu lo hi sl Q I rx hs pl pu q =>
  q.elim (h pins s σ H x v vl vu lo hi sl Q I rx hs pl pu) (h' pins s σ H x v vl vu lo hi sl Q I rx hs pl pu)
theorem PE.or {X : Cx} {e : Expr} {t u : TE} (h : PE X e t) (h' : PE X e u) : PE X e (fun σ H Q => t σ H Q ∨ u σ H Q) := ⟨fun pins s σ H Q I q => q.elim (h.run pins s σ H Q I) (h'.run pins s σ H Q I)⟩
theorem PI.or {X : Cx} {tg e : Expr} {t u : TI} (h : PI X tg e t) (h' : PI X tg e u) : PI X tg e (fun σ H Q => t σ H Q ∨ u σ H Q) := ⟨fun pins s σ H Q I q => q.elim (h.run pins s σ H Q I) (h'.run pins s σ H Q I)⟩
abbrev oSub : R2 := rI0 fun i j => .int (i - j)
abbrev oDivW : R2 := rI CDivW fun i j => .int (i / j)
abbrev oMod : R2 := rI (fun _ j => 0 < j) fun i j => .int (i % j)
abbrev oPow : R2 := rI CPow fun i j => .int (i ^ j.toNat)
abbrev oLt : R2 := rI0 fun i j => .bl (decide (i < j))
abbrev oLe : R2 := rI0 fun i j => .bl (decide (i ≤ j))
abbrev oGt : R2 := rI0 fun i j => .bl (decide (j < i))
abbrev oIsN : R2 := fun x y H Q => y = .non ∧ Q (.bl (decide (x = .non))) H
abbrev oNeg : V → Hp → VK → Prop := rU fun i => .int (-i)
abbrev rAbsQ : List V → Hp → VK → Prop := fun xs H Q => ∃ i, xs = [.int i] ∧ Q (.int (if i < 0 then -i else i)) H
abbrev rIntQ : List V → Hp → VK → Prop := fun xs H Q => (∃ i, xs = [.int i] ∧ Q (.int i) H) ∨ ∃ k, xs = [.bl k] ∧ Q (.int (if k then 1 else 0)) H
section
def addP : PD → PD → Option PD
  | .int i, .int j => some (.int (i + j))
  | .list xs, .list ys => if xs.length + ys.length ≤ 100000 then some (.list (xs ++ ys)) else none
  | .tuple xs, .tuple ys => if xs.length + ys.length ≤ 100000 then some (.tuple (xs ++ ys)) else none
  | _, _ => none
def rAddU (K : PySem.W.Frag) : R2 := fun x y H Q => rI0 (fun i j => .int (i + j)) x y H Q ∨ (rCat x y H Q ∨ rCatF K x y H Q)
theorem op_addU {X : Cx} : OpR X (binaryOp .Add) (rAddU X.K) := OpR.or op_add (OpR.or op_cat op_catF)
theorem so_add : SO (rAddU K) addP := fun x y z h S H vx vy al rx ry Q q => by
  cases rx with
  | int i =>
    cases ry with
    | int j =>
      cases h
      exact .inl ⟨i, j, rfl, rfl, q _ H (Ex.refl H) (.int _)⟩
    | _ => cases h
  | @lst a xs ds ha ra =>
    cases ry with
    | @lst b ys es hb rb =>
      have h : (if ds.length + es.length ≤ 100000 then some (PyData.list (ds ++ es)) else none) = some z := h
      by_cases c : ds.length + es.length ≤ 100000
      · rw [if_pos c] at h
        cases h
        refine .inr (.inl ⟨a, b, xs, ys, rfl, rfl, hid_le _ _ ha, hid_le _ _ hb, by rw [ra.length, rb.length]; exact Evl.sz_of c, fun p hp => q _ _ (Ex.new hp) (.lst (new_ok al hp) ((ra.append rb).ex (hid_ex (Ex.new hp))))⟩)
      · rw [if_neg c] at h; cases h
    | _ => cases h
  | @tup a o xs ds ha pa ra =>
    cases ry with
    | @tup b o' ys es hb pb rb =>
      have h : (if ds.length + es.length ≤ 100000 then some (PyData.tuple (ds ++ es)) else none) = some z := h
      by_cases c : ds.length + es.length ≤ 100000
      · rw [if_pos c] at h
        cases h
        refine .inr (.inr ⟨a, b, xs, ys, rfl, rfl, .inl (.inr ⟨_, hid_le _ _ ha⟩), .inl (.inr ⟨_, hid_le _ _ hb⟩), by rw [ra.length, rb.length]; exact Evl.sz_of c, fun e => ?_, fun _ e => ?_, fun _ _ p o hp pl => q _ _ (Ex.new hp) (.tup (new_ok al hp) pl ((ra.append rb).ex (hid_ex (Ex.new hp))))⟩)
        · subst e
          cases ra
          exact q _ H (Ex.refl H) (.tup hb pb rb)
        · subst e
          cases rb
          exact q _ H (Ex.refl H) (by rw [List.append_nil]; exact .tup ha pa ra)
      · rw [if_neg c] at h; cases h
    | _ => cases h
  | _ => cases h
def intF (f : Int → Int → Option PD) : PD → PD → Option PD
  | .int i, .int j => f i j
  | _, _ => none
theorem intF_eq {f : Int → Int → Option PD} {x y z : PD} (h : intF f x y = some z) : ∃ i j, x = .int i ∧ y = .int j ∧ f i j = some z := by
  cases x with
  | int i =>
    cases y with
    | int j => exact ⟨i, j, rfl, rfl, h⟩
    | _ => cases h
  | _ => cases h
theorem so_rI {C : Int → Int → Prop} {g : Int → Int → Int} {f : Int → Int → Option PD} (hf : ∀ i j z, f i j = some z → C i j ∧ z = .int (g i j)) : SO (rI C fun i j => .int (g i j)) (intF f) := fun x y z h S H vx vy al rx ry Q q => by
  obtain ⟨i, j, rfl, rfl, h⟩ := intF_eq h
  obtain ⟨h1, rfl⟩ := hf i j z h
  cases rx; cases ry
  exact ⟨i, j, rfl, rfl, h1, q _ H (Ex.refl H) (.int _)⟩
theorem so_rI0 {g : Int → Int → Int} : SO (rI0 fun i j => .int (g i j)) (intF fun i j => some (.int (g i j))) := fun x y z h S H vx vy al rx ry Q q => by
  obtain ⟨i, j, rfl, rfl, h⟩ := intF_eq h
  cases h
  cases rx; cases ry
  exact ⟨i, j, rfl, rfl, q _ H (Ex.refl H) (.int _)⟩
theorem so_rIb {g : Int → Int → Bool} : SO (rI0 fun i j => .bl (g i j)) (intF fun i j => some (.bool (g i j))) := fun x y z h S H vx vy al rx ry Q q => by
  obtain ⟨i, j, rfl, rfl, h⟩ := intF_eq h
  cases h
  cases rx; cases ry
  exact ⟨i, j, rfl, rfl, q _ H (Ex.refl H) (.bl _)⟩
def subP : PD → PD → Option PD := intF fun i j => some (.int (i - j))
def divP : PD → PD → Option PD := intF fun i j => if 0 < j ∧ j < 2 ^ 64 then some (.int (i / j)) else none
def modP : PD → PD → Option PD := intF fun i j => if 0 < j then some (.int (i % j)) else none
def powP : PD → PD → Option PD := intF fun i j => if 0 ≤ j ∧ j ≤ 1000 ∧ -(2 ^ 63) < i ∧ i < 2 ^ 63 then some (.int (i ^ j.toNat)) else none
def ltP : PD → PD → Option PD := intF fun i j => some (.bool (decide (i < j)))
def leP : PD → PD → Option PD := intF fun i j => some (.bool (decide (i ≤ j)))
def geP : PD → PD → Option PD := intF fun i j => some (.bool (decide (j ≤ i)))
theorem so_sub : SO oSub subP := so_rI0
theorem so_lt : SO oLt ltP := so_rIb
theorem so_le : SO oLe leP := so_rIb
theorem so_div : SO oDivW divP := so_rI fun i j z h => by
  by_cases c : 0 < j ∧ j < 2 ^ 64
  · rw [if_pos c] at h
    cases h
    exact ⟨⟨c.1, Nat.lt_of_lt_of_le (PySem.Flt.log2_lt_of (k := 64) (by decide) (by omega)) (by decide)⟩, rfl⟩
  · rw [if_neg c] at h; cases h
theorem so_mod : SO oMod modP := so_rI fun i j z h => by
  by_cases c : 0 < j
  · rw [if_pos c] at h
    cases h
    exact ⟨c, rfl⟩
  · rw [if_neg c] at h; cases h
theorem so_pow : SO oPow powP := so_rI fun i j z h => by
  by_cases c : 0 ≤ j ∧ j ≤ 1000 ∧ -(2 ^ 63) < i ∧ i < 2 ^ 63
  · rw [if_pos c] at h
    cases h
    exact ⟨⟨c.1, by omega, by omega⟩, rfl⟩
  · rw [if_neg c] at h; cases h
def mulP : PD → PD → Option PD
  | .int i, .int j => if (-(2 ^ 64) < i ∧ i < 2 ^ 64) ∨ (-(2 ^ 64) < j ∧ j < 2 ^ 64) then some (.int (i * j)) else none
  | .list xs, .int j => if 0 ≤ j ∧ j ≤ 100000 ∧ xs.length * j.toNat ≤ 100000 then some (.list (List.replicate j.toNat xs).flatten) else none
  | _, _ => none
def rMulU : R2 := fun x y H Q => rI CMul (fun i j => .int (i * j)) x y H Q ∨ rRep x y H Q
theorem op_mulU {X : Cx} : OpR X (binaryOp .Mult) rMulU := OpR.or op_mul op_rep
theorem so_mul : SO rMulU mulP := fun x y z h S H vx vy al rx ry Q q => by
  cases rx with
  | int i =>
    cases ry with
    | int j =>
      have h : (if (-(2 ^ 64) < i ∧ i < 2 ^ 64) ∨ (-(2 ^ 64) < j ∧ j < 2 ^ 64) then some (PyData.int (i * j)) else none) = some z := h
      by_cases c : (-(2 ^ 64) < i ∧ i < 2 ^ 64) ∨ (-(2 ^ 64) < j ∧ j < 2 ^ 64)
      · rw [if_pos c] at h
        cases h
        exact .inl ⟨i, j, rfl, rfl, c, q _ H (Ex.refl H) (.int _)⟩
      · rw [if_neg c] at h; cases h
    | _ => cases h
  | @lst a xs ds ha ra =>
    cases ry with
    | int j =>
      have h : (if 0 ≤ j ∧ j ≤ 100000 ∧ ds.length * j.toNat ≤ 100000 then some (PyData.list (List.replicate j.toNat ds).flatten) else none) = some z := h
      by_cases c : 0 ≤ j ∧ j ≤ 100000 ∧ ds.length * j.toNat ≤ 100000
      · rw [if_pos c] at h
        cases h
        refine .inr ⟨_, _, _, rfl, rfl, hid_le _ _ ha, by omega, by omega, ?_, fun p hp => q _ _ (Ex.new hp) (.lst (new_ok al hp) ((ra.rep j.toNat).ex (hid_ex (Ex.new hp))))⟩
        rw [ra.length]
        exact Evl.sz_of c.2.2
      · rw [if_neg c] at h; cases h
    | _ => cases h
  | _ => cases h
def negP : PD → Option PD
  | .int i => some (.int (-i))
  | _ => none
theorem su_neg : SU oNeg negP := fun x z h S H vx al rx Q q => by
  cases rx with
  | int i => cases h; exact ⟨i, rfl, q _ H (Ex.refl H) (.int _)⟩
  | _ => cases h
def eqE : PD → PD → Option PD
  | .tuple ds, .tuple [] => some (.bool ds.isEmpty)
  | .dict [], .str _ => some (.bool false)
  | .dict ((.str _, _) :: _), .str _ => some (.bool false)
  | _, _ => none
def eqP (x y : PD) : Option PD := if SeqAt.shaped x = true ∧ SeqAt.shaped y = true then some (.bool (PyData.eqv x y)) else eqE x y
def rEqX (K : PySem.W.Frag) : R2 := fun x y H Q => rEqD K x y H Q ∨ (∃ a b xs, x = .ref a ∧ y = .ref b ∧ SqT K H a xs ∧ SqT K H b [] ∧ Q (.bl xs.isEmpty) H) ∨ ∃ a kvs t, x = .ref a ∧ y = .str t ∧ H a = some (.dK kvs) ∧ Q (.bl false) H
theorem op_eqX {X : Cx} (hu : X.A.units + 64 < cLine) : OpR X (compareOp .Eq) (rEqX X.K) := by
  intro pins s σ H x y v u Q I rx ry h
  rcases h with h | ⟨a, b, xs, rfl, rfl, ha, hb, q⟩ | ⟨a, kvs, t, rfl, rfl, ha, q⟩
  · exact op_eqD hu pins s σ H x y v u Q I rx ry h
  · cases rx
    cases ry
    obtain ⟨its, rv, ht, _⟩ := I.tuple ha
    obtain ⟨its2, rv2, ht2, _⟩ := I.tuple hb
    cases rv2
    refine SeqAt.RcAt.tuples (e := fun _ => true) ht ht2 (by omega) (fun j _ h2 => absurd h2 (by simp)) X.prog X.w X.xe _ ⟨.bl _, H, I, ?_, q⟩
    show Value.bool _ = Value.bool _
    cases rv with
    | nil => rfl
    | cons h t => simp
  · cases rx
    obtain ⟨tk, rfl⟩ := ry
    obtain ⟨_, _, vs, _, o, es, ep, h1, h2, h3, _⟩ := dk_of I.hok ha
    obtain ⟨cls, dd, data, sl⟩ := o
    obtain ⟨c1, c2, c3⟩ := h2
    simp only at c1 h3
    subst c1 h3
    exact dct_str t tk h1 (by omega) X.prog X.w X.xe _ ⟨.bl false, H, I, rfl, q⟩
def neP (x y : PD) : Option PD := if SeqAt.shaped x = true ∧ SeqAt.shaped y = true then some (.bool (!PyData.eqv x y)) else none
theorem nodict {d : PD} (h : SeqAt.shaped d = true) : d.hasDict = false := by
  unfold SeqAt.shaped at h
  rw [Bool.and_eq_true] at h
  exact PyData.hasDict_of_canLay d h.1
theorem so_eq : SO (rEqX K) eqP := fun x y z h S H vx vy al rx ry Q q => by
  unfold eqP at h
  by_cases c : SeqAt.shaped x = true ∧ SeqAt.shaped y = true
  · rw [if_pos c] at h
    cases h
    exact .inl ⟨x, y, (rx.ex hid_le).dp (nodict c.1), (ry.ex hid_le).dp (nodict c.2), c.1, c.2, q _ H (Ex.refl H) (.bl _)⟩
  · rw [if_neg c] at h
    unfold eqE at h
    split at h
    · cases h
      cases rx with
      | @tup a o xs _ hx _ ra =>
        cases ry with
        | @tup b o2 ys ds2 hy _ rb =>
          cases rb
          have qq := q (.bl xs.isEmpty) H (Ex.refl H)
          refine .inr (.inl ⟨a, b, xs, rfl, rfl, .inl (.inr ⟨_, hid_le _ _ hx⟩), .inl (.inr ⟨_, hid_le _ _ hy⟩), qq ?_⟩)
          cases ra with
          | nil => exact .bl _
          | cons _ _ => exact .bl _
    · cases h
      cases ry
      cases rx with
      | dct hx _ _ _ => exact .inr (.inr ⟨_, _, _, rfl, rfl, hid_le _ _ hx, q _ H (Ex.refl H) (.bl _)⟩)
    · cases h
      cases ry
      cases rx with
      | dct hx _ _ _ => exact .inr (.inr ⟨_, _, _, rfl, rfl, hid_le _ _ hx, q _ H (Ex.refl H) (.bl _)⟩)
    · cases h
theorem so_ne : SO (rNeD K) neP := fun x y z h S H vx vy al rx ry Q q => by
  unfold neP at h
  by_cases c : SeqAt.shaped x = true ∧ SeqAt.shaped y = true
  · rw [if_pos c] at h
    cases h
    exact ⟨x, y, (rx.ex hid_le).dp (nodict c.1), (ry.ex hid_le).dp (nodict c.2), c.1, c.2, q _ H (Ex.refl H) (.bl _)⟩
  · rw [if_neg c] at h; cases h
def isNone : PD → Bool
  | .none => true
  | _ => false
theorem isNone_of {H : Hp} {v : V} {d : PD} (r : Rp H v d) : decide (v = .non) = isNone d := by cases r <;> rfl
def ixP : PD → PD → Option PD
  | .tuple ds, .int i => atI ds i
  | .list ds, .int i => atI ds i
  | .dict [(.none, .list ds)], .int i => atI ds i
  | _, _ => none
theorem so_ix : SO (rIx K) ixP := fun x y z h S H vx vy al rx ry Q q => by
  cases rx with
  | lst ha ra =>
    cases ry with
    | int i =>
      obtain ⟨v, h1, h2⟩ := ra.at h
      exact .inl ⟨_, _, i, v, rfl, rfl, .inl (.inl (hid_le _ _ ha)), h1, q v H (Ex.refl H) h2⟩
    | _ => cases h
  | tup ha _ ra =>
    cases ry with
    | int i =>
      obtain ⟨v, h1, h2⟩ := ra.at h
      exact .inr (.inl ⟨_, _, i, v, rfl, rfl, .inl (.inr ⟨_, hid_le _ _ ha⟩), h1, q v H (Ex.refl H) h2⟩)
    | _ => cases h
  | scr hs ra =>
    cases ry with
    | int i =>
      obtain ⟨v, h1, h2⟩ := ra.at h
      exact .inl ⟨_, _, i, v, rfl, rfl, sqx hid_le hs, h1, q v H (Ex.refl H) h2⟩
    | _ => cases h
  | dct _ _ hp _ => rcases zip_str hp with e | ⟨k, d, r, e⟩ <;> (subst e; cases h)
  | _ => cases h
abbrev XO := VE → Option (Option Int)
def Eo (to : TO) (ρ : VE) (o : Option Int) : Prop := ∀ S σ H, Al S H → En (hid S H) σ ρ → ∀ Q : Option Int → Hp → Prop, (∀ H2, Ex H H2 → Q o H2) → to σ H Q
def SP (to : TO) (x : XO) : Prop := ∀ ρ o, x ρ = some o → Eo to ρ o
def xNoPart : XO := fun _ => some none
def xPart (a : XE) : XO := fun ρ => (a ρ).bind fun d => match d with
  | .int i => some (some i)
  | _ => none
theorem sp_none : SP tNoPart xNoPart := fun ρ o h S σ H al en Q q => by cases h; exact q H (Ex.refl H)
theorem sp_some {ta : TE} {a : XE} (ha : SE ta a) : SP (tPart ta) (xPart a) := fun ρ o h S σ H al en Q q => by
  obtain ⟨d, h1, h⟩ := bind_some h
  cases d with
  | int i =>
    cases h
    exact ha ρ _ h1 S σ H al en _ fun v H1 e1 rv => by cases rv; exact ⟨i, rfl, q H1 e1⟩
  | _ => cases h
def cutD (ds : List PD) (lo hi : Option Int) : List PD := (ds.drop (HT.sIx ds.length 0 lo)).take (HT.sIx ds.length ds.length hi - HT.sIx ds.length 0 lo)
def slP : PD → Option Int → Option Int → Option PD
  | .list ds, lo, hi => some (.list (cutD ds lo hi))
  | .tuple ds, lo, hi => some (.tuple (cutD ds lo hi))
  | .dict [(.none, .list ds)], lo, hi => some (.list (cutD ds lo hi))
  | _, _, _ => none
def rSlU (K : PySem.W.Frag) : V → Option Int → Option Int → Hp → VK → Prop := fun x lo hi H Q => rSlL K x lo hi H Q ∨ rSlF K x lo hi H Q
theorem sl_U {X : Cx} : SlR X (rSlU X.K) := SlR.or sl_list sl_tupF
def xSl (a : XE) (lo hi : XO) : XE := fun ρ => (a ρ).bind fun d => (lo ρ).bind fun l => (hi ρ).bind fun h => slP d l h
theorem RpAll.cut {H : Hp} {vs : List V} {ds : List PD} (r : RpAll H vs ds) (lo hi : Option Int) : RpAll H (cutV vs lo hi) (cutD ds lo hi) := by
  unfold cutV cutD
  rw [r.length]
  exact (r.drop _).take _
theorem se_sl {ta : TE} {tl th : TO} {a : XE} {lo hi : XO} (ha : SE ta a) (hl : SP tl lo) (hh : SP th hi) : SE (tSl (rSlU K) ta tl th) (xSl a lo hi) := fun ρ d h S σ H al en Q q => by
  obtain ⟨x, h1, h⟩ := bind_some h
  obtain ⟨l, h2, h⟩ := bind_some h
  obtain ⟨u, h3, h⟩ := bind_some h
  refine ha ρ x h1 S σ H al en _ fun v H1 e1 rv => hl ρ l h2 S σ H1 (al.ex e1) (en.ex (hid_ex e1)) _ fun H2 e2 => hh ρ u h3 S σ H2 ((al.ex e1).ex e2) ((en.ex (hid_ex e1)).ex (hid_ex e2)) _ fun H3 e3 => ?_
  have e23 := e2.trans e3
  have e13 := e1.trans e23
  have rv3 := rv.ex (hid_ex (S := S) e23)
  cases rv3 with
  | lst ha3 ra3 =>
    cases h
    exact .inl ⟨_, _, rfl, .inl (.inl (hid_le _ _ ha3)), fun p hp => q _ _ (e13.trans (Ex.new hp)) (.lst (new_ok (al.ex e13) hp) ((ra3.cut l u).ex (hid_ex (Ex.new hp))))⟩
  | @tup a o xs ds ha3 pl ra3 =>
    cases h
    refine .inr ⟨_, _, rfl, .inl (.inr ⟨_, hid_le _ _ ha3⟩), fun c => ?_, fun _ p o hp pl => q _ _ (e13.trans (Ex.new hp)) (.tup (new_ok (al.ex e13) hp) pl ((ra3.cut l u).ex (hid_ex (Ex.new hp))))⟩
    have e : cutD ds l u = ds := by
      unfold cutD
      rw [ra3.length] at c
      rw [c.1, c.2, List.drop_zero, Nat.sub_zero, List.take_length]
    exact q _ H3 e13 (by rw [e]; exact .tup ha3 pl ra3)
  | scr hs ra3 =>
    cases h
    exact .inl ⟨_, _, rfl, sqx hid_le hs, fun p hp => q _ _ (e13.trans (Ex.new hp)) (.lst (new_ok (al.ex e13) hp) ((ra3.cut l u).ex (hid_ex (Ex.new hp))))⟩
  | dct _ _ hp _ => rcases zip_str hp with e | ⟨k, d, r, e⟩ <;> (subst e; cases h)
  | _ => cases h
end
end Uv

namespace Uv
open PySem PySem.Spec PyProof.Rows L2
open Evl (Ex)
variable [kk : KK]
section
def on1 (f : PD → Option PD) : List PD → Option PD
  | [x] => f x
  | _ => none
theorem on1_eq {f : PD → Option PD} {xs : List PD} {z : PD} (h : on1 f xs = some z) : ∃ x, xs = [x] ∧ f x = some z := by
  match xs, h with
  | [x], h => exact ⟨x, rfl, h⟩
  | [], h => cases h
  | _ :: _ :: _, h => cases h
theorem sc_on1 {r : List V → Hp → VK → Prop} {f : PD → Option PD} (hf : ∀ x z, f x = some z → ∀ S H v, Al S H → Rp (hid S H) v x → ∀ Q : VK, (∀ v H2, Ex H H2 → Rp (hid S H2) v z → Q v H2) → r [v] H Q) : SC r (on1 f) := fun xs z h S H vs al rv Q q => by
  obtain ⟨x, rfl, h⟩ := on1_eq h
  cases rv with
  | cons h1 t => cases t; exact hf x z h S H _ al h1 Q q
def rLenQ (K : PySem.W.Frag) : List V → Hp → VK → Prop := fun xs H Q => ∃ p ys, xs = [.ref p] ∧ (SqL K H p ys ∨ SqT K H p ys) ∧ Q (.int ys.length) H
def lenP : PD → Option PD
  | .list ds => some (.int (ds.length : Nat))
  | .tuple ds => some (.int (ds.length : Nat))
  | .dict [(.none, .list ds)] => some (.int (ds.length : Nat))
  | _ => none
theorem sc_len : SC (rLenQ K) (on1 lenP) := sc_on1 fun x z h S H v al rv Q q => by
  cases rv with
  | lst ha ra => cases h; exact ⟨_, _, rfl, .inl (.inl (.inl (hid_le _ _ ha))), q _ H (Ex.refl H) (ra.length ▸ .int _)⟩
  | tup ha _ ra => cases h; exact ⟨_, _, rfl, .inr (.inl (.inr ⟨_, hid_le _ _ ha⟩)), q _ H (Ex.refl H) (ra.length ▸ .int _)⟩
  | scr hs ra => cases h; exact ⟨_, _, rfl, .inl (sqx hid_le hs), q _ H (Ex.refl H) (ra.length ▸ .int _)⟩
  | dct _ _ hp _ => rcases zip_str hp with e | ⟨k, d, r, e⟩ <;> (subst e; cases h)
  | _ => cases h
def absP : PD → Option PD
  | .int i => some (.int (if i < 0 then -i else i))
  | _ => none
theorem sc_abs : SC rAbsQ (on1 absP) := sc_on1 fun x z h S H v al rv Q q => by
  cases rv with
  | int i => cases h; exact ⟨i, rfl, q _ H (Ex.refl H) (.int _)⟩
  | _ => cases h
def toIntP : PD → Option PD
  | .int i => some (.int i)
  | .bool b => some (.int (if b then 1 else 0))
  | _ => none
theorem sc_int : SC rIntQ (on1 toIntP) := sc_on1 fun x z h S H v al rv Q q => by
  cases rv with
  | int i => cases h; exact .inl ⟨i, rfl, q _ H (Ex.refl H) (.int _)⟩
  | bl b => cases h; exact .inr ⟨b, rfl, q _ H (Ex.refl H) (.int _)⟩
  | _ => cases h
def intsP (f : List Int → Option PD) : PD → Option PD
  | .list ds => (unI ds).bind f
  | _ => none
def boolsP (f : List Bool → PD) : PD → Option PD
  | .list ds => (unB ds).bind fun bs => some (f bs)
  | _ => none
def allP : PD → Option PD := boolsP fun bs => .bool (bs.all id)
theorem sc_all : SC (rAll K) (on1 allP) := sc_on1 fun x z h S H v al rv Q q => by
  cases rv with
  | lst ha ra =>
    obtain ⟨ns, h1, h2⟩ := bind_some h
    have e := unB_eq h1
    subst e
    have e := ra.bools
    subst e
    cases h2
    exact ⟨_, ns, rfl, .inl (.inl (hid_le _ _ ha)), q _ H (Ex.refl H) (.bl _)⟩
  | _ => cases h
def mostI : Int → List Int → Int
  | x, [] => x
  | x, y :: ys => mostI (if y > x then y else x) ys
theorem mostI_mem : ∀ (ys : List Int) (x : Int), mostI x ys ∈ x :: ys
  | [], x => List.mem_cons_self ..
  | y :: ys, x => by
    have z := mostI_mem ys (if y > x then y else x)
    unfold mostI
    by_cases c : y > x
    · rw [if_pos c] at z ⊢
      exact List.mem_cons_of_mem _ z
    · rw [if_neg c] at z ⊢
      rcases List.mem_cons.mp z with e | e
      · rw [e]; exact List.mem_cons_self ..
      · exact List.mem_cons_of_mem _ (List.mem_cons_of_mem _ e)
theorem mostI_ge : ∀ (ys : List Int) (x : Int), ∀ y ∈ x :: ys, y ≤ mostI x ys
  | [], x, y, h => by
    have e : y = x := by simpa using h
    rw [e]
    exact Int.le_refl _
  | z :: ys, x, y, h => by
    unfold mostI
    have ih := mostI_ge ys (if z > x then z else x)
    have i0 := ih _ (List.mem_cons_self ..)
    rcases List.mem_cons.mp h with e | h
    · subst e
      refine Int.le_trans ?_ i0
      split <;> omega
    · rcases List.mem_cons.mp h with e | h
      · subst e
        refine Int.le_trans ?_ i0
        split <;> omega
      · exact ih y (List.mem_cons_of_mem _ h)
def maxL : List Int → Option PD
  | x :: xs => some (.int (mostI x xs))
  | [] => none
def maxP : List PD → Option PD
  | [.list ds] => (unI ds).bind maxL
  | [.int i, .int j] => some (.int (if j > i then j else i))
  | _ => none
def rMaxU (K : PySem.W.Frag) : List V → Hp → VK → Prop := fun xs H Q => rMax K xs H Q ∨ ∃ i j, xs = [.int i, .int j] ∧ Q (.int (if j > i then j else i)) H
theorem cr_maxU {X : Cx} (hc : X.calm = true) : CallR X (.builtin "max") (rMaxU X.K) := CallR.or (cr_max hc) (call_max2 hc)
theorem sc_max : SC (rMaxU K) maxP := fun xs z h S H vs al rv Q q => by
  unfold maxP at h
  split at h
  · cases rv with
    | cons h1 t =>
      cases t
      cases h1 with
      | lst ha ra =>
        obtain ⟨ns, h1, h2⟩ := bind_some h
        have e := unI_eq h1
        subst e
        have e := ra.ints
        subst e
        cases ns with
        | nil => cases h2
        | cons n ns =>
          cases h2
          refine .inl ⟨_, n :: ns, rfl, .inl (.inl (hid_le _ _ ha)), Nat.succ_pos _, fun m m1 m2 => ?_⟩
          have e : m = mostI n ns := Int.le_antisymm (mostI_ge ns n m m1) (m2 _ (mostI_mem ns n))
          rw [e]
          exact q _ H (Ex.refl H) (.int _)
  · cases rv with
    | cons h1 t =>
      cases t with
      | cons h2 t =>
        cases t
        cases h1; cases h2; cases h
        exact .inr ⟨_, _, rfl, q _ H (Ex.refl H) (.int _)⟩
  · cases h
def tupP : PD → Option PD
  | .list ds => some (.tuple ds)
  | .tuple ds => some (.tuple ds)
  | _ => none
theorem sc_tup : SC (rTupF K) (on1 tupP) := sc_on1 fun x z h S H v al rv Q q => by
  cases rv with
  | lst ha ra => cases h; exact ⟨_, _, rfl, .inl ⟨.inl (.inl (hid_le _ _ ha)), fun l o hl pl => q _ _ (Ex.new hl) (.tup (new_ok al hl) pl (ra.ex (hid_ex (Ex.new hl))))⟩⟩
  | tup ha p ra => cases h; exact ⟨_, _, rfl, .inr ⟨.inl (.inr ⟨_, hid_le _ _ ha⟩), q _ H (Ex.refl H) (.tup ha p ra)⟩⟩
  | _ => cases h
def rListQ (K : PySem.W.Frag) : List V → Hp → VK → Prop := fun xs H Q => ∃ p ys, xs = [.ref p] ∧ (SqL K H p ys ∨ SqT K H p ys) ∧ ∀ l, H l = none → Q (.ref l) (upd H l (.lst ys))
def listP : PD → Option PD
  | .list ds => some (.list ds)
  | .tuple ds => some (.list ds)
  | _ => none
def tyN : PD → String
  | .none => "NoneType"
  | .bool _ => "bool"
  | .int _ => "int"
  | .str _ => "str"
  | .list _ => "list"
  | .tuple _ => "tuple"
  | .dict _ => "dict"
def full : PD → Bool
  | .dict ((.none, _) :: _) => true
  | _ => false
theorem Rp.ty {H : Hp} {v : V} {d : PD} (r : Rp H v d) (nf : full d = false) : TyX K H v (.type (tyN d)) := by
  cases r with
  | non => exact .base .non
  | bl b => exact .base (.bl b)
  | int i => exact .base (.int i)
  | str x => exact .base (.str x)
  | lst h _ => exact .base (.lst h)
  | tup h _ _ => exact .fTuple h
  | dct h _ _ _ => exact .base (.dK h)
  | dci h _ _ => exact .base (.dK h)
  | scr _ _ => cases nf
  | exo _ _ _ _ => cases nf
  | «fun» _ => cases nf
  | hal _ _ _ _ _ => cases nf
inductive Ty | int | bool | str | list | tuple | dict
def Ty.nm : Ty → String
  | .int => "int" | .bool => "bool" | .str => "str" | .list => "list" | .tuple => "tuple" | .dict => "dict"
def isTy : Ty → PD → Bool
  | .int, .int _ => true
  | .int, .bool _ => true
  | .bool, .bool _ => true
  | .str, .str _ => true
  | .list, .list _ => true
  | .tuple, .tuple _ => true
  | .dict, .dict _ => true
  | _, _ => false
theorem kit_c : ∀ t : Ty, kitB "NoneType" t.nm = some (isTy t .none) ∧ kitB "bool" t.nm = some (isTy t (.bool true)) ∧ kitB "int" t.nm = some (isTy t (.int 0)) ∧ kitB "str" t.nm = some (isTy t (.str (Str.ofString ""))) ∧ kitB "list" t.nm = some (isTy t (.list [])) ∧ kitB "tuple" t.nm = some (isTy t (.tuple [])) ∧ kitB "dict" t.nm = some (isTy t (.dict [])) := by
  intro t
  cases t <;> decide +kernel
theorem kit_of : ∀ (t : Ty) (d : PD), kitB (tyN d) t.nm = some (isTy t d) := by
  intro t d
  obtain ⟨h1, h2, h3, h4, h5, h6, h7⟩ := kit_c t
  cases d with
  | none => exact h1
  | bool b => exact h2.trans (by cases t <;> rfl)
  | int i => exact h3.trans (by cases t <;> rfl)
  | str x => exact h4.trans (by cases t <;> rfl)
  | list xs => exact h5.trans (by cases t <;> rfl)
  | tuple xs => exact h6.trans (by cases t <;> rfl)
  | dict xs => exact h7.trans (by cases t <;> rfl)
def xIsi (t : Ty) (a : XE) : XE := fun ρ => (a ρ).bind fun d => if full d = true then none else some (.bool (isTy t d))
theorem se_isi {ta : TE} {a : XE} {n : String} (t : Ty) (hn : t.nm = n) (ha : SE ta a) : SE (tCB (rIsi K) (tCons ta (tCons (tC (.ty n)) tNil))) (xIsi t a) := fun ρ d h S σ H al en Q q => by
  obtain ⟨x, h1, h⟩ := bind_some h
  have nf : full x = false := by
    cases q : full x with
    | true => rw [if_pos q] at h; cases h
    | false => rfl
  rw [if_neg (by rw [nf]; exact Bool.false_ne_true)] at h
  cases h
  subst hn
  exact ha ρ x h1 S σ H al en _ fun v H1 e1 rv => ⟨_, .ty t.nm, _, .type t.nm, isTy t x, rfl, .ty t.nm, (rv.ex hid_le).ty nf, kit_ty (kit_of t x), q _ H1 e1 (.bl _)⟩
def rRepr (K : PySem.W.Frag) : List V → Hp → VK → Prop := fun vs H Q => ∃ v d, vs = [v] ∧ Rp H v d ∧ d.showable = true ∧ scrF d = true ∧ d.depth ≤ 60 ∧ d.shown.length ≤ sizeLine ∧ Q (.str d.shown) H
theorem cr_repr {X : Cx} (hg : X.A.guards = some []) (hu : X.A.units + 65 < cLine) : CallR X (.builtin "repr") (rRepr X.K) := by
  intro pins s σ H vs us Q I r h
  obtain ⟨v, d, rfl, hd, sh, nd, dp, sz, q⟩ := h
  obtain ⟨u, rfl, ru⟩ : ∃ u, us = [u] ∧ RelV v u := by
    cases r with
    | cons p t => cases t; exact ⟨_, rfl, p⟩
  have rd := Rp.rm I hd nd ru
  have fin : ∀ h' tk t, (∀ b o, s.heap.get? b = some o → h'.get? b = some o) → ∃ v H', L2.Inv X pins σ H' { s with heap := h', toks := tk } ∧ RelV v (.str d.shown t) ∧ Q v H' := fun h' tk t hk => ⟨.str _, H, I.kept hk, ⟨_, rfl⟩, q⟩
  cases rd with
  | non => exact P.repr_of_none (fin s.heap _ _ fun _ _ e => e)
  | bl b => exact P.repr_of_bool (by cases b <;> exact fin s.heap _ _ fun _ _ e => e)
  | int i t => exact P.repr_of_int (by simpa [PyData.showable] using sh) (fin s.heap _ _ fun _ _ e => e)
  | str x t => exact P.repr_of_str (fin s.heap _ _ fun _ _ e => e) sz
  | lst h1 h2 h3 h4 => exact Rm.repr (.lst h1 h2 h3 h4) sh hg (by omega) (fun h' u tk hk => fin h' tk u hk) sz
  | tup h1 h2 h3 h4 => exact Rm.repr (.tup h1 h2 h3 h4) sh hg (by omega) (fun h' u tk hk => fin h' tk u hk) sz
  | dct h1 h2 h3 h4 h5 h6 => exact Rm.repr (.dct h1 h2 h3 h4 h5 h6) sh hg (by omega) (fun h' u tk hk => fin h' tk u hk) sz
def CanShow (d : PD) : Prop := d.showable = true ∧ scrF d = true ∧ d.depth ≤ 60 ∧ d.shown.length ≤ sizeLine
instance {d : PD} : Decidable (CanShow d) := inferInstanceAs (Decidable (_ ∧ _))
def reprP (d : PD) : Option PD := if CanShow d then some (.str d.shown) else none
theorem sc_repr : SC (rRepr K) (on1 reprP) := sc_on1 fun x z h S H v al rv Q q => by
  unfold reprP at h
  by_cases c : CanShow x
  · rw [if_pos c] at h
    cases h
    exact ⟨v, x, rfl, rv.ex hid_le, c.1, c.2.1, c.2.2.1, c.2.2.2, q _ H (Ex.refl H) (.str _)⟩
  · rw [if_neg c] at h; cases h
def idxP (x y : PD) : Option PD := match x, y with
  | .tuple ds, .int m => (unI ds).bind fun ns => if m ∈ ns then some (.int (ns.idxOf m : Nat)) else none
  | .list ds, y => if SeqAt.shaped (.list ds) = true ∧ SeqAt.shaped y = true then match ds.findIdx? fun z => PyData.eqv z y with
    | some j => some (.int (j : Nat))
    | none => none
    else none
  | _, _ => none
def tIdx (K : PySem.W.Frag) (to : TE) (t : TA) : TE := fun σ H Q => tBMF (rIndexF K) to t σ H Q ∨ tBM K "list" (rIndexD K) to t σ H Q
def xIdx (a b : XE) : XE := xOp idxP a b
theorem se_idx {ta tb : TE} {a b : XE} (ha : SE ta a) (hb : SE tb b) : SE (tIdx K ta (tCons tb tNil)) (xIdx a b) := fun ρ d h S σ H al en Q q => by
  obtain ⟨x, h1, h⟩ := bind_some h
  obtain ⟨y, h2, h⟩ := bind_some h
  cases x with
  | tuple ds =>
    cases y with
    | int m =>
      obtain ⟨ns, h3, h4⟩ := bind_some h
      have e := unI_eq h3
      subst e
      by_cases c : m ∈ ns
      · rw [if_pos c] at h4
        cases h4
        refine .inl (ha ρ _ h1 S σ H al en _ fun v H1 e1 rv => ?_)
        generalize ed : PyData.tuple (ns.map PyData.int) = dd at rv
        cases rv with
        | tup hx pl ra =>
          cases ed
          refine ⟨⟨_, _, _, rfl, hid_le _ _ hx, pl⟩, hb ρ _ h2 S σ H1 (al.ex e1) (en.ex (hid_ex e1)) _ fun w H2 e2 rw' => ?_⟩
          cases rw'
          have e := ra.ints
          subst e
          exact ⟨_, ns, m, rfl, rfl, .inl (.inr ⟨_, hid_le _ _ (hid_ex e2 _ _ hx)⟩), c, q _ H2 (e1.trans e2) (.int _)⟩
        | _ => cases ed
      · rw [if_neg c] at h4; cases h4
    | _ => cases h
  | list ds =>
    have h : (if SeqAt.shaped (.list ds) = true ∧ SeqAt.shaped y = true then match ds.findIdx? fun z => PyData.eqv z y with
      | some j => some (PyData.int (j : Nat))
      | none => none
      else none) = some d := by cases y <;> exact h
    by_cases c : SeqAt.shaped (.list ds) = true ∧ SeqAt.shaped y = true
    · rw [if_pos c] at h
      cases hj : ds.findIdx? fun z => PyData.eqv z y with
      | none => rw [hj] at h; cases h
      | some j =>
        rw [hj] at h
        cases h
        obtain ⟨hlt, hy, hn⟩ := List.findIdx?_eq_some_iff_getElem.mp hj
        refine .inr (ha ρ _ h1 S σ H al en _ fun v H1 e1 rv => ?_)
        cases rv with
        | lst hx ra =>
          refine ⟨.inl ⟨rfl, _, .inl (.inl (hid_le _ _ hx))⟩, hb ρ _ h2 S σ H1 (al.ex e1) (en.ex (hid_ex e1)) _ fun w H2 e2 rw' => ?_⟩
          have hx2 := hid_ex (S := S) e2 _ _ hx
          refine ⟨_, w, y, ds, j, ds[j], rfl, rfl, ((Rp.lst hx2 (ra.ex (hid_ex e2))).ex hid_le).dp (nodict c.1), (rw'.ex hid_le).dp (nodict c.2), c.1, c.2, List.getElem?_eq_getElem hlt, hy, fun m z' hm hz => ?_, q _ H2 (e1.trans e2) (.int _)⟩
          obtain ⟨hm2, ez⟩ := List.getElem?_eq_some_iff.mp hz
          have hz2 := hn m hm
          subst ez
          simpa using hz2
    · rw [if_neg c] at h; cases h
  | _ => cases h
end
end Uv

namespace Uv
open PySem PySem.Spec PyProof.Rows L2
open Evl (Ex)
variable [kk : KK]
structure HS where
  ws : List PD
  st : List PD
  bz : Bool
  lg : List PD
def HS.pd (h : HS) : PD := hallD h.ws h.st h.bz h.lg
inductive Cel | dat (d : PD) | sub (ds : List PD) | hal (h : HS)
def Cel.pd : Cel → PD
  | .dat d => d
  | .sub ds => .list ds
  | .hal h => h.pd
inductive Sl | un | dat (d : PD) | own (cs : List Cel) | dic (kvs : List (Int × PD)) | hal (k : Nat) (h : HS)
abbrev Pn := Nat → Option V
def pn0 : Pn := fun _ => none
def pn1 (v : V) : Pn := fun i => if i = 0 then some v else none
abbrev Env := List Sl
def Sl.vw : Sl → Option PD
  | .un => none
  | .dat d => some d
  | .own cs => some (.list (cs.map Cel.pd))
  | .dic _ => none
  | .hal _ h => some h.pd
def Sl.mk : Sl → Option PD
  | .dat d => some d
  | _ => none
def vw (ρ : Env) : VE := ρ.map Sl.vw
def mk (ρ : Env) : VE := ρ.map Sl.mk
abbrev Trs := Nat → List Addr
def SF (F : Hs) (T : Trs) : Hs := fun x => F x ∨ ∃ i, x ∈ T i
def FL (F : Hs) (L : List Addr) : Hs := fun x => F x ∨ x ∈ L
def Hal (G H : Hp) (v : V) (h : HS) (A : List Addr) : Prop := ∃ (a dx l : Addr) (w s : V) (lv : List V), v = .ref a ∧ H a = some (.ins kk.hall dx (hallF w s h.bz l)) ∧ H dx = some (.own a) ∧ H l = some (.lst lv) ∧ Rp G w (.tuple h.ws) ∧ Rp G s (.tuple h.st) ∧ RpAll G lv h.lg ∧ A = [a, dx, l]
theorem Hal.mv {G G' H H' : Hp} (e : Ex G G') {v : V} {h : HS} {A : List Addr} (k : ∀ x ∈ A, H' x = H x) (o : Hal G H v h A) : Hal G' H' v h A := by
  obtain ⟨a, dx, l, w, s, lv, rfl, h1, h2, h3, h4, h5, h6, rfl⟩ := o
  exact ⟨a, dx, l, w, s, lv, rfl, (k a (by simp)).trans h1, (k dx (by simp)).trans h2, (k l (by simp)).trans h3, h4.ex e, h5.ex e, h6.ex e, rfl⟩
theorem Hal.nfz {G H : Hp} {v : V} {h : HS} {A : List Addr} (o : Hal G H v h A) : ∀ x ∈ A, ∃ ob, H x = some ob ∧ ∀ o u, ob ≠ .frz o u := fun x hx => by
  obtain ⟨a, dx, l, w, s, lv, rfl, h1, h2, h3, h4, h5, h6, rfl⟩ := o
  simp only [List.mem_cons, List.not_mem_nil, or_false] at hx
  rcases hx with rfl | rfl | rfl
  · exact ⟨_, h1, fun o u z => nomatch z⟩
  · exact ⟨_, h2, fun o u z => nomatch z⟩
  · exact ⟨_, h3, fun o u z => nomatch z⟩
theorem Hal.rp {G G' H : Hp} (e : Ex G G') {v : V} {h : HS} {A : List Addr} (hs : ∀ x ∈ A, G' x = H x) (o : Hal G H v h A) : Rp G' v h.pd := by
  obtain ⟨a, dx, l, w, s, lv, rfl, h1, h2, h3, h4, h5, h6, rfl⟩ := o
  exact .hal ((hs a (by simp)).trans h1) ((hs l (by simp)).trans h3) (h4.ex e) (h5.ex e) (h6.ex e)
def LO : HO → Prop
  | .lst _ => True
  | .ins _ _ _ => True
  | .own _ => True
  | _ => False
theorem Hal.lo {G H : Hp} {v : V} {h : HS} {A : List Addr} (o : Hal G H v h A) : ∀ x ∈ A, ∃ ob, H x = some ob ∧ LO ob := fun x hx => by
  obtain ⟨a, dx, l, w, s, lv, rfl, h1, h2, h3, h4, h5, h6, rfl⟩ := o
  simp only [List.mem_cons, List.not_mem_nil, or_false] at hx
  rcases hx with rfl | rfl | rfl
  · exact ⟨_, h1, trivial⟩
  · exact ⟨_, h2, trivial⟩
  · exact ⟨_, h3, trivial⟩
inductive Cels (G H : Hp) : List V → List Cel → List Addr → Prop
  | nil : Cels G H [] [] []
  | dat {v : V} {d : PD} {vs : List V} {cs : List Cel} {B : List Addr} : Rp G v d → Cels G H vs cs B → Cels G H (v :: vs) (.dat d :: cs) B
  | sub {b : Addr} {ws : List V} {ds : List PD} {vs : List V} {cs : List Cel} {B : List Addr} : H b = some (.lst ws) → RpAll G ws ds → Cels G H vs cs B → Cels G H (.ref b :: vs) (.sub ds :: cs) (b :: B)
  | hal {h : HS} {A : List Addr} {v : V} {vs : List V} {cs : List Cel} {B : List Addr} : Hal G H v h A → Cels G H vs cs B → Cels G H (v :: vs) (.hal h :: cs) (A ++ B)
def Own (G H : Hp) (v : V) (cs : List Cel) (A : List Addr) : Prop := ∃ a vs B, v = .ref a ∧ H a = some (.lst vs) ∧ Cels G H vs cs B ∧ A = a :: B
inductive Kvs (G : Hp) : List (Key × V) → List (Int × PD) → Prop
  | nil : Kvs G [] []
  | cons {k : Int} {v : V} {d : PD} {ks : List (Key × V)} {l : List (Int × PD)} : Rp G v d → Kvs G ks l → Kvs G ((.inl k, v) :: ks) ((k, d) :: l)
theorem Kvs.ex {G G' : Hp} (e : Ex G G') : ∀ {ks : List (Key × V)} {l : List (Int × PD)}, Kvs G ks l → Kvs G' ks l
  | _, _, .nil => .nil
  | _, _, .cons r c => .cons (r.ex e) (c.ex e)
def Dc (G H : Hp) (v : V) (l : List (Int × PD)) (A : List Addr) : Prop := ∃ a ks, v = .ref a ∧ H a = some (.dK ks) ∧ Kvs G ks l ∧ A = [a]
theorem Dc.mv {G G' H H' : Hp} (e : Ex G G') {v : V} {l : List (Int × PD)} {A : List Addr} (h : ∀ x ∈ A, H' x = H x) (o : Dc G H v l A) : Dc G' H' v l A := by
  obtain ⟨a, ks, rfl, ha, c, rfl⟩ := o
  exact ⟨a, ks, rfl, (h a (List.mem_cons_self ..)).trans ha, c.ex e, rfl⟩
def SlOk (pn : Pn) (G H : Hp) (o : Option V) (s : Sl) (A : List Addr) : Prop := match s with
  | .un => A = []
  | .dat d => A = [] ∧ ∃ v, o = some v ∧ Rp G v d
  | .own cs => ∃ v, o = some v ∧ Own G H v cs A
  | .dic l => ∃ v, o = some v ∧ Dc G H v l A
  | .hal k h => ∃ v, o = some v ∧ Hal G H v h A ∧ ∀ v0, pn k = some v0 → k < 1000 → v = v0
structure StOk (pn : Pn) (F : Hs) (T : Trs) (H : Hp) (σ : L2.St) (ρ : Env) : Prop where
  len : σ.length = ρ.length
  al : Al F H
  off : ∀ i x, x ∈ T i → ¬ F x
  dis : ∀ i j x, x ∈ T i → x ∈ T j → i = j
  nd : ∀ i, (T i).Nodup
  out : ∀ i, ρ.length ≤ i → T i = []
  sl : ∀ i s, ρ[i]? = some s → ∃ o, σ[i]? = some o ∧ SlOk pn (hid (SF F T) H) H o s (T i)
  pin : ∀ v, pn 0 = some v → σ[0]? = some (some v)
structure Stp (F : Hs) (T : Trs) (H : Hp) (T' : Trs) (H' : Hp) : Prop where
  fr : ∀ x, F x → H' x = H x
  vis : Ex (hid (SF F T) H) (hid (SF F T') H')
section
variable {pn : Pn} {F : Hs} {T T' T'' : Trs} {G G' H H' H'' : Hp} {σ : L2.St} {ρ : Env}
theorem Stp.refl : Stp F T H T H := ⟨fun _ _ => rfl, Ex.refl _⟩
theorem Stp.trans (a : Stp F T H T' H') (b : Stp F T' H' T'' H'') : Stp F T H T'' H'' := ⟨fun x h => (b.fr x h).trans (a.fr x h), a.vis.trans b.vis⟩
theorem Stp.ex (al : Al F H) (e : Ex H H') : Stp F T H T H' := ⟨fun x h => by
  cases q : H x with
  | none => exact absurd q (al x h)
  | some o => exact e x o q, hid_ex e⟩
theorem Cels.mv (e : Ex G G') : ∀ {vs : List V} {cs : List Cel} {B : List Addr}, (∀ x ∈ B, H' x = H x) → Cels G H vs cs B → Cels G' H' vs cs B
  | _, _, _, _, .nil => .nil
  | _, _, _, h, .dat r c => .dat (r.ex e) (Cels.mv e h c)
  | _, _, _, h, .sub hb r c => .sub ((h _ (List.mem_cons_self ..)).trans hb) (r.ex e) (Cels.mv e (fun x hx => h x (List.mem_cons_of_mem _ hx)) c)
  | _, _, _, h, .hal o c => .hal (o.mv e fun x hx => h x (List.mem_append_left _ hx)) (Cels.mv e (fun x hx => h x (List.mem_append_right _ hx)) c)
theorem Own.mv (e : Ex G G') {v : V} {cs : List Cel} {A : List Addr} (h : ∀ x ∈ A, H' x = H x) (o : Own G H v cs A) : Own G' H' v cs A := by
  obtain ⟨a, vs, B, rfl, ha, c, rfl⟩ := o
  exact ⟨a, vs, B, rfl, (h a (List.mem_cons_self ..)).trans ha, c.mv e fun x hx => h x (List.mem_cons_of_mem _ hx), rfl⟩
theorem SlOk.mv (e : Ex G G') {o : Option V} {s : Sl} {A : List Addr} (h : ∀ x ∈ A, H' x = H x) (q : SlOk pn G H o s A) : SlOk pn G' H' o s A := by
  cases s with
  | un => exact q
  | dat d => obtain ⟨z, v, e1, r⟩ := q; exact ⟨z, v, e1, r.ex e⟩
  | own cs => obtain ⟨v, e1, r⟩ := q; exact ⟨v, e1, r.mv e h⟩
  | dic l => obtain ⟨v, e1, r⟩ := q; exact ⟨v, e1, r.mv e h⟩
  | hal k l => obtain ⟨v, e1, r, p⟩ := q; exact ⟨v, e1, r.mv e h, p⟩
theorem Cels.lst : ∀ {vs : List V} {cs : List Cel} {B : List Addr}, Cels G H vs cs B → ∀ x ∈ B, ∃ ob, H x = some ob ∧ LO ob
  | _, _, _, .nil, x, h => nomatch h
  | _, _, _, .dat _ c, x, h => c.lst x h
  | _, _, _, .sub hb _ c, x, h => by
    rcases List.mem_cons.mp h with z | z
    · subst z; exact ⟨_, hb, trivial⟩
    · exact c.lst x z
  | _, _, _, .hal o c, x, h => by
    rcases List.mem_append.mp h with z | z
    · exact o.lo x z
    · exact c.lst x z
theorem Own.lst {v : V} {cs : List Cel} {A : List Addr} (o : Own G H v cs A) : ∀ x ∈ A, ∃ ob, H x = some ob ∧ LO ob := fun x h => by
  obtain ⟨a, vs, B, rfl, ha, c, rfl⟩ := o
  rcases List.mem_cons.mp h with z | z
  · subst z; exact ⟨_, ha, trivial⟩
  · exact c.lst x z
theorem Cels.length : ∀ {vs : List V} {cs : List Cel} {B : List Addr}, Cels G H vs cs B → vs.length = cs.length
  | _, _, _, .nil => rfl
  | _, _, _, .dat _ c => by rw [List.length_cons, List.length_cons, c.length]
  | _, _, _, .sub _ _ c => by rw [List.length_cons, List.length_cons, c.length]
  | _, _, _, .hal _ c => by rw [List.length_cons, List.length_cons, c.length]
theorem Cels.rp (e : Ex G G') (hs : ∀ x ∈ B, G' x = H x) : ∀ {vs : List V} {cs : List Cel}, Cels G H vs cs B → RpAll G' vs (cs.map Cel.pd)
  | _, _, .nil => .nil
  | _, _, .dat r c => .cons (r.ex e) (c.rp e hs)
  | _, _, .sub hb r c => .cons (.lst ((hs _ (List.mem_cons_self ..)).trans hb) (r.ex e)) (c.rp e fun x hx => hs x (List.mem_cons_of_mem _ hx))
  | _, _, .hal o c => .cons (o.rp e fun x hx => hs x (List.mem_append_left _ hx)) (c.rp e fun x hx => hs x (List.mem_append_right _ hx))
theorem Own.rp (e : Ex G G') {v : V} {cs : List Cel} {A : List Addr} (hs : ∀ x ∈ A, G' x = H x) (o : Own G H v cs A) : Rp G' v (.list (cs.map Cel.pd)) := by
  obtain ⟨a, vs, B, rfl, ha, c, rfl⟩ := o
  exact .lst ((hs a (List.mem_cons_self ..)).trans ha) (c.rp e fun x hx => hs x (List.mem_cons_of_mem _ hx))
theorem StOk.lst (st : StOk pn F T H σ ρ) {i : Nat} {x : Addr} (h : x ∈ T i) : ∃ ob, H x = some ob ∧ ∀ o u, ob ≠ .frz o u := by
  by_cases c : i < ρ.length
  · obtain ⟨o, _, q⟩ := st.sl i _ (List.getElem?_eq_getElem c)
    cases e : ρ[i] with
    | un => rw [e] at q; rw [show T i = [] from q] at h; cases h
    | dat d => rw [e] at q; rw [q.1] at h; cases h
    | own cs => rw [e] at q; obtain ⟨v, _, q⟩ := q; obtain ⟨ob, g, lo⟩ := q.lst x h; exact ⟨_, g, fun o u z => by rw [z] at lo; exact lo⟩
    | dic l =>
      rw [e] at q
      obtain ⟨v, _, a, ks, _, ha, _, hA⟩ := q
      rw [hA] at h
      have : x = a := by simpa using h
      rw [this]
      exact ⟨_, ha, fun o u z => nomatch z⟩
    | hal k l => rw [e] at q; obtain ⟨v, _, q, _⟩ := q; exact q.nfz x h
  · rw [st.out i (by omega)] at h; cases h
theorem StOk.als (st : StOk pn F T H σ ρ) : Al (SF F T) H := fun x h z => h.elim (fun h => st.al x h z) fun ⟨i, h⟩ => by
  obtain ⟨vs, e, _⟩ := st.lst h
  rw [z] at e
  cases e
theorem StOk.mv (st : StOk pn F T H σ ρ) (e : Ex (hid (SF F T) H) (hid (SF F T) H')) (h : ∀ i x, x ∈ T i → H' x = H x) (al : Al F H') : StOk pn F T H' σ ρ :=
  ⟨st.len, al, st.off, st.dis, st.nd, st.out, fun i s hi => let ⟨o, h1, h2⟩ := st.sl i s hi; ⟨o, h1, h2.mv e (h i)⟩, st.pin⟩
theorem StOk.ex (st : StOk pn F T H σ ρ) (e : Ex H H') : StOk pn F T H' σ ρ := st.mv (hid_ex e) (fun i x hx => by
  obtain ⟨vs, q, _⟩ := st.lst hx
  rw [q, e x _ q]) (st.al.ex e)
theorem StOk.vw (st : StOk pn F T H σ ρ) : En (hid F H) σ (vw ρ) := by
  refine ⟨by rw [st.len]; unfold Uv.vw; rw [List.length_map], fun i d hi => ?_⟩
  unfold Uv.vw at hi
  rw [List.getElem?_map] at hi
  cases q : ρ[i]? with
  | none => rw [q] at hi; cases hi
  | some s =>
    rw [q] at hi
    have hi : s.vw = some d := Option.some.inj hi
    obtain ⟨o, h1, h2⟩ := st.sl i s q
    cases s with
    | un => cases hi
    | dat d' =>
      cases hi
      obtain ⟨_, v, rfl, r⟩ := h2
      exact ⟨v, h1, r.ex (hid_sub fun x h => .inl h)⟩
    | own cs =>
      cases hi
      obtain ⟨v, rfl, r⟩ := h2
      exact ⟨v, h1, r.rp (hid_sub fun x h => .inl h) fun x hx => hid_out (st.off i x hx)⟩
    | dic l => cases hi
    | hal k l =>
      cases hi
      obtain ⟨v, rfl, r, _⟩ := h2
      exact ⟨v, h1, r.rp (hid_sub fun x h => .inl h) fun x hx => hid_out (st.off i x hx)⟩
theorem StOk.mkd (st : StOk pn F T H σ ρ) : En (hid (SF F T) H) σ (Uv.mk ρ) := by
  refine ⟨by rw [st.len]; unfold Uv.mk; rw [List.length_map], fun i d hi => ?_⟩
  unfold Uv.mk at hi
  rw [List.getElem?_map] at hi
  cases q : ρ[i]? with
  | none => rw [q] at hi; cases hi
  | some s =>
    rw [q] at hi
    have hi : s.mk = some d := Option.some.inj hi
    obtain ⟨o, h1, h2⟩ := st.sl i s q
    cases s with
    | dat d' =>
      cases hi
      obtain ⟨_, v, rfl, r⟩ := h2
      exact ⟨v, h1, r⟩
    | _ => cases hi
def setT (T : Trs) (i : Nat) (A : List Addr) : Trs := fun j => if j = i then A else T j
theorem setT_same {i : Nat} {A : List Addr} : setT T i A i = A := if_pos rfl
theorem setT_ne {i j : Nat} {A : List Addr} (h : j ≠ i) : setT T i A j = T j := if_neg h
theorem SF_setT_nil {i : Nat} : ∀ x, SF F (setT T i []) x → SF F T x := fun x h => h.elim .inl fun ⟨j, hj⟩ => .inr (by
  by_cases c : j = i
  · subst c; rw [setT_same] at hj; cases hj
  · rw [setT_ne c] at hj; exact ⟨j, hj⟩)
theorem StOk.drop (st : StOk pn F T H σ ρ) {i : Nat} {o : Option V} {s : Sl} (hi0 : i ≠ 0) (hs : SlOk pn (hid (SF F (setT T i [])) H) H o s []) : StOk pn F (setT T i []) H (σ.set i o) (ρ.set i s) ∧ Stp F T H (setT T i []) H := by
  have sub : Ex (hid (SF F T) H) (hid (SF F (setT T i [])) H) := hid_sub SF_setT_nil
  have mem : ∀ j x, x ∈ setT T i [] j → x ∈ T j ∧ j ≠ i := fun j x h => by
    by_cases c : j = i
    · subst c; rw [setT_same] at h; cases h
    · rw [setT_ne c] at h; exact ⟨h, c⟩
  refine ⟨⟨by rw [List.length_set, List.length_set]; exact st.len, st.al, fun j x h => st.off j x (mem j x h).1, fun j k x h h' => st.dis j k x (mem j x h).1 (mem k x h').1, fun j => ?_, fun j hj => ?_, fun j q hq => ?_, fun v hv => ?_⟩, ⟨fun _ _ => rfl, sub⟩⟩
  · by_cases c : j = i
    · subst c; rw [setT_same]; exact List.nodup_nil
    · rw [setT_ne c]; exact st.nd j
  · rw [List.length_set] at hj
    by_cases c : j = i
    · subst c; rw [setT_same]
    · rw [setT_ne c]; exact st.out j hj
  · by_cases c : i = j
    · subst c
      have hl : i < ρ.length := by
        have := (List.getElem?_eq_some_iff.mp hq).1
        simpa using this
      rw [List.getElem?_set_self hl] at hq
      cases hq
      rw [setT_same]
      exact ⟨o, List.getElem?_set_self (by rw [st.len]; exact hl), hs⟩
    · rw [List.getElem?_set_ne c] at hq
      obtain ⟨o', h1, h2⟩ := st.sl j q hq
      rw [List.getElem?_set_ne c, setT_ne (fun z => c z.symm)]
      exact ⟨o', h1, h2.mv sub fun _ _ => rfl⟩
  · rw [List.getElem?_set_ne hi0]
    exact st.pin v hv
theorem StOk.set (st : StOk pn F T H σ ρ) {i : Nat} (hi0 : i ≠ 0) {v : V} {d : PD} (r : Rp (hid (SF F T) H) v d) : StOk pn F (setT T i []) H (σ.set i (some v)) (ρ.set i (.dat d)) ∧ Stp F T H (setT T i []) H :=
  st.drop hi0 ⟨rfl, v, rfl, r.ex (hid_sub SF_setT_nil)⟩
theorem StOk.ownG {A : List Addr} (st : StOk pn (FL F A) T H σ ρ) {i : Nat} (hi0 : i ≠ 0) (hi : i < ρ.length) {v : V} {s0 : Sl} (o : ∀ G', Ex (hid (SF (FL F A) T) H) G' → SlOk pn G' H (some v) s0 A) (nd : A.Nodup) (off : ∀ x ∈ A, ¬ F x) :
    StOk pn F (setT T i A) H (σ.set i (some v)) (ρ.set i s0) ∧ Ex (hid (SF (FL F A) T) H) (hid (SF F (setT T i A)) H) := by
  have sub : Ex (hid (SF (FL F A) T) H) (hid (SF F (setT T i A)) H) := hid_sub fun x h => h.elim (fun h => .inl (.inl h)) fun ⟨j, hj⟩ => by
    by_cases c : j = i
    · subst c; rw [setT_same] at hj; exact .inl (.inr hj)
    · rw [setT_ne c] at hj; exact .inr ⟨j, hj⟩
  have mem : ∀ j x, x ∈ setT T i A j → (j = i ∧ x ∈ A) ∨ (j ≠ i ∧ x ∈ T j) := fun j x h => by
    by_cases c : j = i
    · subst c; rw [setT_same] at h; exact .inl ⟨rfl, h⟩
    · rw [setT_ne c] at h; exact .inr ⟨c, h⟩
  refine ⟨⟨by rw [List.length_set, List.length_set]; exact st.len, fun x h => st.al x (.inl h), fun j x h => ?_, fun j k x h h' => ?_, fun j => ?_, fun j hj => ?_, fun j q hq => ?_, fun v hv => ?_⟩, sub⟩
  · rcases mem j x h with ⟨_, h⟩ | ⟨_, h⟩
    · exact off x h
    · exact fun z => st.off j x h (.inl z)
  · rcases mem j x h with ⟨e, h⟩ | ⟨e, h⟩
    · rcases mem k x h' with ⟨e', h'⟩ | ⟨e', h'⟩
      · rw [e, e']
      · exact absurd (.inr h) (st.off k x h')
    · rcases mem k x h' with ⟨e', h'⟩ | ⟨e', h'⟩
      · exact absurd (.inr h') (st.off j x h)
      · exact st.dis j k x h h'
  · by_cases c : j = i
    · subst c; rw [setT_same]; exact nd
    · rw [setT_ne c]; exact st.nd j
  · rw [List.length_set] at hj
    rw [setT_ne (by omega)]
    exact st.out j hj
  · by_cases c : i = j
    · subst c
      rw [List.getElem?_set_self hi] at hq
      cases hq
      rw [setT_same]
      exact ⟨some v, List.getElem?_set_self (by rw [st.len]; exact hi), o _ sub⟩
    · rw [List.getElem?_set_ne c] at hq
      obtain ⟨o', h1, h2⟩ := st.sl j q hq
      rw [List.getElem?_set_ne c, setT_ne (fun z => c z.symm)]
      exact ⟨o', h1, h2.mv sub fun _ _ => rfl⟩
  · rw [List.getElem?_set_ne hi0]
    exact st.pin v hv
theorem StOk.own {A : List Addr} (st : StOk pn (FL F A) T H σ ρ) {i : Nat} (hi0 : i ≠ 0) (hi : i < ρ.length) {v : V} {cs : List Cel} (o : Own (hid (SF (FL F A) T) H) H v cs A) (nd : A.Nodup) (off : ∀ x ∈ A, ¬ F x) :
    StOk pn F (setT T i A) H (σ.set i (some v)) (ρ.set i (.own cs)) ∧ Ex (hid (SF (FL F A) T) H) (hid (SF F (setT T i A)) H) :=
  st.ownG hi0 hi (fun G' e => ⟨v, rfl, o.mv e fun _ _ => rfl⟩) nd off
theorem StOk.halN {A : List Addr} (st : StOk pn (FL F A) T H σ ρ) {i k : Nat} (hi0 : i ≠ 0) (hi : i < ρ.length) (hk : 1000 ≤ k) {v : V} {h : HS} (o : Hal (hid (SF (FL F A) T) H) H v h A) (nd : A.Nodup) (off : ∀ x ∈ A, ¬ F x) :
    StOk pn F (setT T i A) H (σ.set i (some v)) (ρ.set i (.hal k h)) ∧ Ex (hid (SF (FL F A) T) H) (hid (SF F (setT T i A)) H) :=
  st.ownG hi0 hi (fun G' e => ⟨v, rfl, o.mv e fun _ _ => rfl, fun v0 _ z => absurd z (by omega)⟩) nd off
theorem StOk.thaw {A : List Addr} (st : StOk pn (FL F A) T H σ ρ) : StOk pn F T H σ ρ ∧ Ex (hid (SF (FL F A) T) H) (hid (SF F T) H) := by
  have sub : Ex (hid (SF (FL F A) T) H) (hid (SF F T) H) := hid_sub fun x h => h.elim (fun h => .inl (.inl h)) .inr
  exact ⟨⟨st.len, fun x h => st.al x (.inl h), fun i x h z => st.off i x h (.inl z), st.dis, st.nd, st.out, fun i s hi => let ⟨o, h1, h2⟩ := st.sl i s hi; ⟨o, h1, h2.mv sub fun _ _ => rfl⟩, st.pin⟩, sub⟩
theorem StOk.write (st : StOk pn F T H σ ρ) {i : Nat} {cs cs' : List Cel} {a : Addr} {vs' : List V} {B : List Addr} (hi : ρ[i]? = some (.own cs)) (hT : T i = a :: B) (hσ : σ[i]? = some (some (.ref a))) (hc : Cels (hid (SF F T) H) H vs' cs' B) :
    StOk pn F T (upd H a (.lst vs')) σ (ρ.set i (.own cs')) ∧ Stp F T H T (upd H a (.lst vs')) := by
  have ha : a ∈ T i := by rw [hT]; exact List.mem_cons_self ..
  have hab : a ∉ B := by have := st.nd i; rw [hT] at this; exact (List.nodup_cons.mp this).1
  have hS : SF F T a := .inr ⟨i, ha⟩
  have vis : Ex (hid (SF F T) H) (hid (SF F T) (upd H a (.lst vs'))) := fun x o h => by
    obtain ⟨c, h⟩ := hid_some h
    rw [hid_out c, upd_ne (fun z => c (by rw [z]; exact hS))]
    exact h
  have ne : ∀ x, x ≠ a → upd H a (.lst vs') x = H x := fun x h => upd_ne h
  refine ⟨⟨by rw [List.length_set]; exact st.len, fun x h => ?_, st.off, st.dis, st.nd, fun j hj => st.out j (by rw [List.length_set] at hj; exact hj), fun j q hq => ?_, st.pin⟩, ⟨fun x h => ne x fun z => st.off i a ha (by rw [← z]; exact h), vis⟩⟩
  · rw [ne x fun z => st.off i a ha (by rw [← z]; exact h)]
    exact st.al x h
  · by_cases c : i = j
    · subst c
      have hl : i < ρ.length := by
        have := (List.getElem?_eq_some_iff.mp hq).1
        simpa using this
      rw [List.getElem?_set_self hl] at hq
      cases hq
      exact ⟨_, hσ, .ref a, rfl, a, vs', B, rfl, upd_same, hc.mv vis fun x hx => ne x fun z => hab (by rw [← z]; exact hx), hT⟩
    · rw [List.getElem?_set_ne c] at hq
      obtain ⟨o', h1, h2⟩ := st.sl j q hq
      exact ⟨o', h1, h2.mv vis fun x hx => ne x fun z => c (st.dis i j a ha (by rw [← z]; exact hx))⟩
theorem StOk.at_own (st : StOk pn F T H σ ρ) {i : Nat} {cs : List Cel} (hi : ρ[i]? = some (.own cs)) : ∃ a vs B, σ[i]? = some (some (.ref a)) ∧ H a = some (.lst vs) ∧ Cels (hid (SF F T) H) H vs cs B ∧ T i = a :: B := by
  obtain ⟨o, h1, v, rfl, a, vs, B, rfl, h2, h3, h4⟩ := st.sl i _ hi
  exact ⟨a, vs, B, h1, h2, h3, h4⟩
end
mutual
def flat : PD → Bool
  | .none => true
  | .bool _ => true
  | .int _ => true
  | .str _ => true
  | .tuple ds => flats ds
  | .list _ => false
  | .dict _ => false
def flats : List PD → Bool
  | [] => true
  | d :: ds => flat d && flats ds
end
mutual
theorem Rp.flat {G G' : Hp} (e : ∀ x o u, G x = some (.frz o u) → G' x = some (.frz o u)) : ∀ {v : V} {d : PD}, Rp G v d → flat d = true → Rp G' v d
  | _, _, .non, _ => .non
  | _, _, .bl b, _ => .bl b
  | _, _, .int i, _ => .int i
  | _, _, .str x, _ => .str x
  | _, _, .lst h r, f => by simp [Uv.flat] at f
  | _, _, .tup h p r, f => .tup (e _ _ _ h) p (RpAll.flat e r (by simpa [Uv.flat] using f))
  | _, _, .dct _ _ _ _, f => by simp [Uv.flat] at f
  | _, _, .dci _ _ _, f => by simp [Uv.flat] at f
  | _, _, .scr h r, f => by simp [Uv.flat] at f
  | _, _, .exo _ _ _ _, f => by simp [Uv.flat] at f
  | _, _, .«fun» _, f => by simp [Uv.flat] at f
  | _, _, .hal _ _ _ _ _, f => by simp [Uv.flat] at f
theorem RpAll.flat {G G' : Hp} (e : ∀ x o u, G x = some (.frz o u) → G' x = some (.frz o u)) : ∀ {vs : List V} {ds : List PD}, RpAll G vs ds → flats ds = true → RpAll G' vs ds
  | _, _, .nil, _ => .nil
  | _, _, .cons h r, f => by
    simp only [flats, Bool.and_eq_true] at f
    exact .cons (Rp.flat e h f.1) (RpAll.flat e r f.2)
end
theorem StOk.frz {pn : Pn} {F : Hs} {T : Trs} {H H' : Hp} {σ : L2.St} {ρ : Env} (st : StOk pn F T H σ ρ) (e : Ex H H') : ∀ x o u, hid F H' x = some (.frz o u) → hid (SF F T) H' x = some (.frz o u) := fun x o u h => by
  obtain ⟨c, h⟩ := hid_some h
  rw [hid_out]
  · exact h
  · rintro (z | ⟨i, z⟩)
    · exact c z
    · obtain ⟨vs, q, n⟩ := st.lst z
      rw [e x _ q] at h
      exact n _ _ (Option.some.inj h)
end Uv

namespace Uv
open PySem PySem.Spec PyProof.Rows L2
open Evl (Ex)
variable [kk : KK]
abbrev XW := Env → Option (PD × Env)
abbrev XWT := Env → Option (Bool × Env)
abbrev XWA := Env → Option (List PD × Env)
abbrev XWO := Env → Option (List Cel × Env)
def SW (te : TE) (w : XW) : Prop := ∀ pn F T H σ ρ d ρ', StOk pn F T H σ ρ → w ρ = some (d, ρ') → ∀ Q : VK, (∀ v T' H', StOk pn F T' H' σ ρ' → Stp F T H T' H' → Rp (hid (SF F T') H') v d → Q v H') → te σ H Q
def SWT (tt : TT) (w : XWT) : Prop := ∀ pn F T H σ ρ b ρ', StOk pn F T H σ ρ → w ρ = some (b, ρ') → ∀ Q : Bool → Hp → Prop, (∀ T' H', StOk pn F T' H' σ ρ' → Stp F T H T' H' → Q b H') → tt σ H Q
def SWA (ta : TA) (w : XWA) : Prop := ∀ pn F T H σ ρ ds ρ', StOk pn F T H σ ρ → w ρ = some (ds, ρ') → ∀ Q : List V → Hp → Prop, (∀ vs T' H', StOk pn F T' H' σ ρ' → Stp F T H T' H' → RpAll (hid (SF F T') H') vs ds → Q vs H') → ta σ H Q
def SWO (te : TE) (w : XWO) : Prop := ∀ pn F T H σ ρ cs ρ', StOk pn F T H σ ρ → w ρ = some (cs, ρ') → ∀ Q : VK, (∀ v A T' H', StOk pn (FL F A) T' H' σ ρ' → A.Nodup → (∀ x ∈ A, ¬ F x) → (∀ x, F x → H' x = H x) → Ex (hid (SF F T) H) (hid (SF (FL F A) T') H') → Own (hid (SF (FL F A) T') H') H' v cs A → Q v H') → te σ H Q
def wM (x : XE) : XW := fun ρ => (x (mk ρ)).bind fun d => some (d, ρ)
def wV (x : XE) : XW := fun ρ => (x (vw ρ)).bind fun d => if flat d = true then some (d, ρ) else none
def wMT (x : XT) : XWT := fun ρ => (x (mk ρ)).bind fun d => some (d, ρ)
def wVT (x : XT) : XWT := fun ρ => (x (vw ρ)).bind fun d => some (d, ρ)
def wNil : XWA := fun ρ => some ([], ρ)
def wCons (a : XW) (as : XWA) : XWA := fun ρ => (a ρ).bind fun x => (as x.2).bind fun xs => some (x.1 :: xs.1, xs.2)
def wOp (f : PD → PD → Option PD) (a b : XW) : XW := fun ρ => (a ρ).bind fun x => (b x.2).bind fun y => (f x.1 y.1).bind fun z => some (z, y.2)
def wTup (as : XWA) : XW := fun ρ => (as ρ).bind fun x => if x.1.length ≤ 100000 then some (.tuple x.1, x.2) else none
def wLst (as : XWA) : XW := fun ρ => (as ρ).bind fun x => if x.1.length ≤ 100000 then some (.list x.1, x.2) else none
def wCB (f : List PD → Option PD) (as : XWA) : XW := fun ρ => (as ρ).bind fun x => (f x.1).bind fun z => some (z, x.2)
def wB (a : XW) : XWT := fun ρ => (a ρ).bind fun x => (isB x.1).bind fun b => some (b, x.2)
def wTAnd (a b : XWT) : XWT := fun ρ => (a ρ).bind fun c => if c.1 = true then b c.2 else some (false, c.2)
def wTOr (a b : XWT) : XWT := fun ρ => (a ρ).bind fun c => if c.1 = true then some (true, c.2) else b c.2
def wTNot (a : XWT) : XWT := fun ρ => (a ρ).bind fun c => some (!c.1, c.2)
section
variable {ta tb te : TE} {t u : TT} {ts : TA} {a b w : XW} {p q : XWT} {as : XWA} {r : R2} {f : PD → PD → Option PD} {x : XE}
theorem sw_M (h : SE te x) : SW te (wM x) := fun pn F T H σ ρ d ρ' st e Q q => by
  obtain ⟨z, h1, h2⟩ := bind_some e
  cases h2
  exact h _ _ h1 (SF F T) σ H st.als st.mkd Q fun v H2 e2 rv => q v T H2 (st.ex e2) (Stp.ex st.al e2) rv
theorem sw_V (h : SE te x) : SW te (wV x) := fun pn F T H σ ρ d ρ' st e Q q => by
  obtain ⟨z, h1, h2⟩ := bind_some e
  by_cases c : flat z = true
  · rw [if_pos c] at h2
    cases h2
    exact h _ _ h1 F σ H st.al st.vw Q fun v H2 e2 rv => q v T H2 (st.ex e2) (Stp.ex st.al e2) (rv.flat (st.frz e2) c)
  · rw [if_neg c] at h2; cases h2
theorem swt_M {x : XT} (h : ST t x) : SWT t (wMT x) := fun pn F T H σ ρ d ρ' st e Q q => by
  obtain ⟨z, h1, h2⟩ := bind_some e
  cases h2
  exact h _ _ h1 (SF F T) σ H st.als st.mkd Q fun H2 e2 => q T H2 (st.ex e2) (Stp.ex st.al e2)
theorem swt_V {x : XT} (h : ST t x) : SWT t (wVT x) := fun pn F T H σ ρ d ρ' st e Q q => by
  obtain ⟨z, h1, h2⟩ := bind_some e
  cases h2
  exact h _ _ h1 F σ H st.al st.vw Q fun H2 e2 => q T H2 (st.ex e2) (Stp.ex st.al e2)
theorem swa_nil : SWA tNil wNil := fun pn F T H σ ρ d ρ' st e Q q => by cases e; exact q [] T H st Stp.refl .nil
theorem swa_cons (ha : SW ta a) (hs : SWA ts as) : SWA (tCons ta ts) (wCons a as) := fun pn F T H σ ρ d ρ' st e Q q => by
  obtain ⟨⟨x, ρ1⟩, h1, e⟩ := bind_some e
  obtain ⟨⟨xs, ρ2⟩, h2, e⟩ := bind_some e
  cases e
  exact ha pn F T H σ ρ x ρ1 st h1 _ fun v T1 H1 st1 s1 rv => hs pn F T1 H1 σ ρ1 xs ρ2 st1 h2 _ fun vs T2 H2 st2 s2 rs => q (v :: vs) T2 H2 st2 (s1.trans s2) (.cons (rv.ex s2.vis) rs)
theorem sw_op (hr : SO r f) (ha : SW ta a) (hb : SW tb b) : SW (tOp r ta tb) (wOp f a b) := fun pn F T H σ ρ d ρ' st e Q q => by
  obtain ⟨⟨x, ρ1⟩, h1, e⟩ := bind_some e
  obtain ⟨⟨y, ρ2⟩, h2, e⟩ := bind_some e
  obtain ⟨z, h3, e⟩ := bind_some e
  cases e
  exact ha pn F T H σ ρ x ρ1 st h1 _ fun v T1 H1 st1 s1 rv => hb pn F T1 H1 σ ρ1 y ρ2 st1 h2 _ fun w T2 H2 st2 s2 rw' =>
    hr x y d h3 (SF F T2) H2 v w st2.als (rv.ex s2.vis) rw' Q fun z H3 e3 rz => q z T2 H3 (st2.ex e3) ((s1.trans s2).trans (Stp.ex st2.al e3)) rz
theorem sw_tup (hs : SWA ts as) : SW (tTupF ts) (wTup as) := fun pn F T H σ ρ d ρ' st e Q q => by
  obtain ⟨⟨xs, ρ1⟩, h1, e⟩ := bind_some e
  by_cases hl : xs.length ≤ 100000
  · rw [if_pos hl] at e
    cases e
    exact hs pn F T H σ ρ xs _ st h1 _ fun vs T1 H1 st1 s1 rv => ⟨by rw [rv.length]; exact Evl.sz_of hl, fun p o hp pl => q _ T1 _ (st1.ex (Ex.new hp)) (s1.trans (Stp.ex st1.al (Ex.new hp))) (.tup (new_ok st1.als hp) pl (rv.ex (hid_ex (Ex.new hp))))⟩
  · rw [if_neg hl] at e; cases e
theorem sw_lst (hs : SWA ts as) : SW (tLst ts) (wLst as) := fun pn F T H σ ρ d ρ' st e Q q => by
  obtain ⟨⟨xs, ρ1⟩, h1, e⟩ := bind_some e
  by_cases hl : xs.length ≤ 100000
  · rw [if_pos hl] at e
    cases e
    exact hs pn F T H σ ρ xs _ st h1 _ fun vs T1 H1 st1 s1 rv => ⟨by rw [rv.length]; exact Evl.sz_of hl, fun p hp => q _ T1 _ (st1.ex (Ex.new hp)) (s1.trans (Stp.ex st1.al (Ex.new hp))) (.lst (new_ok st1.als hp) (rv.ex (hid_ex (Ex.new hp))))⟩
  · rw [if_neg hl] at e; cases e
theorem sw_cb {r : List V → Hp → VK → Prop} {f : List PD → Option PD} (hr : SC r f) (hs : SWA ts as) : SW (tCB r ts) (wCB f as) := fun pn F T H σ ρ d ρ' st e Q q => by
  obtain ⟨⟨xs, ρ1⟩, h1, e⟩ := bind_some e
  obtain ⟨z, h3, e⟩ := bind_some e
  cases e
  exact hs pn F T H σ ρ xs _ st h1 _ fun vs T1 H1 st1 s1 rv => hr xs d h3 (SF F T1) H1 vs st1.als rv Q fun z H3 e3 rz => q z T1 H3 (st1.ex e3) (s1.trans (Stp.ex st1.al e3)) rz
theorem wB_some {ρ ρ' : Env} {c : Bool} (h : wB a ρ = some (c, ρ')) : a ρ = some (.bool c, ρ') := by
  obtain ⟨⟨x, ρ1⟩, h1, e⟩ := bind_some h
  obtain ⟨b, h2, e⟩ := bind_some e
  have z := isB_eq h2
  cases e
  subst z
  exact h1
theorem swt_B (ha : SW ta a) : SWT (tB ta) (wB a) := fun pn F T H σ ρ c ρ' st e Q q =>
  ha pn F T H σ ρ _ ρ' st (wB_some e) _ fun v T1 H1 st1 s1 rv => by cases rv; exact ⟨c, rfl, q T1 H1 st1 s1⟩
theorem swt_test (ha : SW ta a) : SWT (tTest ta) (wB a) := fun pn F T H σ ρ c ρ' st e Q q =>
  ha pn F T H σ ρ _ ρ' st (wB_some e) _ fun v T1 H1 st1 s1 rv => by cases rv; exact ⟨c, rfl, q T1 H1 st1 s1⟩
theorem swt_not (ht : SWT t p) : SWT (tNot t) (wTNot p) := fun pn F T H σ ρ c ρ' st e Q q => by
  obtain ⟨⟨c, ρ1⟩, h1, e⟩ := bind_some e
  cases e
  exact ht pn F T H σ ρ c _ st h1 _ fun T1 H1 st1 s1 => q T1 H1 st1 s1
theorem swt_and (ht : SWT t p) (hu : SWT u q) : SWT (tAnd t u) (wTAnd p q) := fun pn F T H σ ρ c ρ' st e Q k => by
  obtain ⟨⟨c, ρ1⟩, h1, e⟩ := bind_some e
  refine ht pn F T H σ ρ c ρ1 st h1 _ fun T1 H1 st1 s1 => ?_
  cases c with
  | true => exact hu pn F T1 H1 σ ρ1 _ ρ' st1 e Q fun T2 H2 st2 s2 => k T2 H2 st2 (s1.trans s2)
  | false => cases e; exact k T1 H1 st1 s1
theorem swt_or (ht : SWT t p) (hu : SWT u q) : SWT (tOr t u) (wTOr p q) := fun pn F T H σ ρ c ρ' st e Q k => by
  obtain ⟨⟨c, ρ1⟩, h1, e⟩ := bind_some e
  refine ht pn F T H σ ρ c ρ1 st h1 _ fun T1 H1 st1 s1 => ?_
  cases c with
  | true => cases e; exact k T1 H1 st1 s1
  | false => exact hu pn F T1 H1 σ ρ1 _ ρ' st1 e Q fun T2 H2 st2 s2 => k T2 H2 st2 (s1.trans s2)
end
def spF (f : List PD → Option PD) : Sp := fun vs H Q _ => ∃ S ds d, Al S H ∧ RpAll (hid S H) vs ds ∧ f ds = some d ∧ ∀ v H2, Ex H H2 → Rp (hid S H2) v d → Q v H2
theorem se_call {f : List PD → Option PD} {ts : TA} {as : XA} (hs : SA ts as) : SE (tCall (spF f) [] E0 ts) (xCB f as) := fun ρ d h S σ H al en Q q => by
  obtain ⟨ds, h1, h⟩ := bind_some h
  exact hs ρ ds h1 S σ H al en _ fun vs H1 e1 rv => ⟨S, ds, d, al.ex e1, by rw [List.append_nil]; exact rv, h, fun v H2 e2 r2 => q v H2 (e1.trans e2) r2⟩
def spW (g : List Cel → List PD → Option (PD × List Cel)) : Sp := fun vs H Q _ => ∃ (F : Hs) (a : Addr) (B : List Addr) (cs : List Cel) (ws : List V) (ds : List PD) (d : PD) (cs' : List Cel), vs = .ref a :: ws ∧ Al F H ∧ (∀ x ∈ a :: B, ¬ F x) ∧ (a :: B).Nodup ∧
  Own (hid (FL F (a :: B)) H) H (.ref a) cs (a :: B) ∧ RpAll (hid (FL F (a :: B)) H) ws ds ∧ g cs ds = some (d, cs') ∧
  ∀ v B' H', (∀ x, F x → H' x = H x) → Ex (hid (FL F (a :: B)) H) (hid (FL F (a :: B')) H') → (∀ x ∈ a :: B', ¬ F x) → (a :: B').Nodup → Own (hid (FL F (a :: B')) H') H' (.ref a) cs' (a :: B') → Rp (hid (FL F (a :: B')) H') v d → Q v H'
def ownAt (ρ : Env) (i : Nat) : Option (List Cel) := match ρ[i]? with
  | some (.own cs) => some cs
  | _ => none
theorem ownAt_eq {ρ : Env} {i : Nat} {cs : List Cel} (h : ownAt ρ i = some cs) : ρ[i]? = some (.own cs) := by
  unfold ownAt at h
  split at h
  · rename_i e
    cases h
    exact e
  · cases h
def wCallK (i : Nat) (g : List Cel → List PD → Option (PD × List Cel)) (as : XWA) : XW := fun ρ => (ownAt ρ i).bind fun _ => (as ρ).bind fun x => (ownAt x.2 i).bind fun cs => (g cs x.1).bind fun y => some (y.1, x.2.set i (.own y.2))
theorem sw_callK {i : Nat} {g : List Cel → List PD → Option (PD × List Cel)} {ts : TA} {as : XWA} (hs : SWA ts as) : SW (tCall (spW g) [] E0 (tCons (tVar i) ts)) (wCallK i g as) := fun pn F T H σ ρ d ρ' st e Q q => by
  obtain ⟨cs0, h0, e⟩ := bind_some e
  obtain ⟨⟨xs, ρ1⟩, h1, e⟩ := bind_some e
  obtain ⟨cs, hi, e⟩ := bind_some e
  obtain ⟨⟨z, cs'⟩, h3, e⟩ := bind_some e
  have hi : ρ1[i]? = some (.own cs) := ownAt_eq hi
  have e : some (z, ρ1.set i (.own cs')) = some (d, ρ') := e
  obtain ⟨rfl, rfl⟩ := Prod.mk.inj (Option.some.inj e)
  -- the slot holds the same address all along
  have key : ∀ (vs : List V) (T1 : Trs) (H1 : Hp), StOk pn F T1 H1 σ ρ1 → Stp F T H T1 H1 → RpAll (hid (SF F T1) H1) vs xs → ∀ a : Addr, σ[i]? = some (some (.ref a)) → spW g (.ref a :: vs) H1 Q E0 := by
    intro vs T1 H1 st1 s1 rv a ha
    obtain ⟨a', us, B, ha', hl, hc, hT⟩ := st1.at_own hi
    have ea : a' = a := by rw [ha'] at ha; cases ha; rfl
    subst ea
    obtain ⟨F1, hF1⟩ : ∃ F1 : Hs, F1 = fun x => F x ∨ ∃ j, j ≠ i ∧ x ∈ T1 j := ⟨_, rfl⟩
    have eqv : ∀ x, FL F1 (a' :: B) x ↔ SF F T1 x := fun x => by
      rw [hF1]
      constructor
      · rintro ((h | ⟨j, _, h⟩) | h)
        · exact .inl h
        · exact .inr ⟨j, h⟩
        · exact .inr ⟨i, by rw [hT]; exact h⟩
      · rintro (h | ⟨j, h⟩)
        · exact .inl (.inl h)
        · by_cases c : j = i
          · subst c; rw [hT] at h; exact .inr h
          · exact .inl (.inr ⟨j, c, h⟩)
    have eh : hid (FL F1 (a' :: B)) H1 = hid (SF F T1) H1 := hid_eq eqv
    refine ⟨F1, a', B, cs, vs, xs, z, cs', rfl, ?_, ?_, by rw [← hT]; exact st1.nd i, ⟨a', us, B, rfl, hl, by rw [eh]; exact hc, rfl⟩, by rw [eh]; exact rv, h3, fun v B' H' fr vis off nd ow rv' => ?_⟩
    · intro x hx
      rw [hF1] at hx
      exact st1.als x (hx.elim .inl fun ⟨j, _, h⟩ => .inr ⟨j, h⟩)
    · intro x hx hx2
      rw [hF1] at hx2
      have hx3 : x ∈ T1 i := by rw [hT]; exact hx
      rcases hx2 with h | ⟨j, c, h⟩
      · exact st1.off i x hx3 h
      · exact c (st1.dis j i x h hx3)
    · have eqv' : ∀ x, FL F1 (a' :: B') x ↔ SF F (setT T1 i (a' :: B')) x := fun x => by
        rw [hF1]
        constructor
        · rintro ((h | ⟨j, c, h⟩) | h)
          · exact .inl h
          · exact .inr ⟨j, by rw [setT_ne c]; exact h⟩
          · exact .inr ⟨i, by rw [setT_same]; exact h⟩
        · rintro (h | ⟨j, h⟩)
          · exact .inl (.inl h)
          · by_cases c : j = i
            · subst c; rw [setT_same] at h; exact .inr h
            · rw [setT_ne c] at h; exact .inl (.inr ⟨j, c, h⟩)
      have eh' : hid (FL F1 (a' :: B')) H' = hid (SF F (setT T1 i (a' :: B'))) H' := hid_eq eqv'
      rw [eh, eh'] at vis
      rw [eh'] at ow rv'
      have il : i < ρ1.length := (List.getElem?_eq_some_iff.mp hi).1
      refine q v (setT T1 i (a' :: B')) H' ⟨by rw [List.length_set]; exact st1.len, fun x hx => ?_, fun j x h => ?_, fun j k x h h' => ?_, fun j => ?_, fun j hj => ?_, fun j s hs => ?_, st1.pin⟩ (s1.trans ⟨fun x hx => fr x (by rw [hF1]; exact .inl hx), vis⟩) rv'
      · rw [fr x (by rw [hF1]; exact .inl hx)]
        exact st1.al x hx
      · by_cases c : j = i
        · subst c
          rw [setT_same] at h
          exact fun z => off x h (by rw [hF1]; exact .inl z)
        · rw [setT_ne c] at h
          exact st1.off j x h
      · by_cases c : j = i
        · subst c
          rw [setT_same] at h
          by_cases c2 : k = j
          · exact c2.symm
          · rw [setT_ne c2] at h'
            exact absurd (show F1 x by rw [hF1]; exact .inr ⟨k, c2, h'⟩) (off x h)
        · rw [setT_ne c] at h
          by_cases c2 : k = i
          · subst c2
            rw [setT_same] at h'
            exact absurd (show F1 x by rw [hF1]; exact .inr ⟨j, c, h⟩) (off x h')
          · rw [setT_ne c2] at h'
            exact st1.dis j k x h h'
      · by_cases c : j = i
        · subst c; rw [setT_same]; exact nd
        · rw [setT_ne c]; exact st1.nd j
      · rw [List.length_set] at hj
        rw [setT_ne (by omega)]
        exact st1.out j hj
      · by_cases c : i = j
        · subst c
          rw [List.getElem?_set_self il] at hs
          cases hs
          rw [setT_same]
          exact ⟨_, ha', _, rfl, ow⟩
        · rw [List.getElem?_set_ne c] at hs
          obtain ⟨o, h1, h2⟩ := st1.sl j s hs
          rw [setT_ne (fun z => c z.symm)]
          exact ⟨o, h1, h2.mv vis fun x hx => fr x (by rw [hF1]; exact .inr ⟨j, fun z => c z.symm, hx⟩)⟩
  obtain ⟨a, _, _, ha, _⟩ := st.at_own (ownAt_eq h0)
  refine ⟨.ref a, ha, hs pn F T H σ ρ xs ρ1 st h1 _ fun vs T1 H1 st1 s1 rv => ?_⟩
  show spW g (V.ref a :: vs ++ []) H1 Q E0
  rw [List.append_nil]
  exact key vs T1 H1 st1 s1 rv a ha
end Uv

namespace Uv
open PySem PySem.Spec PyProof.Rows L2
open Evl (Ex)
variable [kk : KK]
def Loose (H : Hp) (v : V) (x : PD) : Prop := ∃ a xs ds, v = .ref a ∧ H a = some (.tup xs) ∧ RpAll H xs ds ∧ x = .tuple ds
def Rk (b : Bool) (H : Hp) (v : V) (x : PD) : Prop := Rp H v x ∨ (b = true ∧ Loose H v x)
def Wk (b : Bool) (S : Hs) (J : It) (xs : List PD) (H : Hp) : Prop := ∀ S' H2, Ex (hid S H) (hid S' H2) → Al S' H2 → J.stop xs.length H2 ∧ ∀ i x, xs[i]? = some x → J.go i H2 ∧ ∀ v H3, J.yld i H2 v H3 → Ex H2 H3 ∧ Rk b (hid S' H3) v x
def pairsD (xs : List PD) : List PD := xs.zipIdx.map fun p => .tuple [.int (p.2 : Nat), p.1]
section
variable {S : Hs} {H : Hp}
theorem wk_tup {a : Addr} {o : Obj} {vs : List V} {xs : List PD} (ha : hid S H a = some (fz o vs)) (ra : RpAll (hid S H) vs xs) : Wk false S (Itt K a) xs H := fun S' H2 e2 al2 => by
  have sq : SqT K H2 a vs := .inl (.inr ⟨_, hid_le _ _ (e2 _ _ ha)⟩)
  have ra2 := ra.ex e2
  refine ⟨⟨_, sq, Nat.le_of_eq ra2.length⟩, fun i x hx => ?_⟩
  obtain ⟨v, hv, rv⟩ := ra2.get hx
  refine ⟨⟨_, v, sq, hv⟩, fun w H3 y => ?_⟩
  obtain ⟨y1, y2⟩ := y
  have e := y2 _ sq
  rw [hv] at e
  cases e
  subst y1
  exact ⟨Ex.refl _, .inl rv⟩
theorem wk_lst {a : Addr} {vs : List V} {xs : List PD} (ha : hid S H a = some (.lst vs)) (ra : RpAll (hid S H) vs xs) : Wk false S (Itl K a) xs H := fun S' H2 e2 al2 => by
  have sq : SqL K H2 a vs := .inl (.inl (hid_le _ _ (e2 _ _ ha)))
  have ra2 := ra.ex e2
  refine ⟨⟨_, sq, Nat.le_of_eq ra2.length⟩, fun i x hx => ?_⟩
  obtain ⟨v, hv, rv⟩ := ra2.get hx
  refine ⟨⟨_, v, sq, hv⟩, fun w H3 y => ?_⟩
  obtain ⟨y1, y2⟩ := y
  have e := y2 _ sq
  rw [hv] at e
  cases e
  subst y1
  exact ⟨Ex.refl _, .inl rv⟩
theorem wk_scr {a : Addr} {vs : List V} {xs : List PD} (ha : SqL K (hid S H) a vs) (ra : RpAll (hid S H) vs xs) : Wk false S (Itl K a) xs H := fun S' H2 e2 al2 => by
  have sq : SqL K H2 a vs := sqx hid_le (sqx e2 ha)
  have ra2 := ra.ex e2
  refine ⟨⟨_, sq, Nat.le_of_eq ra2.length⟩, fun i x hx => ?_⟩
  obtain ⟨v, hv, rv⟩ := ra2.get hx
  refine ⟨⟨_, v, sq, hv⟩, fun w H3 y => ?_⟩
  obtain ⟨y1, y2⟩ := y
  have e := y2 _ sq
  rw [hv] at e
  cases e
  subst y1
  exact ⟨Ex.refl _, .inl rv⟩
theorem wk_rng {lo : Int} {n : Nat} : Wk false S (Itr lo n) ((List.range n).map fun k => .int (lo + (k : Nat))) H := fun S' H2 e2 al2 => by
  refine ⟨by show n ≤ _; simp, fun i x hx => ?_⟩
  rw [List.getElem?_map] at hx
  cases qq : (List.range n)[i]? with
  | none => rw [qq] at hx; cases hx
  | some k =>
    rw [qq] at hx
    obtain ⟨hi, ek⟩ := List.getElem?_eq_some_iff.mp qq
    have ek2 : i = k := by simpa using ek
    subst ek2
    cases hx
    refine ⟨by show i < n; simpa using hi, fun v H3 y => ?_⟩
    obtain ⟨y1, y2⟩ := y
    subst y1 y2
    exact ⟨Ex.refl _, .inl (.int _)⟩
end
def iSeq (K : PySem.W.Frag) (te : TE) : TI := fun σ H R => iList K te σ H R ∨ iTup K te σ H R
def seqP : PD → Option (List PD)
  | .list ds => some ds
  | .tuple ds => some ds
  | .dict [(.none, .list ds)] => some ds
  | _ => none
def rngP : List PD → Option (List PD)
  | [.int n] => if -(2 ^ 62) ≤ n ∧ n < 2 ^ 62 then some ((List.range n.toNat).map fun k => .int (0 + (k : Nat))) else none
  | _ => none
def enumP : List PD → Option (List PD)
  | [.list ds] => some (pairsD ds)
  | [.tuple ds] => some (pairsD ds)
  | _ => none
abbrev XI := VE → Option (List PD)
def Es (b : Bool) (wi : TI) (ρ : VE) (xs : List PD) : Prop := ∀ S σ H, Al S H → En (hid S H) σ ρ → ∀ R : It → Hp → Prop, (∀ J H1, Ex H H1 → Wk b S J xs H1 → R J H1) → wi σ H R
def SI (b : Bool) (wi : TI) (x : XI) : Prop := ∀ ρ xs, x ρ = some xs → Es b wi ρ xs
abbrev XWI := Env → Option (List PD × Env)
def SWI (b : Bool) (wi : TI) (w : XWI) : Prop := ∀ pn F T H σ ρ xs ρ', StOk pn F T H σ ρ → w ρ = some (xs, ρ') → ∀ R : It → Hp → Prop, (∀ J T' H', StOk pn F T' H' σ ρ' → Stp F T H T' H' → Wk b (SF F T') J xs H' → R J H') → wi σ H R
def xiE (a : XE) : XI := fun ρ => (a ρ).bind seqP
def xiA (f : List PD → Option (List PD)) (as : XA) : XI := fun ρ => (as ρ).bind f
def wiE (a : XW) : XWI := fun ρ => (a ρ).bind fun x => (seqP x.1).bind fun xs => some (xs, x.2)
def wiA (f : List PD → Option (List PD)) (as : XWA) : XWI := fun ρ => (as ρ).bind fun x => (f x.1).bind fun xs => some (xs, x.2)
section
variable {te : TE} {ts : TA}
theorem core_rng {S : Hs} {vs : List V} {H1 : Hp} {ds xs : List PD} (h : rngP ds = some xs) (rv : RpAll (hid S H1) vs ds) : ∃ j : Int, vs = [.int j] ∧ -(2 ^ 62) ≤ j ∧ j < 2 ^ 62 ∧ Wk false S (Itr 0 j.toNat) xs H1 := by
  unfold rngP at h
  split at h
  · rename_i n
    by_cases c : -(2 ^ 62) ≤ n ∧ n < 2 ^ 62
    · rw [if_pos c] at h
      cases h
      cases rv with
      | cons h1 t =>
        cases t
        cases h1
        exact ⟨n, rfl, c.1, c.2, wk_rng⟩
    · rw [if_neg c] at h; cases h
  · cases h
theorem si_seq {a : XE} (ha : SE te a) : SI false (iSeq K te) (xiE a) := fun ρ xs h S σ H al en R q => by
  obtain ⟨d, h1, h⟩ := bind_some h
  cases d with
  | list ds =>
    cases h
    refine .inl (ha ρ _ h1 S σ H al en _ fun v H1 e1 rv => ?_)
    cases rv with
    | lst hx ra => exact ⟨_, rfl, ⟨_, .inl (.inl (hid_le _ _ hx))⟩, q _ H1 e1 (wk_lst hx ra)⟩
  | tuple ds =>
    cases h
    refine .inr (ha ρ _ h1 S σ H al en _ fun v H1 e1 rv => ?_)
    cases rv with
    | tup hx _ ra => exact ⟨_, rfl, ⟨_, .inl (.inr ⟨_, hid_le _ _ hx⟩)⟩, q _ H1 e1 (wk_tup hx ra)⟩
  | dict kvs =>
    refine .inl (ha ρ _ h1 S σ H al en _ fun v H1 e1 rv => ?_)
    cases rv with
    | dct _ _ hp _ => rcases zip_str hp with e | ⟨k, d, r, e⟩ <;> (subst e; cases h)
    | dci _ _ _ => cases h
    | exo _ _ _ _ => cases h
    | «fun» _ => cases h
    | hal _ _ _ _ _ => cases h
    | scr hs ra => cases h; exact ⟨_, rfl, ⟨_, sqx hid_le hs⟩, q _ H1 e1 (wk_scr hs ra)⟩
  | _ => cases h
theorem si_rng {as : XA} (hs : SA ts as) : SI false (iRng1 ts) (xiA rngP as) := fun ρ xs h S σ H al en R q => by
  obtain ⟨ds, h1, h⟩ := bind_some h
  refine hs ρ ds h1 S σ H al en _ fun vs H1 e1 rv => ?_
  obtain ⟨j, h2, h3, h4, w⟩ := core_rng h rv
  exact ⟨j, h2, h3, h4, q _ H1 e1 w⟩
theorem swi_seq {a : XW} (ha : SW te a) : SWI false (iSeq K te) (wiE a) := fun pn F T H σ ρ xs ρ' st h R q => by
  obtain ⟨⟨d, ρ1⟩, h1, h⟩ := bind_some h
  obtain ⟨ys, h2, h⟩ := bind_some h
  cases h
  cases d with
  | list ds =>
    cases h2
    refine .inl (ha pn F T H σ ρ _ _ st h1 _ fun v T1 H1 st1 s1 rv => ?_)
    cases rv with
    | lst hx ra => exact ⟨_, rfl, ⟨_, .inl (.inl (hid_le _ _ hx))⟩, q _ T1 H1 st1 s1 (wk_lst hx ra)⟩
  | tuple ds =>
    cases h2
    refine .inr (ha pn F T H σ ρ _ _ st h1 _ fun v T1 H1 st1 s1 rv => ?_)
    cases rv with
    | tup hx _ ra => exact ⟨_, rfl, ⟨_, .inl (.inr ⟨_, hid_le _ _ hx⟩)⟩, q _ T1 H1 st1 s1 (wk_tup hx ra)⟩
  | dict kvs =>
    refine .inl (ha pn F T H σ ρ _ _ st h1 _ fun v T1 H1 st1 s1 rv => ?_)
    cases rv with
    | dct _ _ hp _ => rcases zip_str hp with e | ⟨k, d, r, e⟩ <;> (subst e; cases h2)
    | dci _ _ _ => cases h2
    | exo _ _ _ _ => cases h2
    | «fun» _ => cases h2
    | hal _ _ _ _ _ => cases h2
    | scr hs ra => cases h2; exact ⟨_, rfl, ⟨_, sqx hid_le hs⟩, q _ T1 H1 st1 s1 (wk_scr hs ra)⟩
  | _ => cases h2
theorem swi_rng {as : XWA} (hs : SWA ts as) : SWI false (iRng1 ts) (wiA rngP as) := fun pn F T H σ ρ xs ρ' st h R q => by
  obtain ⟨⟨ds, ρ1⟩, h1, h⟩ := bind_some h
  obtain ⟨ys, h2, h⟩ := bind_some h
  cases h
  refine hs pn F T H σ ρ ds _ st h1 _ fun vs T1 H1 st1 s1 rv => ?_
  obtain ⟨j, h2, h3, h4, w⟩ := core_rng h2 rv
  exact ⟨j, h2, h3, h4, q _ T1 H1 st1 s1 w⟩
end
end Uv

namespace Uv
open PySem PySem.Spec PyProof.Rows L2
open Evl (Ex)
variable [kk : KK]
def Off (vs : List Nat) (σ σ' : L2.St) : Prop := σ'.length = σ.length ∧ ∀ (i : Nat), i ∉ vs → σ'[i]? = σ[i]?
theorem Off.refl {vs : List Nat} {σ : L2.St} : Off vs σ σ := ⟨rfl, fun _ _ => rfl⟩
theorem Off.name {i : Nat} {σ : L2.St} {o : Option V} : Off [i] σ (σ.set i o) := ⟨List.length_set, fun j hj => List.getElem?_set_ne fun z => hj (by rw [z]; exact List.mem_cons_self ..)⟩
theorem Off.trans {vs ws : List Nat} {σ σ1 σ2 : L2.St} (a : Off vs σ σ1) (b : Off ws σ1 σ2) : Off (vs ++ ws) σ σ2 := ⟨b.1.trans a.1, fun i hi => (b.2 i fun z => hi (List.mem_append_right _ z)).trans (a.2 i fun z => hi (List.mem_append_left _ z))⟩
def gTU (K : PySem.W.Frag) (n : Nat) (t : TGs) : TG := fun v σ H Q => gTup K n t v σ H Q ∨ gUnl K n t v σ H Q
theorem PG.or {X : Cx} {e : Expr} {t u : TG} (h : PG X e t) (h' : PG X e u) : PG X e (fun v σ H Q => t v σ H Q ∨ u v σ H Q) := ⟨fun pins s σ H v w Q I r q => q.elim (h.run pins s σ H v w Q I r) (h'.run pins s σ H v w Q I r)⟩
abbrev XGV := PD → VE → Option VE
def gvName (i : Nat) : XGV := fun x ρ => some (ρ.set i (some x))
def SGV (b : Bool) (g : TG) (xg : XGV) (vs : List Nat) : Prop := ∀ x ρ ρ', xg x ρ = some ρ' → ∀ S σ H v, En (hid S H) σ ρ → Rk b (hid S H) v x → ∀ Q : L2.St → Hp → Prop, (∀ σ', En (hid S H) σ' ρ' → Off vs σ σ' → Q σ' H) → g v σ H Q
abbrev XG := PD → Env → Option Env
abbrev XGs := List PD → Env → Option Env
def gName' (i : Nat) : XG := fun x ρ => some (ρ.set i (.dat x))
def gNil' : XGs := fun xs ρ => match xs with
  | [] => some ρ
  | _ :: _ => none
def gCons' (g : XG) (gs : XGs) : XGs := fun xs ρ => match xs with
  | x :: r => (g x ρ).bind fun ρ1 => gs r ρ1
  | [] => none
def gTup' (n : Nat) (gs : XGs) : XG := fun x ρ => (seqP x).bind fun ds => if ds.length = n then gs ds ρ else none
def SG (b : Bool) (g : TG) (xg : XG) (vs : List Nat) : Prop := ∀ pn F T H σ v x ρ ρ', StOk pn F T H σ ρ → xg x ρ = some ρ' → Rk b (hid (SF F T) H) v x → ∀ Q : L2.St → Hp → Prop, (∀ σ' T', StOk pn F T' H σ' ρ' → Stp F T H T' H → Off vs σ σ' → Q σ' H) → g v σ H Q
def SGs (gs : TGs) (xg : XGs) (vs : List Nat) : Prop := ∀ pn F T H σ ws xs ρ ρ', StOk pn F T H σ ρ → xg xs ρ = some ρ' → RpAll (hid (SF F T) H) ws xs → ∀ Q : L2.St → Hp → Prop, (∀ σ' T', StOk pn F T' H σ' ρ' → Stp F T H T' H → Off vs σ σ' → Q σ' H) → gs ws σ H Q
section
variable {vs ws : List Nat}
theorem sgv_name {i : Nat} : SGV false (gName i) (gvName i) [i] := fun x ρ ρ' h S σ H v en r Q q => by
  cases h
  rcases r with r | ⟨z, _⟩
  · exact q _ (en.set i r) Off.name
  · cases z
theorem seq_read {b : Bool} {n : Nat} {H G : Hp} {v : V} {x : PD} {ds : List PD} (e : Ex G H) (hx : seqP x = some ds) (hn : ds.length = n) (r : Rk b G v x) : ∃ a us, v = .ref a ∧ (SqT K H a us ∨ SqL K H a us) ∧ us.length = n ∧ RpAll G us ds := by
  rcases r with r | ⟨_, a, us, es, rfl, ha, ra, rfl⟩
  · cases r with
    | lst ha ra => cases hx; exact ⟨_, _, rfl, .inr (.inl (.inl (e _ _ ha))), by rw [ra.length, hn], ra⟩
    | tup ha _ ra => cases hx; exact ⟨_, _, rfl, .inl (.inl (.inr ⟨_, e _ _ ha⟩)), by rw [ra.length, hn], ra⟩
    | scr hs ra => cases hx; exact ⟨_, _, rfl, .inr (sqx e hs), by rw [ra.length, hn], ra⟩
    | dct _ _ hp _ => rcases zip_str hp with e | ⟨k, d, r, e⟩ <;> (subst e; cases hx)
    | _ => cases hx
  · cases hx
    exact ⟨a, us, rfl, .inl (.inl (.inl (e _ _ ha))), by rw [ra.length, hn], ra⟩
theorem sg_name {i : Nat} (hi : i ≠ 0) : SG false (gName i) (gName' i) [i] := fun pn F T H σ v x ρ ρ' st h r Q q => by
  cases h
  rcases r with r | ⟨z, _⟩
  · obtain ⟨st', s⟩ := st.set hi r
    exact q _ _ st' s Off.name
  · cases z
theorem sg_nil : SGs gNil gNil' [] := fun pn F T H σ us xs ρ ρ' st h r Q q => by
  cases r with
  | nil => cases h; exact ⟨rfl, q σ T st Stp.refl Off.refl⟩
  | cons _ _ => cases h
theorem sg_cons {g : TG} {gs : TGs} {xg : XG} {xgs : XGs} (hg : SG false g xg vs) (hs : SGs gs xgs ws) : SGs (gCons g gs) (gCons' xg xgs) (vs ++ ws) := fun pn F T H σ us xs ρ ρ' st h r Q q => by
  cases r with
  | nil => cases h
  | cons a b =>
    obtain ⟨ρ1, h1, h2⟩ := bind_some (show (xg _ ρ).bind _ = some ρ' from h)
    exact ⟨_, _, rfl, hg pn F T H σ _ _ ρ ρ1 st h1 (.inl a) _ fun σ1 T1 st1 s1 f1 => hs pn F T1 H σ1 _ _ ρ1 ρ' st1 h2 (b.ex s1.vis) Q fun σ2 T2 st2 s2 f2 => q σ2 T2 st2 (s1.trans s2) (f1.trans f2)⟩
theorem sg_tup {b : Bool} {n : Nat} {gs : TGs} {xgs : XGs} (hs : SGs gs xgs vs) : SG b (gTU K n gs) (gTup' n xgs) vs := fun pn F T H σ v x ρ ρ' st h r Q q => by
  obtain ⟨ds, h1, h⟩ := bind_some h
  by_cases c : ds.length = n
  · rw [if_pos c] at h
    obtain ⟨a, us, rfl, sq, hl, ra⟩ := seq_read (hid_le (S := SF F T)) h1 c r
    rcases sq with sq | sq
    · exact .inl ⟨a, us, rfl, sq, hl, hs pn F T H σ us ds ρ ρ' st h ra Q q⟩
    · exact .inr ⟨a, us, rfl, sq, hl, hs pn F T H σ us ds ρ ρ' st h ra Q q⟩
  · rw [if_neg c] at h; cases h
end
def clear (ρ : VE) : List Nat → VE
  | [] => ρ
  | v :: vs => (clear ρ vs).set v none
theorem clear_en {H : Hp} {σ : L2.St} {ρ : VE} (h : En H σ ρ) : ∀ vs : List Nat, En H (wipe σ vs) (clear ρ vs)
  | [] => h
  | v :: vs => (clear_en h vs).clear v none
theorem wipe_get {σ : L2.St} {i : Nat} : ∀ {vs : List Nat}, i ∉ vs → (wipe σ vs)[i]? = σ[i]?
  | [], _ => rfl
  | v :: vs, h => by
    unfold wipe
    rw [List.getElem?_set_ne (fun z => h (by rw [← z]; exact List.mem_cons_self ..))]
    exact wipe_get fun z => h (List.mem_cons_of_mem _ z)
theorem wipe_at {σ : L2.St} {i : Nat} : ∀ {vs : List Nat}, i ∈ vs → i < σ.length → (wipe σ vs)[i]? = some none
  | v :: vs, h, hl => by
    unfold wipe
    by_cases c : v = i
    · subst c
      exact List.getElem?_set_self (by rw [wipe_length]; exact hl)
    · rw [List.getElem?_set_ne c]
      rcases List.mem_cons.mp h with z | z
      · exact absurd z.symm c
      · exact wipe_at z hl
theorem wipe_eq {σ τ : L2.St} {vs : List Nat} (hl : σ.length = τ.length) (h : ∀ i, i ∉ vs → σ[i]? = τ[i]?) : wipe σ vs = wipe τ vs := by
  apply List.ext_getElem?
  intro i
  by_cases c : i ∈ vs
  · by_cases b : i < σ.length
    · rw [wipe_at c b, wipe_at c (by omega)]
    · rw [List.getElem?_eq_none (by rw [wipe_length]; omega), List.getElem?_eq_none (by rw [wipe_length]; omega)]
  · rw [wipe_get c, wipe_get c]
    exact h i c
theorem wipe_off {vs : List Nat} {σ τ : L2.St} {us : List Nat} (f : Off us (wipe σ vs) τ) (hu : ∀ i ∈ us, i ∈ vs) : wipe τ vs = wipe σ vs := by
  have ew : wipe (wipe σ vs) vs = wipe σ vs := wipe_eq (wipe_length σ vs) fun j hj => wipe_get hj
  rw [← ew]
  exact wipe_eq f.1 fun j hj => f.2 j fun z => hj (hu j z)
def lcGo (g : XGV) (t : XT) (e : XE) (ρ : VE) : List PD → Option (List PD)
  | [] => some []
  | x :: xs => (g x ρ).bind fun ρ1 => (t ρ1).bind fun b => if b = true then (e ρ1).bind fun d => (lcGo g t e ρ xs).bind fun ds => some (d :: ds) else lcGo g t e ρ xs
def xLc (src : XI) (g : XGV) (t : XT) (e : XE) (vs : List Nat) : XE := fun ρ => (src ρ).bind fun xs => if xs.length ≤ 40000 then (lcGo g t e (clear ρ vs) xs).bind fun ds => some (.list ds) else none
def FrL (te : TE) (ρ : VE) (ds : List PD) : Prop := ∀ S σ H, Al S H → En (hid S H) σ ρ → ∀ Q : VK, (∀ p vs H2, Ex H H2 → H p = none → H2 p = some (.lst vs) → RpAll (hid (fun x => x = p ∨ S x) H2) vs ds → Q (.ref p) H2) → te σ H Q
def SEF (te : TE) (x : XE) : Prop := ∀ ρ d, x ρ = some d → ∃ ds, d = .list ds ∧ FrL te ρ ds
theorem SEF.se {te : TE} {x : XE} (h : SEF te x) : SE te x := fun ρ d e S σ H al en Q q => by
  obtain ⟨ds, rfl, f⟩ := h ρ d e
  exact f S σ H al en Q fun p vs H2 e2 hp h2 ra => q _ H2 e2 (.lst (by rw [hid_out (al.new hp)]; exact h2) (ra.ex (hid_sub fun x hx => .inr hx)))
section
theorem lc_step {g : XGV} {t : XT} {e : XE} {ρ : VE} {x : PD} {xs ds : List PD} (h : lcGo g t e ρ (x :: xs) = some ds) : ∃ ρ1 b, g x ρ = some ρ1 ∧ t ρ1 = some b ∧ ((b = true ∧ ∃ d ds', e ρ1 = some d ∧ lcGo g t e ρ xs = some ds' ∧ ds = d :: ds') ∨ (b = false ∧ lcGo g t e ρ xs = some ds)) := by
  obtain ⟨ρ1, h1, h⟩ := bind_some (show (g x ρ).bind _ = some ds from h)
  obtain ⟨b, h2, h⟩ := bind_some h
  refine ⟨ρ1, b, h1, h2, ?_⟩
  cases b with
  | true =>
    obtain ⟨d, h3, h⟩ := bind_some (show (e ρ1).bind _ = some ds from h)
    obtain ⟨ds', h4, h⟩ := bind_some h
    cases h
    exact .inl ⟨rfl, d, ds', h3, h4, rfl⟩
  | false => exact .inr ⟨rfl, h⟩
theorem sef_lc {b : Bool} {wi : TI} {g : TG} {tt : TT} {te : TE} {vs us : List Nat} {src : XI} {xg : XGV} {t : XT} {e : XE} (hs : SI b wi src) (hg : SGV b g xg us) (hu : ∀ i ∈ us, i ∈ vs) (ht : ST tt t) (he : SE te e) : SEF (tLc wi g tt te vs) (xLc src xg t e vs) := fun ρ d h => by
  obtain ⟨xs, h1, h⟩ := bind_some h
  by_cases hz : xs.length ≤ 40000
  · rw [if_pos hz] at h
    obtain ⟨ds, h2, h⟩ := bind_some h
    cases h
    refine ⟨ds, rfl, fun S σ H al en Q q => hs ρ xs h1 S σ H al en _ fun J H1 e1 wk D hD => ?_⟩
    have al1 := al.ex e1
    have alD : Al (fun x => x = D ∨ S x) (upd H1 D (.lst [])) := fun x hx => by
      by_cases c : x = D
      · subst c; rw [upd_same]; exact fun z => nomatch z
      · rw [upd_ne c]; exact al1 x (hx.resolve_left c)
    refine ⟨fun i m H' => m = xs.length - i ∧ i ≤ xs.length ∧ Ex H1 H' ∧ Al (fun x => x = D ∨ S x) H' ∧ ∃ acc ds1 ds2, H' D = some (.lst acc) ∧ acc.length ≤ i ∧ RpAll (hid (fun x => x = D ∨ S x) H') acc ds1 ∧ lcGo xg t e (clear ρ vs) (xs.drop i) = some ds2 ∧ ds = ds1 ++ ds2,
      ⟨_, rfl, Nat.zero_le _, Ex.new hD, alD, [], [], ds, upd_same, Nat.le_refl _, .nil, h2, rfl⟩, fun i m H' hw => ?_⟩
    obtain ⟨rfl, hi, e2, al2, acc, ds1, ds2, hacc, la, ra, hgo, hds⟩ := hw
    have ewk : Ex (hid S H1) (hid (fun x => x = D ∨ S x) H') := hid_cons e2 hD
    obtain ⟨w1, w2⟩ := wk _ H' ewk al2
    by_cases hlt : i < xs.length
    · obtain ⟨w3, w4⟩ := w2 i _ (List.getElem?_eq_getElem hlt)
      rw [List.drop_eq_getElem_cons hlt] at hgo
      obtain ⟨ρ1, b1, g1, t1, alt⟩ := lc_step hgo
      refine .inr ⟨w3, fun H2 => Ex H1 H2 ∧ Al (fun x => x = D ∨ S x) H2 ∧ ∃ acc ds1 ds2, H2 D = some (.lst acc) ∧ acc.length ≤ i + 1 ∧ RpAll (hid (fun x => x = D ∨ S x) H2) acc ds1 ∧ lcGo xg t e (clear ρ vs) (xs.drop (i + 1)) = some ds2 ∧ ds = ds1 ++ ds2, fun H2 hn => ⟨_, by omega, rfl, hlt, hn⟩, fun v H3 y => ?_⟩
      obtain ⟨e3, rv⟩ := w4 v H3 y
      have al3 := al2.ex e3
      have en3 : En (hid (fun x => x = D ∨ S x) H3) (wipe σ vs) (clear ρ vs) := clear_en (en.ex (((hid_ex e1).trans ewk).trans (hid_ex e3))) vs
      refine hg _ _ ρ1 g1 _ (wipe σ vs) H3 v en3 rv _ fun σ4 en4 off => ⟨wipe_off off hu, ?_⟩
      refine ht ρ1 b1 t1 _ σ4 H3 al3 en4 _ fun H5 e5 => ?_
      have hacc5 : H5 D = some (.lst acc) := e5 _ _ (e3 _ _ hacc)
      have ra5 := ra.ex ((hid_ex (S := fun x => x = D ∨ S x) e3).trans (hid_ex e5))
      rcases alt with ⟨rfl, d1, ds', f1, f2, rfl⟩ | ⟨rfl, f2⟩
      · show te σ4 H5 _
        refine he ρ1 d1 f1 _ σ4 H5 (al3.ex e5) (en4.ex (hid_ex e5)) _ fun z H6 e6 rz => ⟨acc, e6 _ _ hacc5, Evl.sz_lt (by omega), Ex.mut (((e2.trans e3).trans e5).trans e6) hD, ?_, acc ++ [z], ds1 ++ [d1], ds', upd_same, by rw [List.length_append]; simpa using la, ?_, f2, by rw [hds, List.append_assoc]; rfl⟩
        · intro x hx
          by_cases c : x = D
          · subst c; rw [upd_same]; exact fun q => nomatch q
          · rw [upd_ne c]; exact ((al3.ex e5).ex e6) x hx
        · have hu' : Ex (hid (fun x => x = D ∨ S x) H6) (hid (fun x => x = D ∨ S x) (upd H6 D (.lst (acc ++ [z])))) := fun x o h => by
            obtain ⟨c, h⟩ := hid_some h
            rw [hid_out c, upd_ne (fun z => c (.inl z))]
            exact h
          exact RpAll.append (ra5.ex ((hid_ex e6).trans hu')) (.cons (rz.ex hu') .nil)
      · exact ⟨(e2.trans e3).trans e5, al3.ex e5, acc, ds1, ds2, hacc5, by omega, ra5, f2, hds⟩
    · have ei : i = xs.length := by omega
      subst ei
      rw [List.drop_length] at hgo
      cases hgo
      rw [List.append_nil] at hds
      subst hds
      exact .inl ⟨w1, q D acc H' (e1.trans e2) (by
        cases qq : H D with
        | none => rfl
        | some o => rw [e1 _ _ qq] at hD; cases hD) hacc ra⟩
  · rw [if_neg hz] at h; cases h
theorem sef_lst {ts : TA} {as : XA} (hs : SA ts as) : SEF (tLst ts) (xLst as) := fun ρ d h => by
  obtain ⟨ds, h1, h⟩ := bind_some h
  by_cases hl : ds.length ≤ 100000
  · rw [if_pos hl] at h
    cases h
    refine ⟨ds, rfl, fun S σ H al en Q q => hs ρ ds h1 S σ H al en _ fun vs H1 e1 ra => ⟨by rw [ra.length]; exact Evl.sz_of hl, fun p hp => q p vs _ (e1.trans (Ex.new hp)) (by
      cases qq : H p with
      | none => rfl
      | some o => rw [e1 _ _ qq] at hp; cases hp) upd_same (ra.ex (hid_cons (Ex.new hp) hp))⟩⟩
  · rw [if_neg hl] at h; cases h
theorem sef_list {ta : TE} {a : XE} (ha : SE ta a) : SEF (tCB (rListQ K) (tCons ta tNil)) (xUn listP a) := fun ρ d h => by
  obtain ⟨x, h1, h⟩ := bind_some h
  have fresh : ∀ {H H1 : Hp} {p : Addr}, Ex H H1 → H1 p = none → H p = none := fun {H H1 p} e hp => by
    cases qq : H p with
    | none => rfl
    | some o => rw [e _ _ qq] at hp; cases hp
  cases x with
  | list ds =>
    cases h
    refine ⟨ds, rfl, fun S σ H al en Q q => ha ρ _ h1 S σ H al en _ fun v H1 e1 rv => ?_⟩
    cases rv with
    | lst hx ra => exact ⟨_, _, rfl, .inl (.inl (.inl (hid_le _ _ hx))), fun l hl => q l _ _ (e1.trans (Ex.new hl)) (fresh e1 hl) upd_same (ra.ex (hid_cons (Ex.new hl) hl))⟩
  | tuple ds =>
    cases h
    refine ⟨ds, rfl, fun S σ H al en Q q => ha ρ _ h1 S σ H al en _ fun v H1 e1 rv => ?_⟩
    cases rv with
    | tup hx _ ra => exact ⟨_, _, rfl, .inr (.inl (.inr ⟨_, hid_le _ _ hx⟩)), fun l hl => q l _ _ (e1.trans (Ex.new hl)) (fresh e1 hl) upd_same (ra.ex (hid_cons (Ex.new hl) hl))⟩
  | _ => cases h
end
end Uv

namespace Uv
open PySem PySem.Spec PyProof.Rows L2
open Evl (Ex)
variable [kk : KK]
theorem FL_nil {F : Hs} : FL F [] = F := funext fun x => propext ⟨fun h => h.elim id (fun z => nomatch z), .inl⟩
theorem FL_app {F : Hs} {A B : List Addr} : FL (FL F A) B = FL F (A ++ B) := funext fun x => propext ⟨fun h => h.elim (fun h => h.elim .inl fun z => .inr (List.mem_append_left _ z)) fun z => .inr (List.mem_append_right _ z),
  fun h => h.elim (fun h => .inl (.inl h)) fun z => (List.mem_append.mp z).elim (fun z => .inl (.inr z)) .inr⟩
theorem FL_perm {F : Hs} {A B : List Addr} (h : ∀ x, x ∈ A ↔ x ∈ B) : FL F A = FL F B := funext fun x => propext ⟨fun z => z.elim .inl fun z => .inr ((h x).mp z), fun z => z.elim .inl fun z => .inr ((h x).mpr z)⟩
theorem SF_FL1 {F : Hs} {T : Trs} {p : Addr} : SF (FL F [p]) T = fun x => x = p ∨ SF F T x := funext fun x => propext ⟨fun h => h.elim (fun h => h.elim (fun z => .inr (.inl z)) fun z => .inl (by simpa using z)) fun z => .inr (.inr z),
  fun h => h.elim (fun z => .inl (.inr (by rw [z]; exact List.mem_cons_self ..))) fun z => z.elim (fun z => .inl (.inl z)) .inr⟩
section
variable {pn : Pn} {F : Hs} {T : Trs} {H H2 : Hp} {σ : L2.St} {ρ : Env}
theorem StOk.fresh (st : StOk pn F T H σ ρ) (e : Ex H H2) {p : Addr} (hp : H p = none) (h2 : H2 p ≠ none) : StOk pn (FL F [p]) T H2 σ ρ ∧ Ex (hid (SF F T) H) (hid (SF (FL F [p]) T) H2) := by
  have vis : Ex (hid (SF F T) H) (hid (SF (FL F [p]) T) H2) := by rw [SF_FL1]; exact hid_cons e hp
  have st2 := st.ex e
  refine ⟨⟨st.len, fun x h => ?_, fun i x hx z => ?_, st.dis, st.nd, st.out, fun i s hi => ?_, st.pin⟩, vis⟩
  · rcases h with h | h
    · exact st2.al x h
    · have ex : x = p := by simpa using h
      rw [ex]; exact h2
  · rcases z with z | z
    · exact st.off i x hx z
    · have ex : x = p := by simpa using z
      obtain ⟨vs, q, _⟩ := st.lst hx
      rw [ex, hp] at q
      cases q
  · obtain ⟨o, h1, h3⟩ := st.sl i s hi
    refine ⟨o, h1, h3.mv vis fun x hx => ?_⟩
    obtain ⟨vs, q, _⟩ := st.lst hx
    rw [q, e x _ q]
end
abbrev XWC := Env → Option (List Cel × Env)
def SWC (ta : TA) (w : XWC) : Prop := ∀ pn F T H σ ρ cs ρ', StOk pn F T H σ ρ → w ρ = some (cs, ρ') → ∀ Q : List V → Hp → Prop, (∀ vs B T' H', StOk pn (FL F B) T' H' σ ρ' → B.Nodup → (∀ x ∈ B, ¬ F x) → (∀ x, F x → H' x = H x) → Ex (hid (SF F T) H) (hid (SF (FL F B) T') H') → Cels (hid (SF (FL F B) T') H') H' vs cs B → Q vs H') → ta σ H Q
def asList : PD → Option (List PD)
  | .list ds => some ds
  | _ => none
theorem asList_eq {d : PD} {ds : List PD} (h : asList d = some ds) : d = .list ds := by
  cases d with
  | list l => cases h; rfl
  | _ => cases h
def wOM (x : XE) : XWO := fun ρ => ((x (mk ρ)).bind asList).bind fun ds => some (ds.map Cel.dat, ρ)
theorem Cels.dats {G H : Hp} : ∀ {vs : List V} {ds : List PD}, RpAll G vs ds → Cels G H vs (ds.map Cel.dat) []
  | _, _, .nil => .nil
  | _, _, .cons h r => .dat h (Cels.dats r)
theorem swo_M {te : TE} {x : XE} (h : SEF te x) : SWO te (wOM x) := fun pn F T H σ ρ cs ρ' st e Q q => by
  obtain ⟨ds, h1, h2⟩ := bind_some e
  obtain ⟨d, h1, h3⟩ := bind_some h1
  cases h2
  have e := asList_eq h3
  subst e
  obtain ⟨ds', e', f⟩ := h _ _ h1
  cases e'
  refine f (SF F T) σ H st.als st.mkd Q fun p vs H2 e2 hp h2 ra => ?_
  obtain ⟨st2, vis⟩ := st.fresh e2 hp (by rw [h2]; exact fun z => nomatch z)
  refine q _ [p] T H2 st2 (by simp) (fun x hx => ?_) (Stp.ex (T := T) st.al e2).fr vis ⟨p, vs, [], rfl, h2, Cels.dats (by rw [SF_FL1]; exact ra), rfl⟩
  have ex : x = p := by simpa using hx
  rw [ex]
  exact st.al.new hp
def wFz (o : XWO) : XW := fun ρ => (o ρ).bind fun x => some (.list (x.1.map Cel.pd), x.2)
theorem sw_fz {te : TE} {o : XWO} (h : SWO te o) : SW te (wFz o) := fun pn F T H σ ρ d ρ' st e Q q => by
  obtain ⟨⟨cs, ρ1⟩, h1, e⟩ := bind_some e
  cases e
  refine h pn F T H σ ρ cs _ st h1 Q fun v A T' H' st' nd off fr vis ow => ?_
  obtain ⟨st2, sub⟩ := st'.thaw
  refine q v T' H' st2 ⟨fr, vis.trans sub⟩ (ow.rp sub fun x hx => hid_out ?_)
  rintro (z | ⟨i, z⟩)
  · exact off x hx z
  · exact st'.off i x z (.inr hx)
def wcNil : XWC := fun ρ => some ([], ρ)
def wcDat (a : XW) (as : XWC) : XWC := fun ρ => (a ρ).bind fun x => (as x.2).bind fun xs => some (.dat x.1 :: xs.1, xs.2)
def allDat : List Cel → Option (List PD)
  | [] => some []
  | .dat d :: r => (allDat r).bind fun ds => some (d :: ds)
  | .sub _ :: _ => none
  | .hal _ :: _ => none
theorem allDat_map : ∀ ds : List PD, allDat (ds.map Cel.dat) = some ds
  | [] => rfl
  | d :: ds => by rw [List.map_cons, allDat, allDat_map ds]; rfl
theorem allDat_eq : ∀ {cs : List Cel} {ds : List PD}, allDat cs = some ds → cs = ds.map Cel.dat
  | [], ds, h => by cases h; rfl
  | .dat d :: r, ds, h => by
    obtain ⟨es, h1, h2⟩ := bind_some (show (allDat r).bind _ = some ds from h)
    cases h2
    rw [allDat_eq h1]
    rfl
  | .sub _ :: _, _, h => nomatch h
  | .hal _ :: _, _, h => nomatch h
def wcSub (a : XWO) (as : XWC) : XWC := fun ρ => (a ρ).bind fun x => (allDat x.1).bind fun ds => (as x.2).bind fun xs => some (.sub ds :: xs.1, xs.2)
theorem Cels.dats_inv {G H : Hp} : ∀ {vs : List V} {ds : List PD} {B : List Addr}, Cels G H vs (ds.map Cel.dat) B → RpAll G vs ds ∧ B = []
  | _, [], _, .nil => ⟨.nil, rfl⟩
  | _, d :: ds, _, .dat r c => ⟨.cons r (Cels.dats_inv c).1, (Cels.dats_inv c).2⟩
theorem swc_nil : SWC tNil wcNil := fun pn F T H σ ρ cs ρ' st e Q q => by
  cases e
  exact q [] [] T H (by rw [FL_nil]; exact st) (by simp) (fun x hx => nomatch hx) (fun _ _ => rfl) (by rw [FL_nil]; exact Ex.refl _) .nil
theorem swc_dat {ta : TE} {ts : TA} {a : XW} {as : XWC} (ha : SW ta a) (hs : SWC ts as) : SWC (tCons ta ts) (wcDat a as) := fun pn F T H σ ρ cs ρ' st e Q q => by
  obtain ⟨⟨x, ρ1⟩, h1, e⟩ := bind_some e
  obtain ⟨⟨xs, ρ2⟩, h2, e⟩ := bind_some e
  cases e
  exact ha pn F T H σ ρ x ρ1 st h1 _ fun v T1 H1 st1 s1 rv => hs pn F T1 H1 σ ρ1 xs ρ2 st1 h2 _ fun vs B T2 H2 st2 nd off fr vis c =>
    q (v :: vs) B T2 H2 st2 nd off (fun x hx => (fr x hx).trans (s1.fr x hx)) (s1.vis.trans vis) (.dat (rv.ex vis) c)
theorem swc_sub {ta : TE} {ts : TA} {a : XWO} {as : XWC} (ha : SWO ta a) (hs : SWC ts as) : SWC (tCons ta ts) (wcSub a as) := fun pn F T H σ ρ cs ρ' st e0 Q q => by
  obtain ⟨⟨x, ρ1⟩, h1, e1⟩ := bind_some e0
  obtain ⟨ds, hd, e2⟩ := bind_some e1
  obtain ⟨⟨xs, ρ2⟩, h2, e3⟩ := bind_some e2
  have e4 : some (Cel.sub ds :: xs, ρ2) = some (cs, ρ') := e3
  clear e0 e1 e2 e3
  obtain ⟨rfl, rfl⟩ := Prod.mk.inj (Option.some.inj e4)
  have ex : x = _ := allDat_eq hd
  subst ex
  refine ha pn F T H σ ρ _ ρ1 st h1 _ fun v A T1 H1 st1 nd off fr vis ow => ?_
  obtain ⟨b, ws, B0, rfl, hb, cb, rfl⟩ := ow
  obtain ⟨ra, rfl⟩ := cb.dats_inv
  refine hs pn (FL F [b]) T1 H1 σ ρ1 xs ρ2 st1 h2 _ fun vs B T2 H2 st2 nd2 off2 fr2 vis2 c => ?_
  have eF : FL (FL F [b]) B = FL F (b :: B) := FL_app
  rw [eF] at st2 vis2 c
  have hb2 : H2 b = some (.lst ws) := by rw [fr2 b (.inr (List.mem_cons_self ..))]; exact hb
  refine q (.ref b :: vs) (b :: B) T2 H2 st2 (List.nodup_cons.mpr ⟨fun z => off2 b z (.inr (List.mem_cons_self ..)), nd2⟩) (fun x hx => ?_) (fun x hx => (fr2 x (.inl hx)).trans (fr x hx)) (vis.trans vis2) (.sub hb2 (ra.ex vis2) c)
  rcases List.mem_cons.mp hx with z | z
  · rw [z]; exact off b (List.mem_cons_self ..)
  · exact fun w => off2 x z (.inl w)
def wOL (as : XWC) : XWO := fun ρ => (as ρ).bind fun x => if x.1.length ≤ 100000 then some x else none
theorem swo_lst {ts : TA} {as : XWC} (hs : SWC ts as) : SWO (tLst ts) (wOL as) := fun pn F T H σ ρ cs ρ' st e Q q => by
  obtain ⟨⟨xs, ρ1⟩, h1, e⟩ := bind_some e
  by_cases hl : xs.length ≤ 100000
  · rw [if_pos hl] at e
    cases e
    refine hs pn F T H σ ρ _ _ st h1 _ fun vs B T1 H1 st1 nd off fr vis c => ⟨by rw [c.length]; exact Evl.sz_of hl, fun p hp => ?_⟩
    obtain ⟨st2, vis2⟩ := st1.fresh (Ex.new (o := .lst vs) hp) hp (by rw [upd_same]; exact fun z => nomatch z)
    have eF : FL (FL F B) [p] = FL F (p :: B) := by
      rw [FL_app]
      exact FL_perm fun x => by simp [or_comm]
    rw [eF] at st2 vis2
    have npB : ∀ x ∈ B, x ≠ p := fun x hx z => by
      have := st1.al x (.inr hx)
      rw [z, hp] at this
      exact this rfl
    have npF : ∀ x, F x → x ≠ p := fun x hx z => by
      have := st1.al x (.inl hx)
      rw [z, hp] at this
      exact this rfl
    refine q (.ref p) (p :: B) T1 _ st2 (List.nodup_cons.mpr ⟨fun z => npB p z rfl, nd⟩) (fun x hx => ?_) (fun x hx => by rw [upd_ne (npF x hx)]; exact fr x hx) (vis.trans vis2) ⟨p, vs, B, rfl, upd_same, c.mv vis2 fun x hx => upd_ne (npB x hx), rfl⟩
    rcases List.mem_cons.mp hx with z | z
    · rw [z]; exact fun w => npF p w rfl
    · exact off x z
  · rw [if_neg hl] at e; cases e
end Uv

namespace Uv
open PySem PySem.Spec PyProof.Rows L2
open Evl (Ex)
variable [kk : KK]
inductive Out | nxt (ρ : Env) | ret (d : PD) (ρ : Env) | retO (cs : List Cel) (ρ : Env) | brk (ρ : Env) | cnt (ρ : Env)
abbrev XS := Env → Option Out
def OutOk (pn : Pn) (F : Hs) (T : Trs) (H : Hp) (D : Ends) : Out → Prop
  | .nxt ρ => ∀ σ T' H', StOk pn F T' H' σ ρ → Stp F T H T' H' → D.nx σ H'
  | .brk ρ => ∀ σ T' H', StOk pn F T' H' σ ρ → Stp F T H T' H' → D.bk σ H'
  | .cnt ρ => ∀ σ T' H', StOk pn F T' H' σ ρ → Stp F T H T' H' → D.ct σ H'
  | .ret d ρ => ∀ v σ T' H', StOk pn F T' H' σ ρ → Stp F T H T' H' → Rp (hid (SF F T') H') v d → D.rt v H'
  | .retO cs ρ => ∀ v A σ T' H', StOk pn (FL F A) T' H' σ ρ → A.Nodup → (∀ x ∈ A, ¬ F x) → (∀ x, F x → H' x = H x) → Ex (hid (SF F T) H) (hid (SF (FL F A) T') H') → Own (hid (SF (FL F A) T') H') H' v cs A → D.rt v H'
def SS (ts : TS) (x : XS) : Prop := ∀ pn F T H σ ρ o D, StOk pn F T H σ ρ → x ρ = some o → OutOk pn F T H D o → ts D σ H
theorem OutOk.step {pn : Pn} {F : Hs} {T T1 : Trs} {H H1 : Hp} {D : Ends} (s : Stp F T H T1 H1) : ∀ {o : Out}, OutOk pn F T H D o → OutOk pn F T1 H1 D o
  | .nxt _, h => fun σ T' H' st s' => h σ T' H' st (s.trans s')
  | .brk _, h => fun σ T' H' st s' => h σ T' H' st (s.trans s')
  | .cnt _, h => fun σ T' H' st s' => h σ T' H' st (s.trans s')
  | .ret _ _, h => fun v σ T' H' st s' => h v σ T' H' st (s.trans s')
  | .retO _ _, h => fun v A σ T' H' st nd off fr vis => h v A σ T' H' st nd off (fun x hx => (fr x hx).trans (s.fr x hx)) (s.vis.trans vis)
theorem OutOk.on {pn : Pn} {F : Hs} {T : Trs} {H : Hp} {D : Ends} {nx bk ct : L2.St → Hp → Prop} : ∀ {o : Out}, (∀ ρ, o ≠ .nxt ρ) → (∀ ρ, o ≠ .brk ρ) → (∀ ρ, o ≠ .cnt ρ) → OutOk pn F T H D o → OutOk pn F T H { D with nx := nx, bk := bk, ct := ct } o
  | .nxt _, h, _, _, _ => absurd rfl (h _)
  | .brk _, _, h, _, _ => absurd rfl (h _)
  | .cnt _, _, _, h, _ => absurd rfl (h _)
  | .ret _ _, _, _, _, h => h
  | .retO _ _, _, _, _, h => h
def sNext : XS := fun ρ => some (.nxt ρ)
def sSeq (x y : XS) : XS := fun ρ => (x ρ).bind fun o => match o with
  | .nxt ρ1 => y ρ1
  | o => some o
def sRet (w : XW) : XS := fun ρ => (w ρ).bind fun x => some (.ret x.1 x.2)
def sRetO (w : XWO) : XS := fun ρ => (w ρ).bind fun x => some (.retO x.1 x.2)
def sIf (c : XWT) (x y : XS) : XS := fun ρ => (c ρ).bind fun k => if k.1 = true then x k.2 else y k.2
def sAsg (g : XG) (w : XW) : XS := fun ρ => (w ρ).bind fun x => (g x.1 x.2).bind fun ρ1 => some (.nxt ρ1)
def sOwn (i : Nat) (w : XWO) : XS := fun ρ => (w ρ).bind fun x => if i < x.2.length then some (.nxt (x.2.set i (.own x.1))) else none
def toSl : Cel → Sl
  | .dat d => .dat d
  | .sub ds => .own (ds.map Cel.dat)
  | .hal h => .hal 1000 h
def two : List Cel → Option (Cel × Cel)
  | [c, e] => some (c, e)
  | _ => none
theorem two_eq {cs : List Cel} {c e : Cel} (h : two cs = some (c, e)) : cs = [c, e] := by
  unfold two at h
  split at h
  · cases h; rfl
  · cases h
def sPar (i j : Nat) (as : XWC) : XS := fun ρ => (as ρ).bind fun x => (two x.1).bind fun c => if i < x.2.length ∧ j < x.2.length then some (.nxt ((x.2.set i (toSl c.1)).set j (toSl c.2))) else none
section
variable {te : TE} {t u : TS} {ct : TT} {x y : XS} {w : XW} {c : XWT}
theorem ss_next : SS tNext sNext := fun pn F T H σ ρ o D st e q => by cases e; exact q σ T H st Stp.refl
theorem ss_seq (hx : SS t x) (hy : SS u y) : SS (tSeq t u) (sSeq x y) := fun pn F T H σ ρ o D st e q => by
  obtain ⟨o1, h1, e⟩ := bind_some e
  cases o1 with
  | nxt ρ1 => exact hx pn F T H σ ρ _ { D with nx := u D } st h1 fun σ2 T2 H2 st2 s2 => hy pn F T2 H2 σ2 ρ1 o D st2 e (q.step s2)
  | ret d ρ1 => cases e; exact hx pn F T H σ ρ _ { D with nx := u D } st h1 q
  | retO d ρ1 => cases e; exact hx pn F T H σ ρ _ { D with nx := u D } st h1 q
  | brk ρ1 => cases e; exact hx pn F T H σ ρ _ { D with nx := u D } st h1 q
  | cnt ρ1 => cases e; exact hx pn F T H σ ρ _ { D with nx := u D } st h1 q
theorem ss_ret (h : SW te w) : SS (tRet te) (sRet w) := fun pn F T H σ ρ o D st e q => by
  obtain ⟨⟨d, ρ1⟩, h1, e⟩ := bind_some e
  cases e
  exact h pn F T H σ ρ d ρ1 st h1 _ fun v T' H' st' s' rv => q v σ T' H' st' s' rv
theorem ss_retO {w : XWO} (h : SWO te w) : SS (tRet te) (sRetO w) := fun pn F T H σ ρ o D st e q => by
  obtain ⟨⟨d, ρ1⟩, h1, e⟩ := bind_some e
  cases e
  exact h pn F T H σ ρ d ρ1 st h1 _ fun v A T' H' st' nd off fr vis ow => q v A σ T' H' st' nd off fr vis ow
theorem ss_if (hc : SWT ct c) (hx : SS t x) (hy : SS u y) : SS (tIfS ct t u) (sIf c x y) := fun pn F T H σ ρ o D st e q => by
  obtain ⟨⟨k, ρ1⟩, h1, e⟩ := bind_some e
  refine hc pn F T H σ ρ k ρ1 st h1 _ fun T1 H1 st1 s1 => ?_
  cases k with
  | true => exact hx pn F T1 H1 σ ρ1 o D st1 e (q.step s1)
  | false => exact hy pn F T1 H1 σ ρ1 o D st1 e (q.step s1)
theorem ss_asg {g : TG} {xg : XG} {vs : List Nat} (hg : SG false g xg vs) (h : SW te w) : SS (tAsg te g) (sAsg xg w) := fun pn F T H σ ρ o D st e q => by
  obtain ⟨⟨d, ρ1⟩, h1, e⟩ := bind_some e
  obtain ⟨ρ2, h2, e⟩ := bind_some e
  cases e
  exact h pn F T H σ ρ d ρ1 st h1 _ fun v T1 H1 st1 s1 rv => hg pn F T1 H1 σ v d ρ1 ρ2 st1 h2 (.inl rv) _ fun σ' T' st' s' _ => q σ' T' H1 st' (s1.trans s')
theorem ss_own {i : Nat} {w : XWO} (hi : i ≠ 0) (h : SWO te w) : SS (tAsg te (gName i)) (sOwn i w) := fun pn F T H σ ρ o D st e q => by
  obtain ⟨⟨cs, ρ1⟩, h1, e⟩ := bind_some e
  by_cases c : i < ρ1.length
  · rw [if_pos c] at e
    cases e
    refine h pn F T H σ ρ cs ρ1 st h1 _ fun v A T' H' st' nd off fr vis ow => ?_
    obtain ⟨st2, vis2⟩ := st'.own hi c ow nd off
    exact q _ _ H' st2 ⟨fr, vis.trans vis2⟩
  · rw [if_neg c] at e; cases e
theorem StOk.cel {pn : Pn} {F : Hs} {T : Trs} {H : Hp} {σ : L2.St} {ρ : Env} {i : Nat} {v : V} {c : Cel} {B : List Addr} (hi : i ≠ 0) (hl : i < ρ.length) (st : StOk pn (FL F B) T H σ ρ) (nd : B.Nodup) (off : ∀ x ∈ B, ¬ F x) (hc : Cels (hid (SF (FL F B) T) H) H [v] [c] B) :
    ∃ T', StOk pn F T' H (σ.set i (some v)) (ρ.set i (toSl c)) ∧ Ex (hid (SF (FL F B) T) H) (hid (SF F T') H) := by
  cases hc with
  | dat r n =>
    cases n
    rw [FL_nil] at st r ⊢
    obtain ⟨st', s⟩ := st.set hi r
    exact ⟨_, st', s.vis⟩
  | sub hb r n =>
    cases n
    obtain ⟨st', vis⟩ := st.own (i := i) hi hl ⟨_, _, [], rfl, hb, Cels.dats r, rfl⟩ nd off
    exact ⟨_, st', vis⟩
  | hal o n =>
    cases n
    rw [List.append_nil] at *
    obtain ⟨st', vis⟩ := st.halN (i := i) hi hl (Nat.le_refl 1000) o nd off
    exact ⟨_, st', vis⟩
theorem ss_par {i j : Nat} {ts : TA} {as : XWC} (hi : i ≠ 0) (hj : j ≠ 0) (hs : SWC ts as) : SS (tPar i j ts) (sPar i j as) := fun pn F T H σ ρ o D st e q => by
  obtain ⟨⟨cs, ρ1⟩, h1, e⟩ := bind_some e
  obtain ⟨⟨c, d⟩, h2, e⟩ := bind_some e
  have ec : cs = _ := two_eq h2
  subst ec
  · skip
    by_cases hl : i < ρ1.length ∧ j < ρ1.length
    · rw [if_pos hl] at e
      cases e
      refine hs pn F T H σ ρ _ ρ1 st h1 _ fun vs B T1 H1 st1 nd off fr vis hc => ?_
      obtain ⟨v, w, rfl⟩ : ∃ v w, vs = [v, w] := by
        have := hc.length
        match vs, this with
        | [v, w], _ => exact ⟨v, w, rfl⟩
      refine ⟨v, w, rfl, ?_⟩
      -- split the addresses
      have split : ∃ B1 B2, B = B1 ++ B2 ∧ Cels (hid (SF (FL F B) T1) H1) H1 [v] [c] B1 ∧ Cels (hid (SF (FL F B) T1) H1) H1 [w] [d] B2 := by
        cases hc with
        | dat r n => exact ⟨[], B, rfl, .dat r .nil, n⟩
        | sub hb r n => exact ⟨[_], _, rfl, .sub hb r .nil, n⟩
        | hal o n => exact ⟨_, _, rfl, by simpa using Cels.hal o Cels.nil, n⟩
      obtain ⟨B1, B2, rfl, c1, c2⟩ := split
      have eF : FL F (B1 ++ B2) = FL (FL F B2) B1 := by rw [FL_app]; exact FL_perm fun x => by simp [or_comm]
      rw [eF] at st1 c1 c2 vis
      have nds := List.nodup_append.mp nd
      obtain ⟨T2, st2, vis2⟩ := StOk.cel (F := FL F B2) hi hl.1 st1 nds.1 (fun x hx z => z.elim (off x (List.mem_append_left _ hx)) fun z => nds.2.2 x hx x z rfl) c1
      have c2' := c2.mv vis2 fun x hx => (rfl : H1 x = H1 x)
      obtain ⟨T3, st3, vis3⟩ := StOk.cel (F := F) hj (by rw [List.length_set]; exact hl.2) st2 nds.2.1 (fun x hx => off x (List.mem_append_right _ hx)) c2'
      exact q _ T3 H1 st3 ⟨fr, (vis.trans vis2).trans vis3⟩
    · rw [if_neg hl] at e; cases e
end
section
variable {G H : Hp}
theorem Cels.snoc : ∀ {vs : List V} {cs : List Cel} {B : List Addr} {v : V} {d : PD}, Cels G H vs cs B → Rp G v d → Cels G H (vs ++ [v]) (cs ++ [.dat d]) B
  | _, _, _, _, _, .nil, r => .dat r .nil
  | _, _, _, _, _, .dat h c, r => .dat h (c.snoc r)
  | _, _, _, _, _, .sub h1 h2 c, r => .sub h1 h2 (c.snoc r)
  | _, _, _, _, _, .hal o c, r => .hal o (c.snoc r)
theorem Cels.set : ∀ (n : Nat) {vs : List V} {cs : List Cel} {B : List Addr} {v : V} {d d0 : PD}, Cels G H vs cs B → cs[n]? = some (.dat d0) → Rp G v d → Cels G H (vs.set n v) (cs.set n (.dat d)) B
  | _, _, _, _, _, _, _, .nil, h, _ => by simp at h
  | 0, _, _, _, _, _, _, .dat _ c, _, r => by simpa using Cels.dat r c
  | 0, _, _, _, _, _, _, .sub _ _ c, h, r => by simp at h
  | 0, _, _, _, _, _, _, .hal _ c, h, r => by simp at h
  | n + 1, _, _, _, _, _, _, .dat h0 c, h, r => by simpa using Cels.dat h0 (c.set n (by simpa using h) r)
  | n + 1, _, _, _, _, _, _, .sub h1 h2 c, h, r => by simpa using Cels.sub h1 h2 (c.set n (by simpa using h) r)
  | n + 1, _, _, _, _, _, _, .hal o c, h, r => by simpa using Cels.hal o (c.set n (by simpa using h) r)
theorem Cels.erase : ∀ (n : Nat) {vs : List V} {cs : List Cel} {B : List Addr} {d0 : PD}, Cels G H vs cs B → cs[n]? = some (.dat d0) → Cels G H (vs.eraseIdx n) (cs.eraseIdx n) B ∧ ∃ v, vs[n]? = some v ∧ Rp G v d0
  | _, _, _, _, _, .nil, h => by simp at h
  | 0, _, _, _, _, .dat r c, h => by
    cases Option.some.inj (show some (Cel.dat _) = some (Cel.dat _) from h)
    exact ⟨by simpa using c, _, rfl, r⟩
  | 0, _, _, _, _, .sub _ _ c, h => by simp at h
  | 0, _, _, _, _, .hal _ c, h => by simp at h
  | n + 1, _, _, _, _, .hal o c, h => by
    obtain ⟨c1, v, e, r⟩ := c.erase n (by simpa using h)
    exact ⟨by simpa using Cels.hal o c1, v, by simpa using e, r⟩
  | n + 1, _, _, _, _, .dat h0 c, h => by
    obtain ⟨c1, v, e, r⟩ := c.erase n (by simpa using h)
    exact ⟨by simpa using Cels.dat h0 c1, v, by simpa using e, r⟩
  | n + 1, _, _, _, _, .sub h1 h2 c, h => by
    obtain ⟨c1, v, e, r⟩ := c.erase n (by simpa using h)
    exact ⟨by simpa using Cels.sub h1 h2 c1, v, by simpa using e, r⟩
end
section
variable {pn : Pn} {F : Hs} {T : Trs} {H : Hp} {σ : L2.St} {ρ : Env}
end
def sApp (i : Nat) (a : XW) : XS := fun ρ => (ownAt ρ i).bind fun _ => (a ρ).bind fun x => (ownAt x.2 i).bind fun cs => if cs.length < 100000 then some (.nxt (x.2.set i (.own (cs ++ [.dat x.1])))) else none
def isI : PD → Option Int
  | .int i => some i
  | _ => none
theorem isI_eq {d : PD} {i : Int} (h : isI d = some i) : d = .int i := by
  cases d with
  | int c => cases h; rfl
  | _ => cases h
def datAt (cs : List Cel) (n : Nat) : Option PD := match cs[n]? with
  | some (.dat d) => some d
  | _ => none
theorem datAt_eq {cs : List Cel} {n : Nat} {d : PD} (h : datAt cs n = some d) : cs[n]? = some (.dat d) := by
  unfold datAt at h
  split at h
  · rename_i e; cases h; exact e
  · cases h
def wPop (i : Nat) (a : XW) : XW := fun ρ => (ownAt ρ i).bind fun _ => (a ρ).bind fun x => (isI x.1).bind fun k => (ownAt x.2 i).bind fun cs => if -(2 ^ 63) ≤ k ∧ k < 2 ^ 63 then (ixN cs.length k).bind fun n => (datAt cs n).bind fun d => some (d, x.2.set i (.own (cs.eraseIdx n))) else none
def sSet (i : Nat) (k : XE) (a : XW) : XS := fun ρ => (a ρ).bind fun x => (ownAt x.2 i).bind fun cs => ((k (vw x.2)).bind isI).bind fun k => (ixN cs.length k).bind fun n => (datAt cs n).bind fun _ => some (.nxt (x.2.set i (.own (cs.set n (.dat x.1)))))
section
variable {te tk tj : TE} {w : XW} {k j : XE}
theorem ss_app {i : Nat} (h : SW te w) : SS (tDrop (tBM K "list" rAppend (tVar i) (tCons te tNil))) (sApp i w) := fun pn F T H σ ρ o D st e q => by
  obtain ⟨c0, h0, e⟩ := bind_some e
  obtain ⟨⟨d, ρ1⟩, h1, e⟩ := bind_some e
  obtain ⟨cs, h2, e⟩ := bind_some e
  by_cases hl : cs.length < 100000
  · rw [if_pos hl] at e
    cases e
    obtain ⟨a, vs, B, ha, hv, _⟩ := st.at_own (ownAt_eq h0)
    refine ⟨.ref a, ha, .inl ⟨rfl, _, .inl (.inl hv)⟩, h pn F T H σ ρ d ρ1 st h1 _ fun v T1 H1 st1 s1 rv => ?_⟩
    obtain ⟨a', vs', B', ha', hv', hc', hT⟩ := st1.at_own (ownAt_eq h2)
    have ea : a' = a := by rw [ha'] at ha; cases ha; rfl
    subst ea
    obtain ⟨st2, s2⟩ := st1.write (ownAt_eq h2) hT ha' (hc'.snoc rv)
    exact ⟨a', vs', v, rfl, rfl, hv', by rw [hc'.length]; exact Evl.sz_lt hl, q σ T1 _ st2 (s1.trans s2)⟩
  · rw [if_neg hl] at e; cases e
theorem sw_pop {i : Nat} (h : SW te w) : SW (tBM K "list" rPopAt (tVar i) (tCons te tNil)) (wPop i w) := fun pn F T H σ ρ d ρ' st e Q q => by
  obtain ⟨c0, h0, e⟩ := bind_some e
  obtain ⟨⟨dk, ρ1⟩, h1, e⟩ := bind_some e
  obtain ⟨kk, hk, e⟩ := bind_some e
  obtain ⟨cs, h2, e⟩ := bind_some e
  by_cases hl : -(2 ^ 63) ≤ kk ∧ kk < 2 ^ 63
  · rw [if_pos hl] at e
    obtain ⟨n, hn, e⟩ := bind_some e
    obtain ⟨d1, hd, e⟩ := bind_some e
    cases e
    have ed : dk = _ := isI_eq hk
    subst ed
    obtain ⟨a, vs, B, ha, hv, _⟩ := st.at_own (ownAt_eq h0)
    refine ⟨.ref a, ha, .inl ⟨rfl, _, .inl (.inl hv)⟩, h pn F T H σ ρ _ ρ1 st h1 _ fun v T1 H1 st1 s1 rv => ?_⟩
    obtain ⟨a', vs', B', ha', hv', hc', hT⟩ := st1.at_own (ownAt_eq h2)
    have ea : a' = a := by rw [ha'] at ha; cases ha; rfl
    subst ea
    cases rv
    obtain ⟨hc2, y, hy, ry⟩ := hc'.erase n (datAt_eq hd)
    obtain ⟨st2, s2⟩ := st1.write (ownAt_eq h2) hT ha' hc2
    refine ⟨a', vs', kk, n, y, rfl, rfl, hv', hl.1, hl.2, (ixN_seq (by rw [hc'.length]; exact hn)).1, hy, q y T1 _ st2 (s1.trans s2) (ry.ex s2.vis)⟩
  · rw [if_neg hl] at e; cases e
theorem ss_set {i : Nat} (hk : SE tk k) (h : SW te w) : SS (tAsg te (gSub (tVar i) tk rSetL)) (sSet i k w) := fun pn F T H σ ρ o D st e q => by
  obtain ⟨⟨d, ρ1⟩, h1, e⟩ := bind_some e
  obtain ⟨cs, h2, e⟩ := bind_some e
  obtain ⟨kk, h3, e⟩ := bind_some e
  obtain ⟨dk, h3, h4⟩ := bind_some h3
  obtain ⟨n, hn, e⟩ := bind_some e
  obtain ⟨d0, hd, e⟩ := bind_some e
  cases e
  have ed : dk = _ := isI_eq h4
  subst ed
  refine h pn F T H σ ρ d ρ1 st h1 _ fun v T1 H1 st1 s1 rv => ?_
  obtain ⟨a', vs', B', ha', hv', hc', hT⟩ := st1.at_own (ownAt_eq h2)
  refine ⟨.ref a', ha', hk _ _ h3 F σ H1 st1.al st1.vw _ fun vk H2 e2 rk => ?_⟩
  cases rk
  have st2 := st1.ex e2
  have s2 : Stp F T1 H1 T1 H2 := Stp.ex st1.al e2
  obtain ⟨a2, vs2, B2, ha2, hv2, hc2, hT2⟩ := st2.at_own (ownAt_eq h2)
  have ea : a2 = a' := by rw [ha2] at ha'; cases ha'; rfl
  subst ea
  obtain ⟨st3, s3⟩ := st2.write (ownAt_eq h2) hT2 ha2 (hc2.set n (datAt_eq hd) (rv.ex s2.vis))
  exact ⟨a2, vs2, kk, n, rfl, rfl, hv2, by rw [hc2.length]; exact hn, q σ T1 _ st3 ((s1.trans s2).trans s3)⟩
end
end Uv

namespace Uv
open PySem PySem.Spec PyProof.Rows L2
open Evl (Ex)
variable [kk : KK]
def forGo (g : XG) (b : XS) : List PD → Env → Option Out
  | [], ρ => some (.nxt ρ)
  | x :: xs, ρ => (g x ρ).bind fun ρ1 => (b ρ1).bind fun o => match o with
    | .nxt ρ2 => forGo g b xs ρ2
    | .cnt ρ2 => forGo g b xs ρ2
    | .brk ρ2 => some (.nxt ρ2)
    | .ret d ρ2 => some (.ret d ρ2)
    | .retO d ρ2 => some (.retO d ρ2)
def sFor (src : XWI) (g : XG) (b : XS) : XS := fun ρ => (src ρ).bind fun x => forGo g b x.1 x.2
theorem ss_for {bb : Bool} {wi : TI} {g : TG} {tb : TS} {vs : List Nat} {src : XWI} {xg : XG} {b : XS} (hs : SWI bb wi src) (hg : SG bb g xg vs) (hb : SS tb b) : SS (tFor wi g tb) (sFor src xg b) := fun pn F T H σ ρ o D st e q => by
  obtain ⟨⟨xs, ρ1⟩, h1, e⟩ := bind_some e
  have e : forGo xg b xs ρ1 = some o := e
  refine hs pn F T H σ ρ xs ρ1 st h1 _ fun J T1 H1 st1 s1 wk => ?_
  refine ⟨fun i m σ' H' => m = xs.length - i ∧ i ≤ xs.length ∧ ∃ T' ρ', StOk pn F T' H' σ' ρ' ∧ Stp F T1 H1 T' H' ∧ forGo xg b (xs.drop i) ρ' = some o, ⟨_, rfl, Nat.zero_le _, T1, ρ1, st1, Stp.refl, e⟩, fun i m σ' H' hw => ?_⟩
  obtain ⟨rfl, hi, T', ρ', st', s', hgo⟩ := hw
  obtain ⟨w1, w2⟩ := wk _ H' s'.vis st'.als
  by_cases hlt : i < xs.length
  · obtain ⟨w3, w4⟩ := w2 i _ (List.getElem?_eq_getElem hlt)
    rw [List.drop_eq_getElem_cons hlt] at hgo
    obtain ⟨ρ2, g1, hgo⟩ := bind_some (show (xg xs[i] ρ').bind _ = some o from hgo)
    obtain ⟨o2, b1, hgo⟩ := bind_some hgo
    refine .inr ⟨w3, fun σ2 H2 => ∃ T2 ρ2, StOk pn F T2 H2 σ2 ρ2 ∧ Stp F T1 H1 T2 H2 ∧ forGo xg b (xs.drop (i + 1)) ρ2 = some o, fun σ2 H2 hn => ⟨_, by omega, rfl, hlt, hn⟩, fun v H3 y => ?_⟩
    obtain ⟨e3, rv⟩ := w4 v H3 y
    have st3 := st'.ex e3
    have s3 : Stp F T' H' T' H3 := Stp.ex st'.al e3
    refine hg pn F T' H3 σ' v _ ρ' ρ2 st3 g1 rv _ fun σ4 T4 st4 s4 _ => ?_
    have s14 := (s'.trans s3).trans s4
    cases o2 with
    | nxt ρ5 => exact hb pn F T4 H3 σ4 ρ2 _ _ st4 b1 fun σ5 T5 H5 st5 s5 => ⟨T5, ρ5, st5, s14.trans s5, hgo⟩
    | cnt ρ5 => exact hb pn F T4 H3 σ4 ρ2 _ _ st4 b1 fun σ5 T5 H5 st5 s5 => ⟨T5, ρ5, st5, s14.trans s5, hgo⟩
    | brk ρ5 =>
      cases hgo
      exact hb pn F T4 H3 σ4 ρ2 _ _ st4 b1 fun σ5 T5 H5 st5 s5 => q σ5 T5 H5 st5 (s1.trans (s14.trans s5))
    | ret d ρ5 =>
      cases hgo
      exact hb pn F T4 H3 σ4 ρ2 _ _ st4 b1 (OutOk.on (fun _ z => nomatch z) (fun _ z => nomatch z) (fun _ z => nomatch z) (q.step (s1.trans s14)))
    | retO d ρ5 =>
      cases hgo
      exact hb pn F T4 H3 σ4 ρ2 _ _ st4 b1 (OutOk.on (fun _ z => nomatch z) (fun _ z => nomatch z) (fun _ z => nomatch z) (q.step (s1.trans s14)))
  · have ei : i = xs.length := by omega
    subst ei
    rw [List.drop_length] at hgo
    cases hgo
    exact .inl ⟨w1, q σ' T' H' st' (s1.trans s')⟩
def whGo (c : XWT) (b : XS) : Nat → Env → Option Out
  | 0, _ => none
  | n + 1, ρ => (c ρ).bind fun k => if k.1 = true then (b k.2).bind fun o => match o with
    | .nxt ρ2 => whGo c b n ρ2
    | .cnt ρ2 => whGo c b n ρ2
    | .brk ρ2 => some (.nxt ρ2)
    | .ret d ρ2 => some (.ret d ρ2)
    | .retO d ρ2 => some (.retO d ρ2)
    else some (.nxt k.2)
def fuel : Nat := 100000
theorem fuel_lt {k : Nat} (h : k < 100000) : k < fuel := h
def sWhile (n : Nat) (c : XWT) (b : XS) : XS := whGo c b n
theorem ss_while {n : Nat} {ct : TT} {tb : TS} {c : XWT} {b : XS} (hc : SWT ct c) (hb : SS tb b) : SS (tWhile ct tb) (sWhile n c b) := fun pn F T H σ ρ o D st e q => by
  refine ⟨fun m σ' H' => ∃ T' ρ', StOk pn F T' H' σ' ρ' ∧ Stp F T H T' H' ∧ whGo c b m ρ' = some o, ⟨n, T, ρ, st, Stp.refl, e⟩, fun m σ' H' hw => ?_⟩
  obtain ⟨T', ρ', st', s', hgo⟩ := hw
  cases m with
  | zero => cases hgo
  | succ m =>
    obtain ⟨⟨k, ρ1⟩, h1, hgo⟩ := bind_some (show (c ρ').bind _ = some o from hgo)
    refine hc pn F T' H' σ' ρ' k ρ1 st' h1 _ fun T1 H1 st1 s1 => ?_
    cases k with
    | false => cases hgo; exact iteF (q σ' T1 H1 st1 (s'.trans s1))
    | true =>
      obtain ⟨o2, b1, hgo⟩ := bind_some (show (b ρ1).bind _ = some o from hgo)
      refine iteT ⟨fun σ2 H2 => ∃ T2 ρ2, StOk pn F T2 H2 σ2 ρ2 ∧ Stp F T H T2 H2 ∧ whGo c b m ρ2 = some o, fun σ2 H2 hn => ⟨m, Nat.lt_succ_self _, hn⟩, ?_⟩
      have s2 := s'.trans s1
      cases o2 with
      | nxt ρ5 => exact hb pn F T1 H1 σ' ρ1 _ _ st1 b1 fun σ5 T5 H5 st5 s5 => ⟨T5, ρ5, st5, s2.trans s5, hgo⟩
      | cnt ρ5 => exact hb pn F T1 H1 σ' ρ1 _ _ st1 b1 fun σ5 T5 H5 st5 s5 => ⟨T5, ρ5, st5, s2.trans s5, hgo⟩
      | brk ρ5 =>
        cases hgo
        exact hb pn F T1 H1 σ' ρ1 _ _ st1 b1 fun σ5 T5 H5 st5 s5 => q σ5 T5 H5 st5 (s2.trans s5)
      | ret d ρ5 =>
        cases hgo
        exact hb pn F T1 H1 σ' ρ1 _ _ st1 b1 (OutOk.on (fun _ z => nomatch z) (fun _ z => nomatch z) (fun _ z => nomatch z) (q.step s2))
      | retO d ρ5 =>
        cases hgo
        exact hb pn F T1 H1 σ' ρ1 _ _ st1 b1 (OutOk.on (fun _ z => nomatch z) (fun _ z => nomatch z) (fun _ z => nomatch z) (q.step s2))
def fzE (ρ : Env) (i : Nat) : Env := match ρ[i]? with
  | some (.own cs) => ρ.set i (.dat (.list (cs.map Cel.pd)))
  | _ => ρ
def sFz (i : Nat) (y : XS) : XS := fun ρ => y (fzE ρ i)
theorem StOk.fz1 {pn : Pn} {F : Hs} {T : Trs} {H : Hp} {σ : L2.St} {ρ : Env} (st : StOk pn F T H σ ρ) (i : Nat) : ∃ T', StOk pn F T' H σ (fzE ρ i) ∧ Stp F T H T' H := by
  unfold fzE
  cases hi : ρ[i]? with
  | none => exact ⟨T, st, Stp.refl⟩
  | some s =>
    cases s with
    | un => exact ⟨T, st, Stp.refl⟩
    | dat d => exact ⟨T, st, Stp.refl⟩
    | dic l => exact ⟨T, st, Stp.refl⟩
    | hal k h => exact ⟨T, st, Stp.refl⟩
    | own cs =>
      have sub : Ex (hid (SF F T) H) (hid (SF F (setT T i [])) H) := hid_sub SF_setT_nil
      have mem : ∀ j x, x ∈ setT T i [] j → x ∈ T j ∧ j ≠ i := fun j x h => by
        by_cases c : j = i
        · subst c; rw [setT_same] at h; cases h
        · rw [setT_ne c] at h; exact ⟨h, c⟩
      refine ⟨setT T i [], ⟨by rw [List.length_set]; exact st.len, st.al, fun j x h => st.off j x (mem j x h).1, fun j k x h h' => st.dis j k x (mem j x h).1 (mem k x h').1, fun j => ?_, fun j hj => ?_, fun j q hq => ?_, st.pin⟩, ⟨fun _ _ => rfl, sub⟩⟩
      · by_cases c : j = i
        · subst c; rw [setT_same]; exact List.nodup_nil
        · rw [setT_ne c]; exact st.nd j
      · rw [List.length_set] at hj
        by_cases c : j = i
        · subst c; rw [setT_same]
        · rw [setT_ne c]; exact st.out j hj
      · by_cases c : i = j
        · subst c
          have hl : i < ρ.length := (List.getElem?_eq_some_iff.mp hi).1
          rw [List.getElem?_set_self hl] at hq
          cases hq
          obtain ⟨o, h1, v, rfl, ow⟩ := st.sl i _ hi
          rw [setT_same]
          refine ⟨_, h1, rfl, v, rfl, ow.rp sub fun x hx => hid_out ?_⟩
          rintro (z | ⟨j, z⟩)
          · exact st.off i x hx z
          · obtain ⟨z1, z2⟩ := mem j x z
            exact z2 (st.dis j i x z1 hx)
        · rw [List.getElem?_set_ne c] at hq
          obtain ⟨o', h1, h2⟩ := st.sl j q hq
          rw [setT_ne (fun z => c z.symm)]
          exact ⟨o', h1, h2.mv sub fun _ _ => rfl⟩
theorem ss_fz {i : Nat} {t : TS} {y : XS} (h : SS t y) : SS t (sFz i y) := fun pn F T H σ ρ o D st e q => by
  obtain ⟨T', st', s'⟩ := st.fz1 i
  exact h pn F T' H σ _ o D st' e (q.step s')
def clearE (ρ : Env) : List Nat → Env
  | [] => ρ
  | v :: vs => (clearE ρ vs).set v .un
def keepD : Option Sl → Sl
  | some (.dat d) => .dat d
  | _ => .un
def backE (ρ1 ρ : Env) : List Nat → Env
  | [] => ρ
  | v :: vs => (backE ρ1 ρ vs).set v (keepD ρ1[v]?)
theorem StOk.clear {pn : Pn} {F : Hs} {H : Hp} {σ : L2.St} {ρ : Env} : ∀ {T : Trs} (vs : List Nat), 0 ∉ vs → StOk pn F T H σ ρ → ∃ T', StOk pn F T' H (wipe σ vs) (clearE ρ vs) ∧ Stp F T H T' H
  | T, [], _, st => ⟨T, st, Stp.refl⟩
  | T, v :: vs, h0, st => by
    obtain ⟨T1, st1, s1⟩ := StOk.clear vs (fun z => h0 (List.mem_cons_of_mem _ z)) st
    obtain ⟨st2, s2⟩ := st1.drop (i := v) (o := none) (s := .un) (fun z => h0 (by rw [z]; exact List.mem_cons_self ..)) rfl
    exact ⟨_, st2, s1.trans s2⟩
theorem clearE_len {ρ : Env} : ∀ vs : List Nat, (clearE ρ vs).length = ρ.length
  | [] => rfl
  | v :: vs => by unfold clearE; rw [List.length_set, clearE_len vs]
theorem backE_len {ρ1 ρ : Env} : ∀ vs : List Nat, (backE ρ1 ρ vs).length = ρ.length
  | [] => rfl
  | v :: vs => by unfold backE; rw [List.length_set, backE_len vs]
theorem clearE_off {ρ : Env} {i : Nat} : ∀ {vs : List Nat}, i ∉ vs → (clearE ρ vs)[i]? = ρ[i]?
  | [], _ => rfl
  | v :: vs, h => by
    unfold clearE
    rw [List.getElem?_set_ne (fun z => h (by rw [← z]; exact List.mem_cons_self ..))]
    exact clearE_off fun z => h (List.mem_cons_of_mem _ z)
theorem clearE_at {ρ : Env} {i : Nat} : ∀ {vs : List Nat}, i ∈ vs → i < ρ.length → (clearE ρ vs)[i]? = some .un
  | v :: vs, h, hl => by
    unfold clearE
    by_cases c : v = i
    · subst c; exact List.getElem?_set_self (by rw [clearE_len]; exact hl)
    · rw [List.getElem?_set_ne c]
      exact clearE_at ((List.mem_cons.mp h).resolve_left fun z => c z.symm) hl
theorem backE_off {ρ1 ρ : Env} {i : Nat} : ∀ {vs : List Nat}, i ∉ vs → (backE ρ1 ρ vs)[i]? = ρ[i]?
  | [], _ => rfl
  | v :: vs, h => by
    unfold backE
    rw [List.getElem?_set_ne (fun z => h (by rw [← z]; exact List.mem_cons_self ..))]
    exact backE_off fun z => h (List.mem_cons_of_mem _ z)
theorem backE_at {ρ1 ρ : Env} {i : Nat} : ∀ {vs : List Nat}, i ∈ vs → i < ρ.length → (backE ρ1 ρ vs)[i]? = some (keepD ρ1[i]?)
  | v :: vs, h, hl => by
    unfold backE
    by_cases c : v = i
    · subst c; exact List.getElem?_set_self (by rw [backE_len]; exact hl)
    · rw [List.getElem?_set_ne c]
      exact backE_at ((List.mem_cons.mp h).resolve_left fun z => c z.symm) hl
def wlGo (g : XG) (t : XWT) (e : XW) (vs : List Nat) : List PD → Env → Option (List PD × Env)
  | [], ρ => some ([], ρ)
  | x :: xs, ρ => (g x (clearE ρ vs)).bind fun ρ1 => (t ρ1).bind fun b => if b.1 = true then (e b.2).bind fun d => (wlGo g t e vs xs d.2).bind fun r => some (d.1 :: r.1, r.2) else wlGo g t e vs xs b.2
def wLc (src : XWI) (g : XG) (t : XWT) (e : XW) (vs : List Nat) : XWO := fun ρ => (src ρ).bind fun x => if x.1.length ≤ 40000 then (wlGo g t e vs x.1 x.2).bind fun r => some (r.1.map Cel.dat, backE x.2 r.2 vs) else none
theorem wl_step {g : XG} {t : XWT} {e : XW} {vs : List Nat} {ρ : Env} {x : PD} {xs : List PD} {r : List PD × Env} (h : wlGo g t e vs (x :: xs) ρ = some r) : ∃ ρ1 b ρ2, g x (clearE ρ vs) = some ρ1 ∧ t ρ1 = some (b, ρ2) ∧ ((b = true ∧ ∃ d ρ3 r', e ρ2 = some (d, ρ3) ∧ wlGo g t e vs xs ρ3 = some r' ∧ r = (d :: r'.1, r'.2)) ∨ (b = false ∧ wlGo g t e vs xs ρ2 = some r)) := by
  obtain ⟨ρ1, h1, h⟩ := bind_some (show (g x (clearE ρ vs)).bind _ = some r from h)
  obtain ⟨⟨b, ρ2⟩, h2, h⟩ := bind_some h
  refine ⟨ρ1, b, ρ2, h1, h2, ?_⟩
  cases b with
  | true =>
    obtain ⟨⟨d, ρ3⟩, h3, h⟩ := bind_some (show (e ρ2).bind _ = some r from h)
    obtain ⟨r', h4, h⟩ := bind_some h
    cases h
    exact .inl ⟨rfl, d, ρ3, r', h3, h4, rfl⟩
  | false => exact .inr ⟨rfl, h⟩
theorem swo_lc {b : Bool} {wi : TI} {g : TG} {tt : TT} {te : TE} {vs us : List Nat} {src : XWI} {xg : XG} {t : XWT} {e : XW} (hs : SWI b wi src) (hg : SG b g xg us) (hu : ∀ i ∈ us, i ∈ vs) (h0 : 0 ∉ vs) (ht : SWT tt t) (he : SW te e) : SWO (tLc wi g tt te vs) (wLc src xg t e vs) := fun pn F T H σ ρ cs ρ' st hh Q q => by
  obtain ⟨⟨xs, ρ1⟩, h1, hh⟩ := bind_some hh
  by_cases hz : xs.length ≤ 40000
  · rw [if_pos hz] at hh
    obtain ⟨r, h2, hh⟩ := bind_some hh
    have h2 : wlGo xg t e vs xs ρ1 = some r := h2
    cases hh
    refine hs pn F T H σ ρ xs ρ1 st h1 _ fun J T1 H1 st1 s1 wk D hD => ?_
    have alD : ∀ {H' : Hp} {v : HO}, H' D = some v → H' D ≠ none := fun e z => by rw [e] at z; cases z
    obtain ⟨st2, vis2⟩ := st1.fresh (Ex.new (o := .lst []) hD) hD (by rw [upd_same]; exact fun z => nomatch z)
    obtain ⟨T3, st3, s3⟩ := st2.clear vs h0
    have npF : ∀ x, F x → x ≠ D := fun x hx z => by
      have := st1.al x hx
      rw [z, hD] at this
      exact this rfl
    refine ⟨fun i m H' => m = xs.length - i ∧ i ≤ xs.length ∧ ∃ T' ρ' acc ds1 r', StOk pn (FL F [D]) T' H' (wipe σ vs) (clearE ρ' vs) ∧ ρ'.length = ρ1.length ∧ (∀ x, F x → H' x = H1 x) ∧ Ex (hid (SF F T1) H1) (hid (SF (FL F [D]) T') H') ∧ H' D = some (.lst acc) ∧ acc.length ≤ i ∧ RpAll (hid (SF (FL F [D]) T') H') acc ds1 ∧ wlGo xg t e vs (xs.drop i) ρ' = some r' ∧ r = (ds1 ++ r'.1, r'.2),
      ⟨_, rfl, Nat.zero_le _, T3, ρ1, [], [], r, st3, rfl, fun x hx => upd_ne (npF x hx), vis2.trans s3.vis, upd_same, Nat.le_refl _, .nil, h2, rfl⟩, fun i m H' hw => ?_⟩
    obtain ⟨rfl, hi, T', ρ', acc, ds1, r', st', hlen, fr', vis', hacc, la, ra, hgo, hr⟩ := hw
    obtain ⟨w1, w2⟩ := wk _ H' vis' st'.als
    by_cases hlt : i < xs.length
    · obtain ⟨w3, w4⟩ := w2 i _ (List.getElem?_eq_getElem hlt)
      rw [List.drop_eq_getElem_cons hlt] at hgo
      obtain ⟨ρ4, b4, ρ5, g4, t4, alt⟩ := wl_step hgo
      refine .inr ⟨w3, fun H2 => ∃ T' ρ' acc ds1 r', StOk pn (FL F [D]) T' H2 (wipe σ vs) (clearE ρ' vs) ∧ ρ'.length = ρ1.length ∧ (∀ x, F x → H2 x = H1 x) ∧ Ex (hid (SF F T1) H1) (hid (SF (FL F [D]) T') H2) ∧ H2 D = some (.lst acc) ∧ acc.length ≤ i + 1 ∧ RpAll (hid (SF (FL F [D]) T') H2) acc ds1 ∧ wlGo xg t e vs (xs.drop (i + 1)) ρ' = some r' ∧ r = (ds1 ++ r'.1, r'.2), fun H2 hn => ⟨_, by omega, rfl, hlt, hn⟩, fun v H3 y => ?_⟩
      obtain ⟨e3, rv⟩ := w4 v H3 y
      have st3 := st'.ex e3
      have s3 : Stp (FL F [D]) T' H' T' H3 := Stp.ex st'.al e3
      refine hg pn (FL F [D]) T' H3 (wipe σ vs) v _ _ ρ4 st3 g4 rv _ fun σ4 T4 st4 s4 off => ⟨wipe_off off hu, ?_⟩
      refine ht pn (FL F [D]) T4 H3 σ4 ρ4 b4 ρ5 st4 t4 _ fun T5 H5 st5 s5 => ?_
      have s15 := (s3.trans s4).trans s5
      have hD5 : H5 D = some (.lst acc) := by rw [s15.fr D (.inr (List.mem_cons_self ..))]; exact hacc
      rcases alt with ⟨rfl, d, ρ6, r6, f1, f2, rfl⟩ | ⟨rfl, f2⟩
      · show te σ4 H5 _
        refine he pn (FL F [D]) T5 H5 σ4 ρ5 d ρ6 st5 f1 _ fun z T6 H6 st6 s6 rz => ?_
        have s16 := s15.trans s6
        have hD6 : H6 D = some (.lst acc) := by rw [s6.fr D (.inr (List.mem_cons_self ..))]; exact hD5
        refine ⟨acc, hD6, Evl.sz_lt (by omega), ?_⟩
        have hS : SF (FL F [D]) T6 D := .inl (.inr (List.mem_cons_self ..))
        have vis7 : Ex (hid (SF (FL F [D]) T6) H6) (hid (SF (FL F [D]) T6) (upd H6 D (.lst (acc ++ [z])))) := fun x o h => by
          obtain ⟨c, h⟩ := hid_some h
          rw [hid_out c, upd_ne (fun z => c (by rw [z]; exact hS))]
          exact h
        have st7 : StOk pn (FL F [D]) T6 (upd H6 D (.lst (acc ++ [z]))) σ4 ρ6 := st6.mv vis7 (fun j x hx => upd_ne fun z => st6.off j x hx (by rw [z]; exact .inr (List.mem_cons_self ..))) fun x hx => by
          by_cases c : x = D
          · subst c; rw [upd_same]; exact fun z => nomatch z
          · rw [upd_ne c]; exact st6.al x hx
        obtain ⟨T8, st8, s8⟩ := st7.clear vs h0
        rw [wipe_off off hu] at st8
        have vis8 := vis7.trans s8.vis
        refine ⟨T8, ρ6, acc ++ [z], ds1 ++ [d], r6, st8, ?_, fun x hx => ?_, ((vis'.trans s16.vis).trans vis8), upd_same, by rw [List.length_append]; simpa using la, RpAll.append (ra.ex (s16.vis.trans vis8)) (.cons (rz.ex vis8) .nil), f2, by rw [hr]; simp⟩
        · have l6 := st6.len
          have l5 := off.1
          rw [wipe_length] at l5
          have l1 := st1.len
          omega
        · rw [upd_ne (npF x hx), s16.fr x (.inl hx)]
          exact fr' x hx
      · obtain ⟨T8, st8, s8⟩ := st5.clear vs h0
        rw [wipe_off off hu] at st8
        refine ⟨T8, ρ5, acc, ds1, r', st8, ?_, fun x hx => ?_, (vis'.trans s15.vis).trans s8.vis, hD5, by omega, ra.ex (s15.vis.trans s8.vis), f2, hr⟩
        · have l6 := st5.len
          have l5 := off.1
          rw [wipe_length] at l5
          have l1 := st1.len
          omega
        · rw [s15.fr x (.inl hx)]
          exact fr' x hx
    · have ei : i = xs.length := by omega
      subst ei
      rw [List.drop_length] at hgo
      cases hgo
      rw [List.append_nil] at hr
      subst hr
      refine .inl ⟨w1, q (.ref D) [D] T' H' ⟨?_, st'.al, st'.off, st'.dis, st'.nd, fun j hj => st'.out j (by rw [backE_len] at hj; rw [clearE_len]; exact hj), fun j s hj => ?_, fun v hv => st1.pin v hv⟩ (by simp) (fun x hx => ?_) (fun x hx => (fr' x hx).trans (s1.fr x hx)) (s1.vis.trans vis') ⟨D, acc, [], rfl, hacc, Cels.dats ra, rfl⟩⟩
      · rw [backE_len, hlen]; exact st1.len
      · have hjl : j < ρ'.length := by
          have := (List.getElem?_eq_some_iff.mp hj).1
          rw [backE_len] at this
          exact this
        by_cases c : j ∈ vs
        · rw [backE_at c hjl] at hj
          cases hj
          obtain ⟨o', _, h2⟩ := st'.sl j .un (clearE_at c hjl)
          have hT : T' j = [] := h2
          have hσ : j < σ.length := by rw [st1.len, ← hlen]; exact hjl
          rw [hT]
          have h9 : ρ1[j]? = some (ρ1[j]'(by rw [← hlen]; exact hjl)) := List.getElem?_eq_getElem _
          rw [h9]
          obtain ⟨o9, k1, k2⟩ := st1.sl j _ h9
          cases hs9 : ρ1[j]'(by rw [← hlen]; exact hjl) with
          | un => exact ⟨_, List.getElem?_eq_getElem hσ, rfl⟩
          | own cs => exact ⟨_, List.getElem?_eq_getElem hσ, rfl⟩
          | dic l => exact ⟨_, List.getElem?_eq_getElem hσ, rfl⟩
          | hal k h => exact ⟨_, List.getElem?_eq_getElem hσ, rfl⟩
          | dat d =>
            rw [hs9] at k2
            obtain ⟨_, v, rfl, rv⟩ := k2
            exact ⟨_, k1, rfl, v, rfl, rv.ex vis'⟩
        · rw [backE_off c] at hj
          obtain ⟨o', k1, k2⟩ := st'.sl j s (by rw [clearE_off c]; exact hj)
          rw [wipe_get c] at k1
          exact ⟨o', k1, k2⟩
      · have ex : x = D := by simpa using hx
        rw [ex]
        exact fun z => npF D z rfl
  · rw [if_neg hz] at hh; cases hh
def runP (n k : Nat) (X : XS) (ds : List PD) : Option PD := if ds.length = n then (X (ds.map Sl.dat ++ List.replicate k Sl.un)).bind fun o => match o with
  | .ret d _ => some d
  | .nxt _ => some .none
  | _ => none else none
def runW (n k : Nat) (X : XS) (cs : List Cel) (ds : List PD) : Option (PD × List Cel) := if ds.length = n then (X (.own cs :: (ds.map Sl.dat ++ List.replicate k Sl.un))).bind fun o => match o with
  | .ret d ρ => (ownAt ρ 0).bind fun cs' => some (d, cs')
  | .nxt ρ => (ownAt ρ 0).bind fun cs' => some (.none, cs')
  | _ => none else none
def runD (n k : Nat) (X : XS) (ds : List PD) : Option (List Cel) := if ds.length = n then (X (ds.map Sl.dat ++ List.replicate k Sl.un)).bind fun o => match o with
  | .retO cs _ => some cs
  | _ => none else none
def spD (f : List PD → Option (List Cel)) : Sp := fun vs H Q _ => ∃ S ds cs, Al S H ∧ RpAll (hid S H) vs ds ∧ f ds = some cs ∧ ∀ v A H2, Ex H H2 → A.Nodup → (∀ x ∈ A, ¬ S x ∧ H x = none) → Own (hid (FL S A) H2) H2 v cs A → Q v H2
theorem sw_callD {f : List PD → Option (List Cel)} {ts : TA} {as : XWA} (hs : SWA ts as) : SWO (tCall (spD f) [] E0 ts) (fun ρ => (as ρ).bind fun x => (f x.1).bind fun cs => some (cs, x.2)) := fun pn F T H σ ρ cs ρ' st e Q q => by
  obtain ⟨⟨xs, ρ1⟩, h1, e⟩ := bind_some e
  obtain ⟨z, h3, e⟩ := bind_some e
  cases e
  refine hs pn F T H σ ρ xs _ st h1 _ fun vs T1 H1 st1 s1 rv => ⟨SF F T1, xs, cs, st1.als, by rw [List.append_nil]; exact rv, h3, fun v A H2 e2 nd off ow => ?_⟩
  have eq : SF (FL F A) T1 = FL (SF F T1) A := funext fun x => propext ⟨fun h => h.elim (fun h => h.elim (fun z => .inl (.inl z)) .inr) fun z => .inl (.inr z), fun h => h.elim (fun h => h.elim (fun z => .inl (.inl z)) .inr) fun z => .inl (.inr z)⟩
  have vis : Ex (hid (SF F T1) H1) (hid (SF (FL F A) T1) H2) := fun x o h => by
    obtain ⟨c, h⟩ := hid_some h
    rw [hid_out]
    · exact e2 x o h
    · rw [eq]
      rintro (z | z)
      · exact c z
      · rw [(off x z).2] at h; cases h
  have st2 := st1.ex e2
  refine q v A T1 H2 ⟨st2.len, fun x hx => hx.elim (st2.al x) (fun z => let ⟨ob, g, _⟩ := ow.lst x z; fun w => by rw [g] at w; cases w), fun i x hx z => z.elim (st1.off i x hx) fun z => (off x z).1 (.inr ⟨i, hx⟩), st2.dis, st2.nd, st2.out, fun i s hi => ?_, st2.pin⟩ nd (fun x hx z => (off x hx).1 (.inl z)) (fun x hx => ((Stp.ex (T := T1) st1.al e2).fr x hx).trans (s1.fr x hx)) (s1.vis.trans vis) (by rw [eq]; exact ow)
  obtain ⟨o, k1, k2⟩ := st1.sl i s hi
  refine ⟨o, k1, k2.mv vis fun x hx => ?_⟩
  obtain ⟨ws, g, _⟩ := st1.lst hx
  rw [g, e2 x _ g]
theorem st0 {S : Hs} {H : Hp} {N : List Str} {vs : List V} {ds : List PD} {n k : Nat} (al : Al S H) (ra : RpAll (hid S H) vs ds) (hn : ds.length = n) (hN : N.length = n + k) : StOk pn0 S (fun _ => []) H (L2.start N vs) (ds.map Sl.dat ++ List.replicate k Sl.un) := by
  have e : N.length - vs.length = k := by rw [ra.length, hN, hn]; omega
  have eS : ∀ x, S x ↔ SF S (fun _ => []) x := fun x => ⟨.inl, fun h => h.elim id fun ⟨_, z⟩ => nomatch z⟩
  refine ⟨by unfold L2.start; rw [List.length_append, List.length_map, List.length_append, List.length_map, List.length_replicate, List.length_replicate, e, ra.length], al, fun i x h => (nomatch h), fun i j x h => (nomatch h), fun i => List.nodup_nil, fun i _ => rfl, fun i s hi => ?_, fun v z => nomatch z⟩
  unfold L2.start
  rw [e]
  by_cases c : i < ds.length
  · rw [List.getElem?_append_left (by rw [List.length_map]; exact c), List.getElem?_map, List.getElem?_eq_getElem c] at hi
    cases hi
    obtain ⟨v, h1, h2⟩ := ra.get (List.getElem?_eq_getElem c)
    refine ⟨some v, ?_, rfl, v, rfl, ?_⟩
    · rw [List.getElem?_append_left (by rw [List.length_map, ra.length]; exact c), List.getElem?_map, h1]
      rfl
    · rw [← hid_eq eS]; exact h2
  · rw [List.getElem?_append_right (by rw [List.length_map]; omega), List.getElem?_replicate] at hi
    rw [List.getElem?_append_right (by rw [List.length_map, ra.length]; omega), List.getElem?_replicate]
    rw [List.length_map] at hi ⊢
    rw [ra.length]
    split at hi
    · rename_i c2
      cases hi
      exact ⟨none, by rw [if_pos c2], rfl⟩
    · cases hi
theorem go_P {t : TS} {X : XS} {N : List Str} {vs : List V} {H : Hp} {Q : VK} {E : XK} {n k : Nat} (hX : SS t X) (hN : N.length = n + k) (hs : spF (runP n k X) vs H Q E) : t { nx := fun _ H' => Q .non H', rt := Q } (L2.start N vs) H := by
  obtain ⟨S, ds, d, al, ra, h, q⟩ := hs
  unfold runP at h
  by_cases hn : ds.length = n
  · rw [if_pos hn] at h
    obtain ⟨o, h1, h⟩ := bind_some h
    have eS : ∀ {T' : Trs} x, S x → SF S T' x := fun x => .inl
    have ex : ∀ {T' : Trs} {H' : Hp}, Stp S (fun _ => []) H T' H' → Ex H H' := fun {T' H'} s x o hx => by
      by_cases c : S x
      · rw [s.fr x c]; exact hx
      · exact hid_le _ _ (s.vis x o (by rw [hid_out (fun z => z.elim c fun ⟨_, z⟩ => nomatch z)]; exact hx))
    refine hX pn0 S _ H _ _ o _ (st0 al ra hn hN) h1 ?_
    cases o with
    | ret d' ρ' => cases h; exact fun v σ T' H' st' s' rv => q v H' (ex s') (rv.ex (hid_sub fun x hx => .inl hx))
    | nxt ρ' => cases h; exact fun σ T' H' st' s' => q .non H' (ex s') .non
    | retO _ _ => cases h
    | brk _ => cases h
    | cnt _ => cases h
  · rw [if_neg hn] at h; cases h
theorem go_D {t : TS} {X : XS} {N : List Str} {vs : List V} {H : Hp} {Q : VK} {E : XK} {n k : Nat} (hX : SS t X) (hN : N.length = n + k) (hs : spD (runD n k X) vs H Q E) : t { nx := fun _ H' => Q .non H', rt := Q } (L2.start N vs) H := by
  obtain ⟨S, ds, d, al, ra, h, q⟩ := hs
  unfold runD at h
  by_cases hn : ds.length = n
  · rw [if_pos hn] at h
    obtain ⟨o, h1, h⟩ := bind_some h
    refine hX pn0 S _ H _ _ o _ (st0 al ra hn hN) h1 ?_
    cases o with
    | retO d' ρ' =>
      cases h
      intro v A σ T' H' st' nd off fr vis ow
      have ex : Ex H H' := fun x o hx => by
        by_cases c : S x
        · rw [fr x c]; exact hx
        · exact hid_le _ _ (vis x o (by rw [hid_out (fun z => z.elim c fun ⟨_, z⟩ => nomatch z)]; exact hx))
      refine q v A H' ex nd (fun x hx => ⟨off x hx, ?_⟩) (ow.mv (hid_sub fun x hx => .inl hx) fun _ _ => rfl)
      cases qq : H x with
      | none => rfl
      | some o =>
        obtain ⟨c, _⟩ := hid_some (vis x o (by rw [hid_out (fun z => z.elim (off x hx) fun ⟨_, z⟩ => nomatch z)]; exact qq))
        exact absurd (.inl (.inr hx)) c
    | ret _ _ => cases h
    | nxt _ => cases h
    | brk _ => cases h
    | cnt _ => cases h
  · rw [if_neg hn] at h; cases h
theorem go_W {t : TS} {X : XS} {N : List Str} {vs : List V} {H : Hp} {Q : VK} {E : XK} {n k : Nat} (hX : SS t X) (hN : N.length = n + 1 + k) (hs : spW (runW n k X) vs H Q E) : t { nx := fun _ H' => Q .non H', rt := Q } (L2.start N vs) H := by
  obtain ⟨F, a, B, cs, ws, ds, d, cs', rfl, al, off, nd, ow, ra, h, q⟩ := hs
  unfold runW at h
  by_cases hn : ds.length = n
  · rw [if_pos hn] at h
    obtain ⟨o, h1, h⟩ := bind_some h
    obtain ⟨T, hT⟩ : ∃ T : Trs, T = fun i => if i = 0 then a :: B else [] := ⟨_, rfl⟩
    have T0 : T 0 = a :: B := by rw [hT]; rfl
    have TS : ∀ i, i ≠ 0 → T i = [] := fun i hi => by rw [hT]; exact if_neg hi
    have eqv : ∀ x, FL F (a :: B) x ↔ SF F T x := fun x => by
      constructor
      · rintro (z | z)
        · exact .inl z
        · exact .inr ⟨0, by rw [T0]; exact z⟩
      · rintro (z | ⟨i, z⟩)
        · exact .inl z
        · by_cases c : i = 0
          · subst c; rw [T0] at z; exact .inr z
          · rw [TS i c] at z; cases z
    have eh : hid (FL F (a :: B)) H = hid (SF F T) H := hid_eq eqv
    have e : N.length - (V.ref a :: ws).length = k := by rw [List.length_cons, ra.length, hN, hn]; omega
    have st : StOk (pn1 (.ref a)) F T H (L2.start N (.ref a :: ws)) (.own cs :: (ds.map Sl.dat ++ List.replicate k Sl.un)) := by
      have mem : ∀ i x, x ∈ T i → i = 0 ∧ x ∈ a :: B := fun i x hx => by
        by_cases c : i = 0
        · subst c; rw [T0] at hx; exact ⟨rfl, hx⟩
        · rw [TS i c] at hx; cases hx
      refine ⟨?_, al, fun i x hx => off x (mem i x hx).2, fun i j x hx hy => (mem i x hx).1.trans (mem j x hy).1.symm, fun i => ?_, fun i hi => TS i (by rw [List.length_cons] at hi; omega), fun i s hi => ?_, fun v hv => ?_⟩
      · unfold L2.start
        rw [e]
        simp only [List.map_cons, List.cons_append, List.length_cons, List.length_append, List.length_map, List.length_replicate]
        rw [ra.length]
      · by_cases c : i = 0
        · subst c; rw [T0]; exact nd
        · rw [TS i c]; exact List.nodup_nil
      · unfold L2.start
        rw [e]
        cases i with
        | zero =>
          cases hi
          rw [T0]
          exact ⟨_, rfl, _, rfl, by rw [← eh]; exact ow⟩
        | succ i =>
          rw [TS _ (Nat.succ_ne_zero i)]
          have hi : (ds.map Sl.dat ++ List.replicate k Sl.un)[i]? = some s := hi
          show ∃ o, (ws.map some ++ List.replicate k none)[i]? = some o ∧ _
          by_cases c : i < ds.length
          · rw [List.getElem?_append_left (by rw [List.length_map]; exact c), List.getElem?_map, List.getElem?_eq_getElem c] at hi
            cases hi
            obtain ⟨v, k1, k2⟩ := ra.get (List.getElem?_eq_getElem c)
            refine ⟨some v, ?_, rfl, v, rfl, by rw [← eh]; exact k2⟩
            rw [List.getElem?_append_left (by rw [List.length_map, ra.length]; exact c), List.getElem?_map, k1]
            rfl
          · rw [List.getElem?_append_right (by rw [List.length_map]; omega), List.getElem?_replicate] at hi
            rw [List.getElem?_append_right (by rw [List.length_map, ra.length]; omega), List.getElem?_replicate]
            rw [List.length_map] at hi ⊢
            rw [ra.length]
            split at hi
            · rename_i c2
              cases hi
              exact ⟨none, by rw [if_pos c2], rfl⟩
            · cases hi
      · cases hv
        unfold L2.start
        rfl
    have fin : ∀ (v : V) (d1 : PD) (cs1 : List Cel) (σ : L2.St) (ρ1 : Env) (T' : Trs) (H' : Hp), StOk (pn1 (.ref a)) F T' H' σ ρ1 → Stp F T H T' H' → Rp (hid (SF F T') H') v d1 → ownAt ρ1 0 = some cs1 → (d1, cs1) = (d, cs') → Q v H' := by
      intro v d1 cs1 σ ρ1 T' H' st' s' rv ho e2
      cases e2
      obtain ⟨a', us, B', h1, h2, h3, h4⟩ := st'.at_own (ownAt_eq ho)
      have hp := st'.pin _ rfl
      have ea : a' = a := by rw [h1] at hp; cases hp; rfl
      subst ea
      have sub : Ex (hid (SF F T') H') (hid (FL F (a' :: B')) H') := hid_sub fun x hx => hx.elim .inl fun z => .inr ⟨0, by rw [h4]; exact z⟩
      refine q v B' H' s'.fr (by rw [eh]; exact s'.vis.trans sub) (fun x hx => st'.off 0 x (by rw [h4]; exact hx)) (by rw [← h4]; exact st'.nd 0) ⟨a', us, B', rfl, h2, h3.mv sub fun _ _ => rfl, rfl⟩ (rv.ex sub)
    refine hX (pn1 (.ref a)) F T H _ _ o _ st h1 ?_
    cases o with
    | ret d' ρ' =>
      obtain ⟨c1, k1, k2⟩ := bind_some h
      exact fun v σ T' H' st' s' rv => fin v d' c1 σ ρ' T' H' st' s' rv k1 (Option.some.inj k2)
    | nxt ρ' =>
      obtain ⟨c1, k1, k2⟩ := bind_some h
      exact fun σ T' H' st' s' => fin .non .none c1 σ ρ' T' H' st' s' .non k1 (Option.some.inj k2)
    | retO _ _ => cases h
    | brk _ => cases h
    | cnt _ => cases h
  · rw [if_neg hn] at h; cases h
theorem len_F {n k : Nat} {X : XS} {vs : List V} {H : Hp} {Q : VK} {E : XK} (h : spF (runP n k X) vs H Q E) : vs.length = n := by
  obtain ⟨S, ds, d, _, ra, h, _⟩ := h
  unfold runP at h
  by_cases hn : ds.length = n
  · rw [ra.length]; exact hn
  · rw [if_neg hn] at h; cases h
theorem len_D {n k : Nat} {X : XS} {vs : List V} {H : Hp} {Q : VK} {E : XK} (h : spD (runD n k X) vs H Q E) : vs.length = n := by
  obtain ⟨S, ds, d, _, ra, h, _⟩ := h
  unfold runD at h
  by_cases hn : ds.length = n
  · rw [ra.length]; exact hn
  · rw [if_neg hn] at h; cases h
theorem len_W {n k : Nat} {X : XS} {vs : List V} {H : Hp} {Q : VK} {E : XK} (h : spW (runW n k X) vs H Q E) : vs.length = n + 1 := by
  obtain ⟨F, a, B, cs, ws, ds, d, cs', rfl, _, _, _, _, ra, h, _⟩ := h
  unfold runW at h
  by_cases hn : ds.length = n
  · rw [List.length_cons, ra.length, hn]
  · rw [if_neg hn] at h; cases h
end Uv

namespace Uv
open PySem PySem.Spec PyProof.Rows L2
open Evl (Ex)
section
variable {P : Program} {w : World} {K : PySem.W.Frag} {mg : Str → Option Value} {base : Heap}
structure FnG (P : Program) (w : World) (K : PySem.W.Frag) (mg : Str → Option Value) (base : Heap) (k : Nat) (f : Addr) (fd : FuncData) (ps : List Str) (sp : Sp) : Prop where
  len : ∀ vs H Q E, sp vs H Q E → vs.length = ps.length
  run : ∀ (A : Around) (outer : List PySem.Env) (s : Shared) (H : Hp) (args : Args) (us : List Value) (vs : List V) (Q : VK) (E : XK), A.guards = some [] → Room k A → Env0 P w K mg base A outer s H → BindsTo s fd args (ps.zip us) → Vals vs us → sp vs H Q E →
    codeAny (model P w) A (.call (.ref f) args) (CR CX0 outer P w H s Q E) s
structure CalG (P : Program) (w : World) (K : PySem.W.Frag) (mg : Str → Option Value) (base : Heap) (k : Nat) (x : Str) (sp : Sp) : Prop where
  ex : ∃ (f : Addr) (fd : FuncData) (ps : List Str), FnG P w K mg base k f fd ps sp ∧ mg x = some (.ref f) ∧ PySem.W.keepIn K (.ref f) = true ∧ Binds K fd ps []
structure Dfn (K : PySem.W.Frag) (mg : Str → Option Value) (x : Str) (st : Stmt) (ps : List Str) : Prop where
  ex : ∃ f fd, Fun K x x st f fd ∧ mg x = some (.ref f) ∧ Binds K fd ps []
theorem dfn_mk {h : Heap} {x : Str} {st : Stmt} {ps : List Str} {f : Addr} {od an : Option Addr} {sl : Array (Option Value)} {oc kV dc pm cd ct : Value} (X : K.In h) (G : h.Ns mainGlobals mg)
    (a1 : PySem.W.nsIn K mainGlobals x = some (some (.ref f))) (l1 : K.lookup f = some ⟨oc, od, .func (PySem.W.fnOf x x (defArgs st) (defBody st) (defScope st) .none kV dc pm an cd ct), sl⟩) (c1 : PySem.W.codeIn K cd x = true) (k1 : PySem.W.keepIn K (.ref f) = true)
    (hb : ∀ (kV doc pm : Value) (an : Option Addr) (cdv ct : Value) (us : List Value), us.length = ps.length → bindArgs (PySem.W.fnOf x x (defArgs st) (defBody st) (defScope st) .none kV doc pm an cdv ct) ⟨us, []⟩ = pure (ps.zip us)) : Dfn K mg x st ps := by
  have F := fun_mk (st := st) l1 c1 k1
  exact ⟨f, _, F, PySem.W.mg_of X G a1, F.binds hb⟩
theorem pe_g {X : Cx} {j k : Nat} {x : Str} {sp : Sp} {p pos : Pos} {e : Expr} {es : List Expr} {t : TA} (c : CalG X.prog X.w X.K X.mg X.base k x sp) (hr : Room j X.A) (hk : k ≤ j) (hG : X.A.guards = some []) (hg : Gl X x) (ha : PA X (e :: es) t)
    (hdb : (x == ("__debug__" : Str)) = false := by decide) (he : starEach (e :: es) X.env = (false, eval e X.env) :: starEach es X.env := by rfl) (hpl : (backTo pos (starEach es X.env)).any (·.1) = false := by rfl) :
    PE X (.Call (.Name x p) (e :: es) [] pos) (tCall sp [] E0 t) := by
  obtain ⟨f, fd, ps, F, hm, kp, b⟩ := c.ex
  refine ⟨fun pins s σ H Q I h => wpAny_Call_Name_kw (ld_glob I hg hm ?_ hdb)⟩
  refine PySem.W.callWith_K (h₀ := X.base) I.ok.mod.kin kp (thn (ha.run pos pins s σ H _ I h) fun us s1 hh => ?_) he hpl
  obtain ⟨vs, H1, I1, r, q⟩ := hh
  rw [List.append_nil] at q
  have hl : us.length = ps.length := by rw [← r.length]; exact F.len _ _ _ _ q
  have bd := b s1 us I1.kIn (by rw [List.append_nil]; exact hl)
  rw [List.append_nil] at bd
  refine ⟨I1.kIn, wpAny_call (codeAny_mono (F.run X.A X.stack s1 H1 ⟨us, []⟩ us vs Q E0 hG (hr.mono hk) I1.env0 bd r q) fun rr s' hq => ?_)⟩
  match rr, hq with
  | .error _, hq => exact hq.elim
  | .ok (.ret u), hq => exact I1.after hq
  | .ok .next, hq => exact hq.elim
  | .ok .brk, hq => exact hq.elim
  | .ok .cont, hq => exact hq.elim
theorem fn_g {x : Str} {st : Stmt} {f : Addr} {fd : FuncData} {N ps : List Str} {k : Nat} {sp : Sp} (F : Fun K x x st f fd) (S : FnScope N ps (defScope st)) (len : ∀ vs H Q E, sp vs H Q E → vs.length = ps.length)
    (hb : ∀ (cdv : Value) (A : Around) (outer : List PySem.Env) (s : Shared) (H : Hp) (E : XK), (A.deeper (envOfC x (defScope st) s.heap.objs.size f cdv)).guards = some [] → Room k (A.deeper (envOfC x (defScope st) s.heap.objs.size f cdv)) →
      ∃ t, PSs (cxOf CX0 P w K mg base N x (defScope st) f cdv A outer s H E).nox (defBody st) t ∧ ∀ vs Q, sp vs H Q E → t { nx := fun _ H' => Q .non H', rt := Q } (L2.start N vs) H) : FnG P w K mg base (k + 1) f fd ps sp := by
  obtain ⟨oc, od, kV, doc, pm, an, cdv, ct, osl, rfl, lk, hcd⟩ := F.ex
  refine ⟨len, fun A outer s H args us vs Q E hG hr e0 hbd r hsp => ?_⟩
  obtain ⟨t, ht, hq⟩ := hb cdv A outer s H E hG (hr.deeper _)
  have keep : ∀ b o, base.get? b = some o → s.heap.get? b = some o := fun b o e => (e0.bs b o e).1
  have KX : K.In s.heap := e0.mod.kin.keeps keep
  have lim : s.heap.NoLimit := e0.mod.nolimit.keeps keep
  refine codeAny_call_function hr.depth (KX _ _ lk) rfl S.co S.gen rfl (PySem.W.codeRec_of KX hcd) (hbd _ _ _ _ ?_)
  refine wpAny_newFunctionEnv_cells S.kind (fun y hy => ?_) fun env he s1 ic => ?_
  · rcases S.par y.1 (List.of_mem_zip hy).1 with q | q
    · exact .inl q
    · exact .inr ⟨q, PySem.W.cellsFrom_some _ _ _ (.inl q)⟩
  · subst he
    have I : Inv (cxOf CX0 P w K mg base N x (defScope st) f cdv A outer s H E) [] (L2.start N vs) H s1 := inv_start S hr.hd e0 (len _ _ _ _ hsp) r ic
    refine ⟨lim.keeps ic.toInCall.keep, codeAny_func (wpAny_mono (ht.nox.run [] s1 (L2.start N vs) H _ I (hq vs Q hsp)) (fun fl s' hs => ?_) fun e s' hs => hs)⟩
    match fl, hs with
    | .ret u, ⟨v, σ', H', J, rv, q⟩ => exact ⟨v, H', J.os, J.bare, J.base, J.hok, rv, q⟩
    | .next, ⟨σ', H', J, q⟩ => exact ⟨.non, H', J.os, J.bare, J.base, J.hok, rfl, q⟩
    | .brk, ⟨_, _, _, q⟩ => exact q.elim
    | .cont, ⟨_, _, _, q⟩ => exact q.elim
theorem cal_g {x : Str} {st : Stmt} {N ps : List Str} {k : Nat} {sp : Sp} (F : Dfn K mg x st ps) (S : FnScope N ps (defScope st)) (len : ∀ vs H Q E, sp vs H Q E → vs.length = ps.length)
    (hb : ∀ (f : Addr) (cdv : Value) (A : Around) (outer : List PySem.Env) (s : Shared) (H : Hp) (E : XK), (A.deeper (envOfC x (defScope st) s.heap.objs.size f cdv)).guards = some [] → Room k (A.deeper (envOfC x (defScope st) s.heap.objs.size f cdv)) →
      ∃ t, PSs (cxOf CX0 P w K mg base N x (defScope st) f cdv A outer s H E).nox (defBody st) t ∧ ∀ vs Q, sp vs H Q E → t { nx := fun _ H' => Q .non H', rt := Q } (L2.start N vs) H) : CalG P w K mg base (k + 1) x sp := by
  obtain ⟨f, fd, F, hm, b⟩ := F.ex
  exact ⟨f, fd, ps, fn_g F S len (hb f), hm, F.kp, b⟩
end
def scriptH (K : PySem.W.Frag) (a : Addr) (vs : List Value) (ns : List Int) : Hp := fun b => if b = a ∧ K.lookup a = none then some (.frz { cls := .type "list", data := .seq vs.toArray } (.lst (ns.map V.int))) else none
theorem scriptH_some {K : PySem.W.Frag} {a b : Addr} {vs : List Value} {ns : List Int} {o : HO} (h : scriptH K a vs ns b = some o) : b = a ∧ K.lookup a = none ∧ o = .frz { cls := .type "list", data := .seq vs.toArray } (.lst (ns.map V.int)) := by
  unfold scriptH at h
  by_cases c : b = a ∧ K.lookup a = none
  · rw [if_pos c] at h
    exact ⟨c.1, c.2, (Option.some.inj h).symm⟩
  · rw [if_neg c] at h
    cases h
theorem none_by {K : PySem.W.Frag} {a b : Addr} {vs : List Value} {ns : List Int} (h : b = a → K.lookup a = none → False) : scriptH K a vs ns b = none := by
  cases q : scriptH K a vs ns b with
  | none => rfl
  | some o =>
    obtain ⟨e1, e2, _⟩ := scriptH_some q
    exact (h e1 e2).elim
theorem top_call {P : Program} {w : World} {K : PySem.W.Frag} {mg mb : Str → Option Value} {k : Nat} {fa a : Addr} {fd : FuncData} {x : Str} {sp : Sp} {s₁ : Shared} {vs : List Value} {ns : List Int}
    (KX : K.In s₁.heap) (hns : s₁.heap.Ns mainGlobals mg) (hb : s₁.heap.Ns builtinsNs mb) (hbb : ∀ x : Str, x ≠ "__name__" → mb x = bootBuiltins x) (hlim : s₁.heap.NoLimit) (hg : s₁.gens = #[])
    (ha : s₁.heap.get? a = some { cls := .type "list", data := .seq vs.toArray }) (hi : IntsAre vs ns) (hl : ns.length ≤ sizeLine) (hr : Room k callerA)
    (F : ∀ base : Heap, K.In base → base.Ns mainGlobals mg → FnG P w K mg base k fa fd [x] sp) (hbind : ∀ (s : Shared) (u : Value), BindsTo s fd ⟨[u], []⟩ [(x, u)])
    (hsp : ∀ H : Hp, SqL K H a (ns.map V.int) → sp [.ref a] H (fun v _ => v = .bl true) fun _ _ _ => False) :
    codeAny (model P w) callerA (.call (.ref fa) ⟨[.ref a], []⟩) (fun r s' => r = .ok (.ret (.bool true)) ∧ OldK s₁.heap s'.heap ∧ s'.os = s₁.os ∧ AllBare s'.gens) s₁ := by
  have rv := vals_ints hi
  have hs : SqL K (scriptH K a vs ns) a (ns.map V.int) := by
    cases hk : K.lookup a with
    | none => exact .inl (.inr ⟨_, if_pos ⟨rfl, hk⟩⟩)
    | some o =>
      have e := KX a o hk
      rw [ha] at e
      cases e
      exact .inr ⟨_, vs.toArray, _, hk, rfl, rfl, rfl, by rw [List.size_toArray, hi.length]; exact hl, by simpa using rv⟩
  have hok : HOk P w (scriptH K a vs ns) s₁.heap := fun b o h => by
    obtain ⟨rfl, _, rfl⟩ := scriptH_some h
    exact ⟨ha, by rw [List.length_map]; exact hl, vs, _, rv, ha⟩
  have old : ∀ {b : Addr} {o : Obj}, s₁.heap.get? b = some o → scriptH K a vs ns b = none → (hidT s₁.heap (scriptH K a vs ns)).get? b = some o := fun e n => hidT_get e n
  have nsK : ∀ {b : Addr} {m : Str → Option Value}, s₁.heap.Ns b m → (hidT s₁.heap (scriptH K a vs ns)).Ns b m := fun {b m} ⟨o, es, ep, e, d, r⟩ => ⟨o, es, ep, old e (none_by fun z _ => by
    subst z
    rw [ha] at e
    cases e
    exact nomatch (show Data.seq vs.toArray _ = Data.dict es ep from d)), d, r⟩
  have kin : K.In (hidT s₁.heap (scriptH K a vs ns)) := fun b o e => old (KX b o e) (none_by fun z q => by
    subst z
    rw [q] at e
    cases e)
  have mod : Mod K mg (hidT s₁.heap (scriptH K a vs ns)) := ⟨kin, nsK hns, ⟨mb, nsK hb, hbb⟩, let ⟨mc, h1, h2⟩ := hlim; ⟨mc, nsK h1, h2⟩⟩
  have e0 : Env0 P w K mg (hidT s₁.heap (scriptH K a vs ns)) callerA [] s₁ (scriptH K a vs ns) := ⟨rfl, mod, fun b o e => of_hidT e, Nat.le_of_eq (hidT_size _ _), trivial, fun b hb => absurd (show b ∈ ([] : List Addr) from hb) (by simp), hok, .of_eq hg⟩
  refine codeAny_mono ((F _ kin (nsK hns)).run callerA [] s₁ _ ⟨[.ref a], []⟩ [.ref a] [.ref a] _ _ rfl hr e0 (hbind s₁ (.ref a)) (.cons rfl .nil) (hsp _ hs)) fun r s' h => ?_
  match r, h with
  | .error e, h => exact h.elim
  | .ok .next, h => exact h.elim
  | .ok .brk, h => exact h.elim
  | .ok .cont, h => exact h.elim
  | .ok (.ret u), ⟨v, H', os, bare, un, hok', r', q⟩ =>
    have q' : v = .bl true := q
    subst q'
    obtain rfl : u = Value.bool true := r'
    refine ⟨rfl, OldK.of_keep fun b o e => ?_, os, bare⟩
    cases q : scriptH K a vs ns b with
    | none => exact un.keep b o e q (fun z => absurd (show b ∈ ([] : List Addr) from z) (by simp)) (by simp)
    | some u =>
      obtain ⟨rfl, _, rfl⟩ := scriptH_some q
      obtain ⟨e1, _⟩ := hok b _ q
      obtain ⟨e2, _⟩ := hok' b _ (un.frzs b _ _ q)
      rw [e] at e1
      cases e1
      exact e2
end Uv

namespace Uv
open PySem PySem.Spec PyProof.Rows L2
open Evl (Ex)
variable [kk : KK]
def wCallD (f : List PD → Option (List Cel)) (as : XWA) : XWO := fun ρ => (as ρ).bind fun x => (f x.1).bind fun cs => some (cs, x.2)
def insI (x : Int) : List Int → List Int
  | [] => [x]
  | y :: ys => if x ≤ y then x :: y :: ys else y :: insI x ys
def sortI : List Int → List Int
  | [] => []
  | x :: xs => insI x (sortI xs)
theorem insI_perm (x : Int) : ∀ ys : List Int, (insI x ys).Perm (x :: ys)
  | [] => .refl _
  | y :: ys => by
    unfold insI
    by_cases c : x ≤ y
    · rw [if_pos c]
    · rw [if_neg c]
      exact ((insI_perm x ys).cons y).trans (.swap x y ys)
theorem sortI_perm : ∀ xs : List Int, (sortI xs).Perm xs
  | [] => .refl _
  | x :: xs => (insI_perm x _).trans ((sortI_perm xs).cons x)
theorem insI_sorted (x : Int) : ∀ {ys : List Int}, ys.Pairwise (· ≤ ·) → (insI x ys).Pairwise (· ≤ ·)
  | [], _ => by simp [insI]
  | y :: ys, h => by
    unfold insI
    obtain ⟨h1, h2⟩ := List.pairwise_cons.mp h
    by_cases c : x ≤ y
    · rw [if_pos c]
      refine List.pairwise_cons.mpr ⟨fun z hz => ?_, h⟩
      rcases List.mem_cons.mp hz with e | e
      · rw [e]; exact c
      · exact Int.le_trans c (h1 z e)
    · rw [if_neg c]
      refine List.pairwise_cons.mpr ⟨fun z hz => ?_, insI_sorted x h2⟩
      rcases List.mem_cons.mp ((insI_perm x ys).mem_iff.mp hz) with e | e
      · rw [e]; omega
      · exact h1 z e
theorem sortI_sorted : ∀ xs : List Int, (sortI xs).Pairwise (· ≤ ·)
  | [] => .nil
  | x :: xs => insI_sorted x (sortI_sorted xs)
theorem sorted_eq : ∀ {xs ys : List Int}, xs.Perm ys → xs.Pairwise (· ≤ ·) → ys.Pairwise (· ≤ ·) → xs = ys
  | [], ys, p, _, _ => (List.perm_nil.mp p.symm).symm ▸ rfl
  | x :: xs, [], p, _, _ => absurd (List.perm_nil.mp p) (by simp)
  | x :: xs, y :: ys, p, h, h' => by
    obtain ⟨h1, h2⟩ := List.pairwise_cons.mp h
    obtain ⟨h3, h4⟩ := List.pairwise_cons.mp h'
    have e : x = y := by
      have a1 : x ∈ y :: ys := p.mem_iff.mp (List.mem_cons_self ..)
      have a2 : y ∈ x :: xs := p.mem_iff.mpr (List.mem_cons_self ..)
      rcases List.mem_cons.mp a1 with e | e
      · exact e
      · rcases List.mem_cons.mp a2 with f | f
        · exact f.symm
        · exact Int.le_antisymm (h1 y f) (h3 x e)
    subst e
    rw [sorted_eq p.cons_inv h2 h4]
end Uv

namespace Uv
open PySem PySem.Spec PyProof.Rows L2 Srt SrtO
open Evl (Ex)
section
variable {prog : Program} {w : World} {A : Around} {E : Value → Shared → Prop} {s : Shared}
theorem collectT {l : Addr} {vs : List Value} {Q : List Value → Shared → Prop} (tp : s.heap.IsTuple l vs.toArray) (sz : vs.length ≤ sizeLine)
    (k : Q vs { s with heap := (s.heap.push (seqObj "list" #[] 0)).update s.heap.objs.size (Obj.mapSeq (· ++ vs.toArray)) }) : wpAny (model prog w) A (collect (.ref l)) Q E s := by
  obtain ⟨ob, g, c, m, dt⟩ := tp
  have g2 : (s.heap.push (seqObj "list" #[] 0)).get? l = some ob := Heap.get?_push_of_some _ g
  have lo : (s.heap.push (seqObj "list" #[] 0)).get? s.heap.objs.size = some (seqObj "list" #[] 0) := Heap.get?_push_size _ rfl
  unfold collect; refine wpAny_bind (wpAny_runValue (codeAny_builtin entry_proto_collect' ?_))
  show wpAny _ _ (do again (.builtin "list.__iadd__" ⟨[← newList [], .ref l], []⟩)) _ _ s
  refine wpAny_bind (wpAny_newList (wpAny_pure ⟨Code.quiet_builtin _ (by decide +kernel), codeAny_builtin entry_list_iadd' ?_⟩))
  show wpAny _ _ (Builtin.List.listExtendWith (.ref s.heap.objs.size) (.ref l) (.ref s.heap.objs.size)) _ _ { s with heap := s.heap.push (seqObj "list" #[] 0) }
  unfold Builtin.List.listExtendWith; refine wpAny_bind (wpAny_typeOf (T := "tuple") ⟨ob, g2, c⟩ ?_)
  have tt : (Value.type "tuple" == Value.type "tuple") = true := by rfl
  rw [if_pos (by rw [tt, Bool.or_true])]
  refine wpAny_bind (listItems_at g2 dt (wpAny_bind (listItems_at lo rfl ?_)))
  rw [if_neg (by simp)]
  refine wpAny_bind (listUpdate_at lo rfl (wpAny_pure ?_) (Nat.zero_le _) (by show (#[] ++ vs.toArray).size ≤ sizeLine + 1; simp; omega))
  refine wpAny_bind (wpAny_load (get?_update_seq lo _) ?_)
  show wpAny _ _ (pure ((#[] : Array Value) ++ vs.toArray).toList) Q E _
  have z : ((#[] : Array Value) ++ vs.toArray).toList = vs := by simp
  rw [z]; exact wpAny_pure k
theorem sortT {l : Addr} {vs : List Value} {lt : Value → Value → Bool} {Q : Value → Shared → Prop} (O : Swo lt) (tp : s.heap.IsTuple l vs.toArray) (sz : vs.length ≤ sizeLine)
    (ord : 2 ≤ vs.length → ∀ (h₁ : Heap) (a : Addr), h₁.get? a = some (seqObj "list" vs.toArray 0) → (∀ b o, s.heap.get? b = some o → b ≠ a ∧ h₁.get? b = some o) → SortableO prog w A.in1.in1 { s with heap := h₁ } a vs lt)
    (k : ∀ out : List Value, Srtd lt out → Stb lt out vs → Q (.ref (s.heap.objs.size + 1)) { s with heap := sortedAll s.heap vs out.toArray }) : wpAny (model prog w) A (call (.builtin "sorted") [.ref l]) Q E s := by
  obtain ⟨h1, e1⟩ : ∃ h1, h1 = (s.heap.push (seqObj "list" #[] 0)).update s.heap.objs.size (Obj.mapSeq (· ++ vs.toArray)) := ⟨_, rfl⟩
  have z : h1.objs.size = s.heap.objs.size + 1 := by rw [e1, Heap.size_update, size_push']
  have at1 : (h1.push (seqObj "list" vs.toArray 0)).get? (s.heap.objs.size + 1) = some (seqObj "list" vs.toArray 0) := by rw [← z]; exact Heap.get?_push_size _ rfl
  have old : ∀ b o, s.heap.get? b = some o → b ≠ s.heap.objs.size + 1 ∧ (h1.push (seqObj "list" vs.toArray 0)).get? b = some o := fun b o g => by
    have lt' : b < s.heap.objs.size := Heap.lt_size g
    refine ⟨Nat.ne_of_lt (Nat.lt_succ_of_lt lt'), Heap.get?_push_of_some _ ?_⟩
    rw [e1, Heap.get?_update_ne _ _ _ _ (Nat.ne_of_lt lt')]; exact Heap.get?_push_of_some _ g
  refine Calls.call_function_entry kind_sorted plain_sorted entry_sorted (args_sorted1 _) ?_; unfold Builtin.«sorted»
  refine wpAny_bind (m := checkCount "sorted" 1 1 _) (wpAny_pure (wpAny_bind (collectT tp sz (wpAny_bind (wpAny_newList ?_ sz)))))
  rw [← e1]
  show wpAny _ _ _ _ _ { s with heap := h1.push (seqObj "list" vs.toArray 0) }
  rw [z]
  refine wpAny_bind (wpAny_holding (wpAny_call_entry slot_list_sort ⟨_, at1, rfl⟩ entry_list_sort (list_sort_ord O at1 sz (fun h2 => ord h2 _ _ at1 old) fun out c1 c2 => ⟨_, rfl, wpAny_pure ⟨_, rfl, ?_⟩⟩) (args_list_sort _)))
  have kk := k out c1 c2
  unfold sortedAll at kk
  rw [← e1] at kk
  exact kk
end
def rSortedT (K : PySem.W.Frag) : List V → Hp → VK → Prop := fun vs H Q => ∃ (a : Addr) (ns : List Int), vs = [V.ref a] ∧ SqT K H a (ns.map V.int) ∧ ∀ (ms : List Int) (p : Addr), ms.Perm ns → ms.Pairwise (· ≤ ·) → H p = none → Q (.ref p) (upd H p (.lst (ms.map V.int)))
theorem cr_sortedT {X : Cx} : CallR X (.builtin "sorted") (rSortedT X.K) := by
  intro pins s σ H vs us Q I r ⟨a, ns, ev, hq, q⟩
  subst ev
  obtain ⟨its, rv, tp, sz⟩ := I.tuple hq
  rw [Vals.ref1 r]
  have hi := rv.ints
  refine sortT swo_int tp (by rw [← rv.length]; exact sz) (fun h2 h₁ a' _ _ => ints_sortable hi h2) fun out c1 c2 => ?_
  obtain ⟨k1, k2, k3⟩ := ints_out hi c1 c2
  obtain ⟨ep, at1⟩ := PyProof.Rows.sortedAll_at s.heap its out.toArray
  have ll : ((out.map iv).map V.int).length ≤ sizeLine := by rw [List.length_map, k2.length_eq]; rw [List.length_map] at sz; exact sz
  have I2 := I.laid (t' := s.toks) (o := .lst ((out.map iv).map V.int)) (fun _ _ => PyProof.Rows.sortedAll_old) (Nat.le_succ _) (show ObjOk X.prog X.w _ _ _ (.lst _) from ⟨ll, out, ep, vals_of_ints k1, at1⟩)
  exact ⟨.ref _, _, I2, rfl, q _ _ k2 k3 (I.hok.fresh (Nat.le_succ _))⟩
def rSortedU (K : PySem.W.Frag) : List V → Hp → VK → Prop := fun xs H Q => rSortedI K xs H Q ∨ rSortedT K xs H Q
variable [kk : KK]
theorem cr_sortedU {X : Cx} : CallR X (.builtin "sorted") (rSortedU X.K) := CallR.or cr_sortedI cr_sortedT
def sortP : PD → Option PD
  | .list ds => (unI ds).bind fun ns => some (.list ((sortI ns).map PyData.int))
  | .tuple ds => (unI ds).bind fun ns => some (.list ((sortI ns).map PyData.int))
  | _ => none
theorem sc_sort : SC (rSortedU K) (on1 sortP) := sc_on1 fun x z h S H v al rv Q q => by
  have fin : ∀ ns ms : List Int, ms.Perm ns → ms.Pairwise (· ≤ ·) → ms = sortI ns := fun ns ms p o => sorted_eq (p.trans (sortI_perm ns).symm) o (sortI_sorted ns)
  cases rv with
  | lst ha ra =>
    obtain ⟨ns, h1, h2⟩ := bind_some h
    have e := unI_eq h1
    subst e
    have e := ra.ints
    subst e
    cases h2
    refine .inl ⟨_, ns, rfl, .inl (.inl (hid_le _ _ ha)), fun ms p pm so hp => ?_⟩
    have e := fin ns ms pm so
    subst e
    exact q _ _ (Ex.new hp) (.lst (new_ok al hp) (RpAll.ofInts _))
  | tup ha _ ra =>
    obtain ⟨ns, h1, h2⟩ := bind_some h
    have e := unI_eq h1
    subst e
    have e := ra.ints
    subst e
    cases h2
    refine .inr ⟨_, ns, rfl, .inl (.inr ⟨_, hid_le _ _ ha⟩), fun ms p pm so hp => ?_⟩
    have e := fin ns ms pm so
    subst e
    exact q _ _ (Ex.new hp) (.lst (new_ok al hp) (RpAll.ofInts _))
  | _ => cases h
end Uv

namespace Uv
open PySem PySem.Spec PyProof.Rows L2
open Evl (Ex)
variable [kk : KK]
abbrev NewL (S : Hs) (H : Hp) (ds : List PD) (Q : VK) : Prop := ∀ p vs H2, Ex H H2 → H p = none → H2 p = some (.lst vs) → RpAll (hid (fun x => x = p ∨ S x) H2) vs ds → Q (.ref p) H2
def RoF (r : R2) (x y : PD) (ds : List PD) : Prop := ∀ S H vx vy, Al S H → Rp (hid S H) vx x → Rp (hid S H) vy y → ∀ Q : VK, NewL S H ds Q → r vx vy H Q
def SOF (r : R2) (f : PD → PD → Option PD) : Prop := ∀ x y z, f x y = some z → ∃ ds, z = .list ds ∧ RoF r x y ds
theorem ex_free {H H1 : Hp} {p : Addr} (e : Ex H H1) (hp : H1 p = none) : H p = none := by
  cases q : H p with
  | none => rfl
  | some o => rw [e _ _ q] at hp; cases hp
section
variable {r : R2} {f : PD → PD → Option PD} {ta tb : TE} {a b : XE}
theorem sef_op (hr : SOF r f) (ha : SE ta a) (hb : SE tb b) : SEF (tOp r ta tb) (xOp f a b) := fun ρ d h => by
  obtain ⟨x, h1, h⟩ := bind_some h
  obtain ⟨y, h2, h⟩ := bind_some h
  obtain ⟨ds, rfl, g⟩ := hr x y d h
  refine ⟨ds, rfl, fun S σ H al en Q q => ha ρ x h1 S σ H al en _ fun v H1 e1 rv => hb ρ y h2 S σ H1 (al.ex e1) (en.ex (hid_ex e1)) _ fun u H2 e2 ru => ?_⟩
  exact g S H2 v u ((al.ex e1).ex e2) (rv.ex (hid_ex e2)) ru Q fun p vs H3 e3 hp h3 ra => q p vs H3 ((e1.trans e2).trans e3) (ex_free (e1.trans e2) hp) h3 ra
end
def catP : PD → PD → Option PD
  | .list xs, .list ys => if xs.length + ys.length ≤ 100000 then some (.list (xs ++ ys)) else none
  | _, _ => none
theorem sof_cat : SOF (rAddU K) catP := fun x y z h => by
  cases x with
  | list xs =>
    cases y with
    | list ys =>
      have h : (if xs.length + ys.length ≤ 100000 then some (PyData.list (xs ++ ys)) else none) = some z := h
      by_cases c : xs.length + ys.length ≤ 100000
      · rw [if_pos c] at h
        cases h
        refine ⟨_, rfl, fun S H vx vy al rx ry Q q => ?_⟩
        cases rx with
        | lst ha ra =>
          cases ry with
          | lst hb rb => exact .inr (.inl ⟨_, _, _, _, rfl, rfl, hid_le _ _ ha, hid_le _ _ hb, by rw [ra.length, rb.length]; exact Evl.sz_of c, fun p hp => q p _ _ (Ex.new hp) hp upd_same ((ra.append rb).ex (hid_cons (Ex.new hp) hp))⟩)
      · rw [if_neg c] at h; cases h
    | _ => cases h
  | _ => cases h
def oIsU : R2 := fun x y H Q => oIsN x y H Q ∨ ∃ b c, x = .bl b ∧ y = .bl c ∧ Q (.bl (b == c)) H
theorem op_isU {X : Cx} : OpR X (compareOp .Is) oIsU := OpR.or op_isN fun pins s σ H x y v u Q I rx ry h => by
  obtain ⟨b, c, rfl, rfl, q⟩ := h
  cases rx
  cases ry
  exact PyProof.Rows.is_bool (fin_bl I q rfl)
def isU : PD → PD → Option PD
  | .bool b, .bool c => some (.bool (b == c))
  | x, .none => some (.bool (isNone x))
  | _, _ => none
theorem so_isU : SO oIsU isU := fun x y z h S H vx vy al rx ry Q q => by
  cases ry with
  | non =>
    have e : z = .bool (isNone x) := by cases x <;> (cases h; rfl)
    subst e
    exact .inl ⟨rfl, q _ H (Ex.refl H) (by rw [isNone_of rx]; exact .bl _)⟩
  | bl c =>
    cases rx with
    | bl b => cases h; exact .inr ⟨b, c, rfl, rfl, q _ H (Ex.refl H) (.bl _)⟩
    | _ => cases h
  | _ => cases x <;> cases h
section
variable {P : Program} {w : World} {mg : Str → Option Value} {base : Heap}
theorem cal_no {x : Str} {st : Stmt} {ps : List Str} {k : Nat} {sp : Sp} (F : Dfn K mg x st ps) (no : ∀ vs H Q E, ¬ sp vs H Q E) : CalG P w K mg base k x sp := by
  obtain ⟨f, fd, F, hm, b⟩ := F.ex
  exact ⟨f, fd, ps, ⟨fun vs H Q E h => (no vs H Q E h).elim, fun A outer s H args us vs Q E _ _ _ _ _ h => (no vs H Q E h).elim⟩, hm, F.kp, b⟩
theorem cal_noneW {x : Str} {st : Stmt} {ps : List Str} {k : Nat} (F : Dfn K mg x st ps) : CalG P w K mg base k x (spW fun _ _ => none) := cal_no F fun vs H Q E ⟨_, _, _, _, _, _, _, _, _, _, _, _, _, _, h, _⟩ => nomatch h
end
theorem rel_open {env : PySem.Env} {names : List (Str × NameKind)} {x : Str} (h : names.lookup x = some .cell ∨ names.lookup x = some .free) :
    (names.map fun (n, k) => if (k == NameKind.free && env.scope.kind == .function && env.kindOf n == some .cell) then (n, NameKind.cell) else (n, k)).lookup x = some .cell ∨
    (names.map fun (n, k) => if (k == NameKind.free && env.scope.kind == .function && env.kindOf n == some .cell) then (n, NameKind.cell) else (n, k)).lookup x = some .free := by
  induction names with
  | nil => rcases h with h | h <;> cases h
  | cons y ys ih =>
    obtain ⟨n, k⟩ := y
    rw [List.map_cons]
    by_cases c : (k == NameKind.free && env.scope.kind == .function && env.kindOf n == some .cell) = true
    · simp only [c, if_true, List.lookup_cons]
      cases e : x == n with
      | true => exact .inl rfl
      | false => rw [List.lookup_cons, e] at h; exact ih h
    · dsimp only
      rw [if_neg c, List.lookup_cons]
      cases e : x == n with
      | true => rw [List.lookup_cons, e] at h; exact h
      | false => rw [List.lookup_cons, e] at h; exact ih h
theorem blkOk_in {X : Cx} {s : Shared} {H : Hp} {sc0 scope : Scope} {cl : List (Str × Addr)} {C : Addr} {fp : List Addr} {N : List Str} {own : List (Str × Nat)} (hN : (X.blk s H sc0 (compEnvC sc0 cl C X.env) fp).N = N) (h : blkC N sc0 scope own = true) :
    BlkOk (X.blk s H sc0 (compEnvC sc0 cl C X.env) fp).N (X.blk s H sc0 (compEnvC sc0 cl C X.env) fp).env.scope scope own := by
  rw [hN]
  have b := blkOk_by h
  exact ⟨b.kind, b.uniq, b.ix, fun y hy e => rel_open (b.free y hy e), b.own⟩
end Uv

namespace Un
open PySem PySem.Spec PyProof.Rows L2
theorem tuple_mul1 (l : Addr) (its : Array Value) (n : Nat) (dd : Option Addr) (sl : Array (Option Value)) (u : Tok) :
    Meets (Builtin.«tuple.__mul__» ⟨[.ref l, .int 1 u], []⟩) (fun _ R st => st.heap.get? l = some { cls := .type "tuple", dict := dd, data := .seq its n, slots := sl } ∧ R (.ok (.ret (Value.ref l))) st) :=
  .of_wp fun prog w A R st hh => by
    obtain ⟨hp, gn, dr, tk, os⟩ := st
    obtain ⟨hl, hh⟩ := hh
    have f1 := AutoSeq1.idx_int
    have c0 : (decide ((1 : Int) < -(2 ^ 63)) || decide ((1 : Int) ≥ 2 ^ 63)) = false := by decide
    have c1 : (its.isEmpty || (1 : Int) == 1) = true := by simp
    wp_walk using AutoSeq1.wpAny_loadPart' hl
    exact ⟨_, rfl, hh⟩
end Un

namespace Uv
open PySem PySem.Spec PyProof.Rows L2
open Evl (Ex)
section
variable {prog : Program} {w : World} {A : Around} {E : Value → Shared → Prop} {s : Shared}
theorem applied_back {sl : Addr} {n : Nat} {tk : Tok} {Q : Int × Int × Nat → Shared → Prop} (hs : s.heap.IsSliceOf sl .none .none (.int (-1) tk)) (h : Q ((n : Int) - 1, -1, n) s) : wpAny (model prog w) A (Builtin.Slice.sliceApplied (.ref sl) (pure (n : Int))) Q E s := by
  obtain ⟨ob, hob, hcl, hda⟩ := id hs
  unfold Builtin.Slice.sliceApplied Builtin.Slice.sliceFields
  refine wpAny_bind (wpAny_bind (wpAny_field hob hda (x := .none) rfl (wpAny_bind (wpAny_field hob hda (x := .none) rfl (wpAny_bind (wpAny_field hob hda (x := .int (-1) tk) rfl (wpAny_pure ?_)))))))
  refine wpAny_bind (HT.slicePart_ (.int (-1) tk) ?_)
  show wpAny _ _ (if ((-1 : Int) == 0) = true then _ else _) _ _ s
  rw [if_neg (by decide)]
  refine wpAny_bind (HT.slicePart_ .none (wpAny_bind (HT.slicePart_ .none (wpAny_bind (wpAny_pure ?_)))))
  have e1 : Builtin.Slice.sliceAdjust none none (-1) (n : Int) = ((n : Int) - 1, -1) := rfl
  have e2 : Builtin.Slice.slicePlaces ((n : Int) - 1) (-1) (-1) = n := by
    unfold Builtin.Slice.slicePlaces
    rw [if_neg (by decide)]
    split
    · rw [show (- (-1 : Int)) = 1 by decide, Int.ediv_one]
      omega
    · omega
  show wpAny _ _ (match Builtin.Slice.sliceAdjust none none (-1) (n : Int) with | (a, b) => pure (a, (-1 : Int), Builtin.Slice.slicePlaces a b (-1))) _ _ s
  rw [e1]
  show wpAny _ _ (pure ((n : Int) - 1, (-1 : Int), Builtin.Slice.slicePlaces ((n : Int) - 1) (-1) (-1))) _ _ s
  rw [e2]
  exact wpAny_pure h
theorem pick_back (xs : Array Value) : ((List.range xs.size).filterMap fun (m : Nat) => xs[(((xs.size : Int) - 1) + (m : Int) * (-1)).toNat]?).toArray = xs.toList.reverse.toArray := by
  congr 1
  have e : (fun (m : Nat) => xs[(((xs.size : Int) - 1) + (m : Int) * (-1)).toNat]?) = fun m => xs[xs.size - 1 - m]? := by
    funext m
    congr 1
    omega
  rw [e]
  have k := PySem.W.krv_range xs.size
  have k2 : (List.range xs.size).filterMap (fun m => xs[xs.size - 1 - m]?) = ((List.range xs.size).map fun m => xs.size - 1 - m).filterMap (xs[·]?) := by
    rw [List.filterMap_map]
    rfl
  rw [k2, k, List.filterMap_reverse, PySem.W.krv_all]
theorem getItem_tuple_back {t sl : Addr} {its : Array Value} {tk : Tok} {Q : Value → Shared → Prop} (ht : IsTup s.heap t its) (hs : s.heap.IsSliceOf sl .none .none (.int (-1) tk))
    (h : Q (.ref s.heap.objs.size) { s with heap := s.heap.push { cls := .type "tuple", data := .seq its.toList.reverse.toArray } }) (hz : its.size ≤ sizeLine) : wpAny (model prog w) A (getItem (.ref t) (.ref sl)) Q E s := by
  have ok : sizeOk (.seq its.toList.reverse.toArray) := by
    show its.toList.reverse.toArray.size ≤ sizeLine
    rw [List.size_toArray, List.length_reverse, Array.length_toList]
    exact hz
  obtain ⟨ob, hob, hcl, hda⟩ := id hs
  have ty : s.TypeIs (.ref sl) "slice" := ⟨ob, hob, hcl⟩
  unfold getItem
  try with_reducible refine wpAny_holding ?_
  first | refine wpAny_bind (wpAny_pure ?_) | skip
  refine wpAny_bind (wpAny_sequenceKey ht.typeIs (by decide) ?_)
  refine wpAny_bind (wpAny_callSpecial?_slot (name := Str.ofString "__getitem__") ht.typeIs PyProof.Rows.slot_tuple_getitem (wpAny_call_entry PyProof.Rows.slot_tuple_getitem ht.typeIs entry_tuple_getitem ?_ (args_tuple_getitem _ _)))
  show wpAny _ _ (Builtin.Tuple.tupleItemsOf (.ref t) >>= _) _ _ s
  refine wpAny_bind (tupleItemsOf_ ht (wpAny_bind (wpAny_typeOf ty ?_)))
  rw [if_pos (by decide)]
  refine wpAny_bind (applied_back hs ?_)
  have no : ¬ ((((its.size : Int) - 1) == 0 && (-1 : Int) == 1 && its.size == its.size) = true) := by
    rw [show ((-1 : Int) == 1) = false from rfl]
    simp
  show wpAny _ _ (if (((its.size : Int) - 1) == 0 && (-1 : Int) == 1 && its.size == its.size) = true then _ else _) _ _ s
  rw [if_neg no, pick_back]
  first
    | exact wpAny_bind (m := Builtin.Tuple.tupleExact _) (wpAny_newObj_type (wpAny_pure ⟨_, rfl, wpAny_pure h⟩) ok)
    | exact wpAny_bind (m := Builtin.Tuple.tupleExact _) (wpAny_newObj_type (wpAny_bind (wpAny_pure (wpAny_pure ⟨_, rfl, wpAny_pure h⟩))) ok)
    | exact wpAny_bind (wpAny_bind (m := Builtin.Tuple.tupleExact _) (wpAny_newObj_type (wpAny_pure (wpAny_pure ⟨_, rfl, wpAny_pure h⟩)) ok))
    | exact wpAny_bind (wpAny_bind (m := Builtin.Tuple.tupleExact _) (wpAny_newObj_type (wpAny_pure ⟨_, rfl, wpAny_pure h⟩) ok))
end
def tBack (K : PySem.W.Frag) (te : TE) : TE := fun σ H Q => te σ H fun x H1 => ∃ a xs, x = .ref a ∧ ((SqL K H1 a xs ∧ ∀ p, H1 p = none → Q (.ref p) (upd H1 p (.lst xs.reverse))) ∨ (SqT K H1 a xs ∧ ∀ p o, H1 p = none → Plain o → Q (.ref p) (upd H1 p (fz o xs.reverse))))
theorem rev_vals {vs : List V} {us : List Value} (h : Vals vs us) : Vals vs.reverse us.reverse := by
  induction h with
  | nil => exact .nil
  | cons r _ ih => rw [List.reverse_cons, List.reverse_cons]; exact ih.append (.cons r .nil)
theorem pe_back {X : Cx} {e : Expr} {te : TE} {p1 p2 p3 pos : Pos} {k1} (he : PE X e te) : PE X (.Subscript e (.Slice none none (some (.UnaryOp .USub (.Constant (.int 1) k1 p1) p2)) p3) pos) (tBack X.K te) := by
  refine ⟨fun pins s σ H Q I h => ?_⟩
  refine Subscript_ (thn (he.run pins s σ H _ I h) fun v s1 ⟨x, H1, I1, r1, q1⟩ => ?_)
  refine wpAny_Slice ?_
  rw [evalPart_none, evalPart_some]
  refine wpAny_pure (wpAny_pure ?_)
  have un : PE X (.UnaryOp .USub (.Constant (.int 1) k1 p1) p2) (tUn (rU fun i => .int (-i)) (tC (.int 1))) := pe_un un_neg pe_int
  refine thn (un.run pins s1 σ H1 (fun z H' => z = .int (-1) ∧ H' = H1) I1 ⟨1, rfl, rfl, rfl⟩) fun vk s2 ⟨z, H2, I2, rz, ez, eH⟩ => ?_
  subst ez eH
  obtain ⟨tk, rfl⟩ := rz
  obtain ⟨a, xs, rfl, q1⟩ := q1
  cases r1
  have I4 : Inv X pins σ H2 { s2 with heap := s2.heap.push { cls := .type "slice", data := .fields #[.none, .none, .int (-1) tk] } } := I2.kept (t' := s2.toks) fun b ob q => Heap.get?_push_of_some _ q
  rcases q1 with ⟨hx, q⟩ | ⟨hx, q⟩
  · obtain ⟨its, r, pl, hz⟩ := I4.list hx
    have hl := r.length
    refine tail_any (ops := [.ref a, .ref s2.heap.objs.size]) pl.isList.typeIs PySem.list_getitem_lookup ?_ (by with_unfolding_all rfl)
    refine wpAny_getItem_list_slice pl.isList (Heap.IsSliceOf.new ..) .none .none (.int (-1) tk) (by decide) ?_ (by rw [List.size_toArray, ← hl]; exact hz)
    rw [PySem.W.krv_pick]
    have ok := I4.laid (t' := s2.toks) (o := .lst xs.reverse) (fun b ob q => Heap.get?_push_of_some _ q) (Nat.le_refl _) (show ObjOk X.prog X.w _ _ _ (.lst xs.reverse) from ⟨by rw [List.length_reverse]; exact hz, _, 0, rev_vals r, Heap.get?_push_size _ rfl⟩)
    exact ⟨.ref _, _, ok, rfl, q _ (I4.hok.fresh (Nat.le_refl _))⟩
  · obtain ⟨its, r, pt, hz⟩ := I4.tuple hx
    have hl := r.length
    refine tail_any (ops := [.ref a, .ref s2.heap.objs.size]) pt.typeIs PyProof.Rows.slot_tuple_getitem.lookup ?_ (by with_unfolding_all rfl)
    refine getItem_tuple_back pt (Heap.IsSliceOf.new ..) ?_ (by rw [List.size_toArray, ← hl]; exact hz)
    have ok := I4.laid (t' := s2.toks) (o := fz _ xs.reverse) (fun b ob q => Heap.get?_push_of_some _ q) (Nat.le_refl _) (show ObjOk X.prog X.w _ _ _ (.frz _ (.tup xs.reverse)) from ⟨Heap.get?_push_size _ rfl, by rw [List.length_reverse]; exact hz, _, rev_vals r, IsTup.new _ _⟩)
    exact ⟨.ref _, _, ok, rfl, q _ _ (I4.hok.fresh (Nat.le_refl _)) ⟨rfl, rfl⟩⟩
end Uv

namespace Uv
open PySem PySem.Spec PyProof.Rows L2
open Evl (Ex)
theorem tuple_mul0 (l : Addr) (its : Array Value) (n : Nat) (dd : Option Addr) (sl : Array (Option Value)) (u : Tok) (hne : its.isEmpty = false) :
    Meets (Builtin.«tuple.__mul__» ⟨[.ref l, .int 0 u], []⟩) (fun _ R st => st.heap.get? l = some { cls := .type "tuple", dict := dd, data := .seq its n, slots := sl } ∧ R (.ok (.ret (Value.ref st.heap.objs.size))) { st with heap := st.heap.push { cls := Value.type "tuple", data := Data.seq #[] }, toks := st.toks }) :=
  .of_wp fun prog w A R st hh => by
    obtain ⟨hp, gn, dr, tk, os⟩ := st
    obtain ⟨hl, hh⟩ := hh
    have f1 := AutoSeq1.idx_int
    have c0 : (decide ((0 : Int) < -(2 ^ 63)) || decide ((0 : Int) ≥ 2 ^ 63)) = false := by decide
    have c1 : (its.isEmpty || (0 : Int) == 1) = false := by rw [hne]; rfl
    wp_walk using AutoSeq1.wpAny_loadPart' hl
    repeat (first
      | (refine wpAny_ite_false (decide_eq_false (by rw [c0]; exact Bool.false_ne_true)) ?_; wp_walk using AutoSeq1.wpAny_loadPart' hl)
      | (refine wpAny_ite_false (decide_eq_false (by rw [c1]; exact Bool.false_ne_true)) ?_; wp_walk using AutoSeq1.wpAny_loadPart' hl))
    exact ⟨_, rfl, hh⟩
def rRepF (K : PySem.W.Frag) : R2 := fun x y H Q => ∃ l k xs, x = .ref l ∧ y = .int k ∧ SqT K H l xs ∧ xs ≠ [] ∧ 0 ≤ k ∧ k ≤ 1000 ∧ xs.length ≤ 1000 ∧ (k = 1 → Q (.ref l) H) ∧ (k ≠ 1 → ∀ p o, H p = none → Plain o → Q (.ref p) (upd H p (fz o (List.replicate k.toNat xs).flatten)))
theorem op_repF {X : Cx} : OpR X (binaryOp .Mult) (rRepF X.K) := by
  intro pins s σ H x y v u Q I rx ry h
  obtain ⟨l, k, xs, rfl, rfl, hT, hne, h1, h2, hz, q1, q2⟩ := h
  cases rx
  obtain ⟨t, rfl⟩ := ry
  obtain ⟨its, r, ⟨⟨cls, dd, data, sl⟩, ho, hc, n, hd⟩, hs⟩ := I.tuple hT
  simp only at hc hd
  subst hc hd
  have hle : its.length = xs.length := r.length.symm
  have hi : its.toArray.isEmpty = false := by
    cases its with
    | nil => exact absurd (List.eq_nil_of_length_eq_zero hle.symm) hne
    | cons a b => rfl
  refine wpAny_binaryOp_repeat_ref (T := "tuple") (U := "int") (by decide) ⟨_, ho, rfl⟩ (fun s' => typeIs_int s' k t) noFill_tuple_mul F.fills_int_mul F.slot_int_rmul repeat_tuple F.slot_int_index.lookup ?_
  refine call_meets F.slot_int_rmul (typeIs_int s k t) F.entry_int_rmul (F.args_int_rmul_2 _ _) (int_rmul_tuple k t l its.toArray n dd sl) ⟨ho, rfl, ⟨_, ho, rfl⟩, ?_⟩
  have new : ∀ (us : List Value) (vs : List V), Vals vs us → vs.length ≤ sizeLine → (∀ p o, H p = none → Plain o → Q (.ref p) (upd H p (fz o vs))) → EP X pins σ Q (.ref s.heap.objs.size) { s with heap := s.heap.push { cls := Value.type "tuple", data := Data.seq us.toArray }, toks := s.toks } := fun us vs rv hv q => by
    have ok := I.laid (t' := s.toks) (o := fz _ vs) (fun b ob e => Heap.get?_push_of_some _ e) (Nat.le_refl _) (show ObjOk X.prog X.w _ _ _ (.frz _ (.tup vs)) from ⟨Heap.get?_push_size _ rfl, hv, us, rv, IsTup.new _ _⟩)
    exact ⟨.ref s.heap.objs.size, _, ok, rfl, q _ _ (I.hok.fresh (Nat.le_refl _)) ⟨rfl, rfl⟩⟩
  by_cases hk : k = 1
  · subst hk
    exact call_meets F.slot_tuple_mul ⟨_, ho, rfl⟩ F.entry_tuple_mul (F.args_tuple_mul_2 _ _) (Un.tuple_mul1 l its.toArray n dd sl t) ⟨ho, .ref l, H, I, rfl, q1 rfl⟩
  · have q2 := q2 hk
    by_cases h0 : k = 0
    · subst h0
      exact call_meets F.slot_tuple_mul ⟨_, ho, rfl⟩ F.entry_tuple_mul (F.args_tuple_mul_2 _ _) (tuple_mul0 l its.toArray n dd sl t hi) ⟨ho, new [] [] .nil (Nat.zero_le _) q2⟩
    · have hm : ((its.toArray.size : Nat) : Int) * k ≤ 1000000 := by
        rw [List.size_toArray, hle]
        have a1 : ((xs.length : Nat) : Int) * k ≤ 1000 * k := Int.mul_le_mul_of_nonneg_right (by omega) (by omega)
        omega
      have flen : (List.replicate k.toNat its).flatten.length ≤ sizeLine := by
        rw [PyProof.Rows.lm_len_rep_flat, hle, sizeLine_eq]
        have a1 : k.toNat * xs.length ≤ 1000 * 1000 := Nat.mul_le_mul (by omega) hz
        omega
      have rep : ∀ m : Nat, Vals (List.replicate m xs).flatten (List.replicate m its).flatten := fun m => by
        induction m with
        | zero => exact .nil
        | succ m ih => rw [List.replicate_succ, List.replicate_succ, List.flatten_cons, List.flatten_cons]; exact r.append ih
      have c0 : (decide (k < -(2 ^ 63)) || decide (k ≥ 2 ^ 63)) = false := by rw [decide_eq_false (by omega), decide_eq_false (by omega)]; rfl
      have c1 : (its.toArray.isEmpty || k == 1) = false := by rw [hi, Bool.false_or]; exact beq_eq_false_iff_ne.mpr hk
      have c2 : (decide (k ≤ 0) || its.toArray.isEmpty) = false := by rw [hi, Bool.or_false]; exact decide_eq_false (by omega)
      have c4 : Builtin.Tuple.tupleTooMany (((its.toArray.size : Nat) : Int) * k) = false := by unfold Builtin.Tuple.tupleTooMany; rw [sizeLine_eq]; exact decide_eq_false (by omega)
      refine call_meets F.slot_tuple_mul ⟨_, ho, rfl⟩ F.entry_tuple_mul (F.args_tuple_mul_2 _ _) (tuple_mulW l its.toArray n dd sl k t c0 c1 c2 (by omega) c4 (by rw [size_rep, List.size_toArray]; exact flen)) ⟨ho, ?_⟩
      rw [size_rep]
      exact new _ _ (rep k.toNat) (by rw [(rep k.toNat).length]; exact flen) q2
section
variable [kk : KK]
def three : List Cel → Option (Cel × Cel × Cel)
  | [a, b, c] => some (a, b, c)
  | _ => none
theorem three_eq {cs : List Cel} {c d e : Cel} (h : three cs = some (c, d, e)) : cs = [c, d, e] := by
  unfold three at h
  split at h
  · cases h; rfl
  · cases h
def sPar3 (i j k : Nat) (as : XWC) : XS := fun ρ => (as ρ).bind fun x => (three x.1).bind fun c => if i < x.2.length ∧ j < x.2.length ∧ k < x.2.length then some (.nxt (((x.2.set i (toSl c.1)).set j (toSl c.2.1)).set k (toSl c.2.2))) else none
theorem cels_split {G H : Hp} {v : V} {vs : List V} {c : Cel} {cs : List Cel} {B : List Addr} (h : Cels G H (v :: vs) (c :: cs) B) : ∃ B1 B2, B = B1 ++ B2 ∧ Cels G H [v] [c] B1 ∧ Cels G H vs cs B2 := by
  cases h with
  | dat r n => exact ⟨[], B, rfl, .dat r .nil, n⟩
  | sub hb r n => exact ⟨[_], _, rfl, .sub hb r .nil, n⟩
  | hal o n => exact ⟨_, _, rfl, by simpa using Cels.hal o Cels.nil, n⟩
theorem ss_unp3 {i j k : Nat} {ts : TA} {as : XWC} (hi : i ≠ 0) (hj : j ≠ 0) (hk : k ≠ 0) (hs : SWC ts as) : SS (tAsg (tTupF ts) (gTU K 3 (gCons (gName i) (gCons (gName j) (gCons (gName k) gNil))))) (sPar3 i j k as) := fun pn F T H σ ρ o D st e q => by
  obtain ⟨⟨cs, ρ1⟩, h1, e⟩ := bind_some e
  obtain ⟨⟨c, d, g⟩, h2, e⟩ := bind_some e
  have ec : cs = _ := three_eq h2
  subst ec
  by_cases hl : i < ρ1.length ∧ j < ρ1.length ∧ k < ρ1.length
  · rw [if_pos hl] at e
    cases e
    refine hs pn F T H σ ρ _ ρ1 st h1 _ fun vs B T1 H0 st0 nd off fr0 vis0 hc0 => ?_
    obtain ⟨v, w, z, rfl⟩ : ∃ v w z, vs = [v, w, z] := by
      have := hc0.length
      match vs, this with
      | [v, w, z], _ => exact ⟨v, w, z, rfl⟩
    refine ⟨by show 3 ≤ sizeLine; decide, fun p ob hp pl => .inl ⟨p, [v, w, z], rfl, .inl (.inr ⟨_, upd_same⟩), rfl, ?_⟩⟩
    have ex : Ex H0 (upd H0 p (fz ob [v, w, z])) := Ex.new hp
    have st1 := st0.ex ex
    have vis := vis0.trans (hid_ex (S := SF (FL F B) T1) ex)
    have hB : ∀ x ∈ B, upd H0 p (fz ob [v, w, z]) x = H0 x := fun x hx => by
      obtain ⟨ob, e, _⟩ := hc0.lst x hx
      rw [e, ex _ _ e]
    have hc := hc0.mv (hid_ex (S := SF (FL F B) T1) ex) hB
    have fr : ∀ x, F x → upd H0 p (fz ob [v, w, z]) x = H x := fun x hx => by
      rw [← fr0 x hx]
      cases e : H0 x with
      | none => exact absurd e (st0.al x (.inl hx))
      | some o => exact ex _ _ e
    obtain ⟨B1, B', rfl, c1, c'⟩ := cels_split hc
    obtain ⟨B2, B3, rfl, c2, c3⟩ := cels_split c'
    have eF : FL F (B1 ++ (B2 ++ B3)) = FL (FL (FL F B3) B2) B1 := by rw [FL_app, FL_app]; exact FL_perm fun x => by simp only [List.mem_append]; exact ⟨fun h => by rcases h with h | h | h <;> simp [h], fun h => by rcases h with h | h | h <;> simp [h]⟩
    rw [eF] at st1 c1 c2 c3 vis
    have n1 := List.nodup_append.mp nd
    have n2 := List.nodup_append.mp n1.2.1
    obtain ⟨T2, st2, vis2⟩ := StOk.cel (F := FL (FL F B3) B2) hi hl.1 st1 n1.1 (fun x hx y => y.elim (fun y => y.elim (off x (List.mem_append_left _ hx)) fun y => n1.2.2 x hx x (List.mem_append_right _ y) rfl) fun y => n1.2.2 x hx x (List.mem_append_left _ y) rfl) c1
    have c2' := c2.mv vis2 fun x hx => rfl
    obtain ⟨T3, st3, vis3⟩ := StOk.cel (F := FL F B3) hj (by rw [List.length_set]; exact hl.2.1) st2 n2.1 (fun x hx y => y.elim (off x (List.mem_append_right _ (List.mem_append_left _ hx))) fun y => n2.2.2 x hx x y rfl) c2'
    have c3' := c3.mv (vis2.trans vis3) fun x hx => rfl
    obtain ⟨T4, st4, vis4⟩ := StOk.cel (F := F) hk (by rw [List.length_set, List.length_set]; exact hl.2.2) st3 n2.2.1 (fun x hx => off x (List.mem_append_right _ (List.mem_append_right _ hx))) c3'
    exact ⟨v, [w, z], rfl, w, [z], rfl, z, [], rfl, rfl, q _ T4 _ st4 ⟨fr, ((vis.trans vis2).trans vis3).trans vis4⟩⟩
  · rw [if_neg hl] at e; cases e
def backP : PD → Option PD
  | .list ds => some (.list ds.reverse)
  | .tuple ds => some (.tuple ds.reverse)
  | _ => none
theorem RpAll.rev {H : Hp} : ∀ {vs : List V} {ds : List PD}, RpAll H vs ds → RpAll H vs.reverse ds.reverse
  | _, _, .nil => .nil
  | _, _, .cons h r => by rw [List.reverse_cons, List.reverse_cons]; exact (RpAll.rev r).append (.cons h .nil)
theorem se_back {te : TE} {a : XE} (ha : SE te a) : SE (tBack K te) (xUn backP a) := fun ρ d h S σ H al en Q q => by
  obtain ⟨x, h1, h⟩ := bind_some h
  refine ha ρ x h1 S σ H al en _ fun v H1 e1 rv => ?_
  cases rv with
  | lst hh ra =>
    cases h
    exact ⟨_, _, rfl, .inl ⟨.inl (.inl (hid_le _ _ hh)), fun p hp => q _ _ (e1.trans (Ex.new hp)) (.lst (new_ok (al.ex e1) hp) (ra.rev.ex (hid_ex (Ex.new hp))))⟩⟩
  | tup hh pl ra =>
    cases h
    exact ⟨_, _, rfl, .inr ⟨.inl (.inr ⟨_, hid_le _ _ hh⟩), fun p o hp pl => q _ _ (e1.trans (Ex.new hp)) (.tup (new_ok (al.ex e1) hp) pl (ra.rev.ex (hid_ex (Ex.new hp))))⟩⟩
  | _ => cases h
def rgP : PD → Option (List PD)
  | .int n => if -(2 ^ 62) ≤ n ∧ n ≤ 100000 then some ((List.range n.toNat).map fun k => .int (k : Nat)) else none
  | _ => none
def rgL (d : PD) : Option PD := (rgP d).bind fun ds => some (.list ds)
theorem rp_rg {H : Hp} {n : Int} : RpAll H (rgV 0 n) ((List.range n.toNat).map fun k => .int (k : Nat)) := by
  unfold rgV
  rw [Int.sub_zero]
  generalize List.range n.toNat = l
  induction l with
  | nil => exact .nil
  | cons k l ih =>
    rw [List.map_cons, List.map_cons, Int.zero_add]
    exact .cons (.int _) ih
theorem rg_ok {n : Int} (h : -(2 ^ 62) ≤ n ∧ n ≤ 100000) : RgOk 0 n := ⟨by omega, by omega, h.1, by omega, by omega⟩
theorem sef_rgL {ta : TE} {a : XE} (ha : SE ta a) : SEF (tLstRg (tRg1 ta)) (xUn rgL a) := fun ρ d h => by
  obtain ⟨x, h1, h⟩ := bind_some h
  obtain ⟨ds, h2, h⟩ := bind_some h
  cases h
  cases x with
  | int n =>
    have h2 : (if -(2 ^ 62) ≤ n ∧ n ≤ 100000 then some ((List.range n.toNat).map fun k => PyData.int (k : Nat)) else none) = some ds := h2
    by_cases c : -(2 ^ 62) ≤ n ∧ n ≤ 100000
    · rw [if_pos c] at h2
      cases h2
      refine ⟨_, rfl, fun S σ H al en Q q => ha ρ _ h1 S σ H al en _ fun v H1 e1 rv => ?_⟩
      cases rv
      exact ⟨n, rfl, rg_ok c, fun p hp => q p _ _ (e1.trans (Ex.new hp)) (ex_free e1 hp) upd_same rp_rg⟩
    · rw [if_neg c] at h2; cases h2
  | _ => cases h2
def mulU : PD → PD → Option PD
  | .tuple xs, .int j => if xs ≠ [] ∧ 0 ≤ j ∧ j ≤ 1000 ∧ xs.length ≤ 1000 then some (.tuple (List.replicate j.toNat xs).flatten) else none
  | x, y => mulP x y
def rMulV (K : PySem.W.Frag) : R2 := fun x y H Q => rMulU x y H Q ∨ rRepF K x y H Q
theorem op_mulV {X : Cx} : OpR X (binaryOp .Mult) (rMulV X.K) := OpR.or op_mulU op_repF
theorem so_mulV : SO (rMulV K) mulU := fun x y z h S H vx vy al rx ry Q q => by
  cases rx with
  | @tup a o xs ds ha pa ra =>
    cases ry with
    | int j =>
      have h : (if ds ≠ [] ∧ 0 ≤ j ∧ j ≤ 1000 ∧ ds.length ≤ 1000 then some (PyData.tuple (List.replicate j.toNat ds).flatten) else none) = some z := h
      by_cases c : ds ≠ [] ∧ 0 ≤ j ∧ j ≤ 1000 ∧ ds.length ≤ 1000
      · rw [if_pos c] at h
        cases h
        refine .inr ⟨a, j, xs, rfl, rfl, .inl (.inr ⟨_, hid_le _ _ ha⟩), fun e => ?_, c.2.1, c.2.2.1, by rw [ra.length]; exact c.2.2.2, fun e => ?_, fun e p o' hp pl => q _ _ (Ex.new hp) (.tup (new_ok al hp) pl ((ra.rep j.toNat).ex (hid_ex (Ex.new hp))))⟩
        · subst e
          cases ra
          exact c.1 rfl
        · subst e
          refine q _ H (Ex.refl H) ?_
          have e : (List.replicate (1 : Int).toNat ds).flatten = ds := by simp
          rw [e]
          exact .tup ha pa ra
      · rw [if_neg c] at h; cases h
    | _ => cases h
  | int i => exact .inl (so_mul _ _ z (by cases y <;> exact h) S H _ vy al (.int i) ry Q q)
  | lst ha ra => exact .inl (so_mul _ _ z (by cases y <;> exact h) S H _ vy al (.lst ha ra) ry Q q)
  | _ => cases y <;> cases h
end
end Uv

namespace Uv
open PySem PySem.Spec PyProof.Rows L2
open Evl (Ex)
def rGtD (K : PySem.W.Frag) : R2 := fun x y H Q => ∃ d e, Dp K H x d ∧ Dp K H y e ∧ SeqAt.shaped d = true ∧ PySem.W.alike d e = true ∧ d ≠ .none ∧ Q (.bl (PySem.W.dataLt e d)) H
theorem shaped_dep {d : PyData} (h : SeqAt.shaped d = true) : d.depth ≤ 64 := by
  unfold SeqAt.shaped at h
  rw [Bool.and_eq_true] at h
  exact of_decide_eq_true h.2
theorem op_gtD {X : Cx} (hu : X.A.units + 64 < cLine) : OpR X (compareOp .Gt) (rGtD X.K) := by
  intro pins s σ H x y v u Q I rx ry h
  obtain ⟨d, e, hd, he, sd, al, hn, q⟩ := h
  obtain ⟨as, r1⟩ := Dp.reads I d x v hd rx
  obtain ⟨bs, r2⟩ := Dp.reads I e y u he ry
  have := shaped_dep sd
  exact PySem.W.gt_data r1 r2 al hn (by omega) ⟨.bl _, H, I, rfl, q⟩
variable [kk : KK]
def rGtU (K : PySem.W.Frag) : R2 := fun x y H Q => oGt x y H Q ∨ rGtD K x y H Q
theorem op_gtU {X : Cx} (hu : X.A.units + 64 < cLine) : OpR X (compareOp .Gt) (rGtU X.K) := OpR.or op_gt (op_gtD hu)
def gtU : PD → PD → Option PD
  | .int i, .int j => some (.bool (decide (j < i)))
  | x, y => if SeqAt.shaped x = true ∧ SeqAt.shaped y = true ∧ PySem.W.alike x y = true ∧ isNone x = false then some (.bool (PySem.W.dataLt y x)) else none
omit kk in
theorem gtU_eq {x y z : PD} (h : gtU x y = some z) : (∃ i j, x = .int i ∧ y = .int j ∧ z = .bool (decide (j < i))) ∨ (SeqAt.shaped x = true ∧ SeqAt.shaped y = true ∧ PySem.W.alike x y = true ∧ isNone x = false ∧ z = .bool (PySem.W.dataLt y x)) := by
  unfold gtU at h
  split at h
  · cases h
    exact .inl ⟨_, _, rfl, rfl, rfl⟩
  · split at h
    · rename_i c
      cases h
      exact .inr ⟨c.1, c.2.1, c.2.2.1, c.2.2.2, rfl⟩
    · cases h
theorem so_gtU : SO (rGtU K) gtU := fun x y z h S H vx vy al rx ry Q q => by
  rcases gtU_eq h with ⟨i, j, rfl, rfl, rfl⟩ | ⟨c1, c2, c3, c4, rfl⟩
  · cases rx; cases ry
    exact .inl ⟨i, j, rfl, rfl, q _ H (Ex.refl H) (.bl _)⟩
  · refine .inr ⟨x, y, (rx.ex hid_le).dp (nodict c1), (ry.ex hid_le).dp (nodict c2), c1, c3, ?_, q _ H (Ex.refl H) (.bl _)⟩
    rintro rfl
    exact nomatch c4
end Uv

namespace Uv
open PySem PySem.Spec PyProof.Rows L2
open Evl (Ex)
section
variable {prog : Program} {w : World} {A : Around} {E : Value → Shared → Prop} {s : Shared}
end
section
variable {prog : Program} {w : World} {A : Around} {E : Value → Shared → Prop} {s : Shared}
end
variable [kk : KK]
section
variable {S : Hs} {H : Hp}
end
section
variable {ts : TA}
end
end Uv

namespace Uv
open PySem PySem.Spec PyProof.Rows L2
open Evl (Ex)
section
variable {X : Cx} {ta : TE} {a : Expr} {p p2 q pos : Pos}
end
variable [kk : KK]
def insS (x : Int) : List Int → List Int
  | [] => [x]
  | y :: l => if x < y then x :: y :: l else if x = y then y :: l else y :: insS x l
def setS : List Int → List Int
  | [] => []
  | x :: l => insS x (setS l)
end Uv

namespace Uv
open PySem PySem.Spec PyProof.Rows L2
open Evl (Ex)
theorem u1 {k : Nat} {A : Around} (r : Room k A) : A.units + 1 < cLine := by have := r.un; omega
variable [kk : KK]
def hasD (l : List (Int × PD)) (n : Int) : Bool := l.any fun kv => decide (kv.1 = n)
def getD (l : List (Int × PD)) (n : Int) : Option PD := (l.find? fun kv => decide (kv.1 = n)).map (·.2)
section
variable {pn : Pn} {F : Hs} {T : Trs} {H : Hp} {σ : L2.St} {ρ : Env}
end
section
variable {tk te : TE} {k : XE} {w : XW}
end
end Uv

namespace Uv
open PySem PySem.Spec PyProof.Rows L2
open Evl (Ex)
variable [kk : KK]
end Uv

namespace Uv
open PySem PySem.Spec PyProof.Rows L2
open Evl (Ex)
variable [kk : KK]
end Uv

namespace Uv
open PySem PySem.Spec PyProof.Rows L2
open Evl (Ex)
variable [kk : KK]
end Uv

namespace Uv
open PySem PySem.Spec PyProof.Rows L2
open Evl (Ex)
section
variable {X : Cx}
end
end Uv

namespace Uv
open PySem PySem.Spec PyProof.Rows L2
open Evl (Ex)
variable [kk : KK]
end Uv

namespace Uv
open PySem PySem.Spec PyProof.Rows L2
open Evl (Ex)
variable [kk : KK]
end Uv

namespace Uv
open PySem PySem.Spec PyProof.Rows L2
open Evl (Ex)
variable [kk : KK]
def vA (ρ : Env) (r : List PD) : VE := (vw ρ).set 4 (some (.list r))
structure AlsD (σ : L2.St) (H : Hp) : Prop where
  ex : ∃ a vs c, σ[0]? = some (some (.ref a)) ∧ H a = some (.lst vs) ∧ vs[2]? = some (.ref c) ∧ σ[4]? = some (some (.ref c))
section
variable {pn : Pn} {F : Hs} {T : Trs} {H H' : Hp} {σ : L2.St} {ρ : Env}
end

def dkC (c : PD) (r : List PD) (n b : Int) : List Cel := [.dat c, .dat (.int n), .sub r, .dat (.int b)]
def eD (c : PD) (r : List PD) (n b : Int) (m : PD) (t0 b0 : Int) (z6 z7 : Sl) : Env := [.own (dkC c r n b), .dat m, .dat c, .dat (.int t0), .un, .dat (.int b0), z6, z7]
section
variable {pn : Pn} {F : Hs} {T : Trs} {H H' : Hp} {σ : L2.St} {c : PD} {r : List PD} {n b t0 b0 : Int} {m : PD} {z6 z7 : Sl}
end
end Uv

namespace Uv
open PySem PySem.Spec PyProof.Rows L2
open Evl (Ex)
variable [kk : KK]
end Uv

namespace Uv
open PySem PySem.Spec PyProof.Rows L2
open Evl (Ex)
variable [kk : KK]
end Uv

namespace Uv
open PySem PySem.Spec PyProof.Rows L2
open Evl (Ex)
variable [kk : KK]
end Uv

namespace Uv
open PySem PySem.Spec PyProof.Rows L2
open Evl (Ex)
section
variable {prog : Program} {w : World} {A : Around} {E : Value → Shared → Prop} {s : Shared}
end
section
variable {prog : Program} {w : World} {A : Around} {E : Value → Shared → Prop} {s : Shared}
end
variable [kk : KK]
section
variable {S : Hs} {H : Hp}
end
section
variable {ts : TA}
end
end Uv

namespace Uv
open PySem PySem.Spec PyProof.Rows L2
open Evl (Ex)
variable [kk : KK]
end Uv

namespace Uv
open PySem PySem.Spec PyProof.Rows L2
open Evl (Ex)
section
variable {prog : Program} {w : World} {A : Around} {E : Value → Shared → Prop} {s : Shared}
end
section
variable {prog : Program} {w : World} {A : Around} {E : Value → Shared → Prop} {s : Shared}
end
variable [kk : KK]
section
variable {S : Hs} {H : Hp}
end
section
variable {ts : TA}
end
end Uv

namespace Uv
open PySem PySem.Spec PyProof.Rows L2
open Evl (Ex)
section
variable {X : Cx}
end
variable [kk : KK]
end Uv

namespace Uv
open PySem PySem.Spec PyProof.Rows L2
open Evl (Ex)
def rBI (f : Int → Int → Int) : R2 := fun x y H Q => ∃ b j, x = .bl b ∧ y = .int j ∧ Q (.int (f (if b = true then (1 : Int) else 0) j)) H
theorem op_addBI {X : Cx} : OpR X (binaryOp .Add) (rBI fun i j => i + j) := by
  intro pins s σ H x y v u Q I rx ry h
  obtain ⟨b, j, rfl, rfl, q⟩ := h
  cases rx
  obtain ⟨tk, rfl⟩ := ry
  exact PySem.IntBool.add_bool_int ⟨.int _, H, I.tok _, ⟨_, rfl⟩, q⟩
theorem op_subBI {X : Cx} : OpR X (binaryOp .Sub) (rBI fun i j => i - j) := by
  intro pins s σ H x y v u Q I rx ry h
  obtain ⟨b, j, rfl, rfl, q⟩ := h
  cases rx
  obtain ⟨tk, rfl⟩ := ry
  exact PySem.IntBool.sub_bool_int ⟨.int _, H, I.tok _, ⟨_, rfl⟩, q⟩
def rAddB (K : PySem.W.Frag) : R2 := fun x y H Q => rAddU K x y H Q ∨ rBI (fun i j => i + j) x y H Q
def rSubB : R2 := fun x y H Q => oSub x y H Q ∨ rBI (fun i j => i - j) x y H Q
variable [kk : KK]
theorem op_addB {X : Cx} : OpR X (binaryOp .Add) (rAddB X.K) := OpR.or op_addU op_addBI
theorem op_subB {X : Cx} : OpR X (binaryOp .Sub) rSubB := OpR.or op_sub op_subBI
def addB : PD → PD → Option PD
  | .bool b, .int j => some (.int ((if b = true then (1 : Int) else 0) + j))
  | x, y => addP x y
def subB : PD → PD → Option PD
  | .bool b, .int j => some (.int ((if b = true then (1 : Int) else 0) - j))
  | x, y => subP x y
theorem so_addB : SO (rAddB K) addB := fun x y z h S H vx vy al rx ry Q q => by
  unfold addB at h
  split at h
  · cases h
    cases rx
    cases ry
    exact .inr ⟨_, _, rfl, rfl, q _ H (Ex.refl H) (.int _)⟩
  · exact .inl (so_add _ _ z h S H vx vy al rx ry Q q)
theorem so_subB : SO rSubB subB := fun x y z h S H vx vy al rx ry Q q => by
  unfold subB at h
  split at h
  · cases h
    cases rx
    cases ry
    exact .inr ⟨_, _, rfl, rfl, q _ H (Ex.refl H) (.int _)⟩
  · exact .inl (so_sub _ _ z h S H vx vy al rx ry Q q)
end Uv

namespace Uv
open PySem PySem.Spec PyProof.Rows L2
open Evl (Ex)
variable [kk : KK]
end Uv

namespace Uv
open PySem PySem.Spec PyProof.Rows L2
open Evl (Ex)
def rNeX (K : PySem.W.Frag) : R2 := fun x y H Q => rNeD K x y H Q ∨ (∃ a b xs, x = .ref a ∧ y = .ref b ∧ SqT K H a xs ∧ SqT K H b [] ∧ Q (.bl (!xs.isEmpty)) H) ∨ ∃ a b xs, x = .ref a ∧ y = .ref b ∧ SqL K H a xs ∧ SqL K H b [] ∧ Q (.bl (!xs.isEmpty)) H
theorem op_neX {X : Cx} (hu : X.A.units + 64 < cLine) : OpR X (compareOp .NotEq) (rNeX X.K) := by
  intro pins s σ H x y v u Q I rx ry h
  rcases h with h | ⟨a, b, xs, rfl, rfl, ha, hb, q⟩ | ⟨a, b, xs, rfl, rfl, ha, hb, q⟩
  · exact op_neD hu pins s σ H x y v u Q I rx ry h
  · cases rx
    cases ry
    obtain ⟨its, rv, ht, _⟩ := I.tuple ha
    obtain ⟨its2, rv2, ht2, _⟩ := I.tuple hb
    cases rv2
    refine SeqAt.RcNeAt.tuples (e := fun _ => true) ht ht2 (by omega) (fun j _ h2 => absurd h2 (by simp)) X.prog X.w X.xe _ ⟨.bl _, H, I, ?_, q⟩
    show Value.bool _ = Value.bool _
    cases rv with
    | nil => rfl
    | cons h t => simp
  · cases rx
    cases ry
    obtain ⟨its, rv, ht, _⟩ := I.list ha
    obtain ⟨its2, rv2, ht2, _⟩ := I.list hb
    cases rv2
    cases rv with
    | nil => exact SeqAt.RcNeAt.lists (e := fun _ => true) ht.isList ht2.isList rfl (by omega) (fun j _ h2 => absurd h2 (by simp)) X.prog X.w X.xe _ ⟨.bl _, H, I, rfl, q⟩
    | cons h t => exact SeqAt.RcNeAt.lists_lengths ht.isList ht2.isList (by simp) (by omega) X.prog X.w X.xe _ ⟨.bl _, H, I, rfl, q⟩
variable [kk : KK]
def neX : PD → PD → Option PD
  | .tuple ds, .tuple [] => some (.bool (!ds.isEmpty))
  | .list ds, .list [] => some (.bool (!ds.isEmpty))
  | x, y => neP x y
theorem so_neX : SO (rNeX K) neX := fun x y z h S H vx vy al rx ry Q q => by
  unfold neX at h
  split at h
  · cases h
    cases rx with
    | @tup a o xs _ hx _ ra =>
      cases ry with
      | @tup b o2 ys ds2 hy _ rb =>
        cases rb
        have qq := q (.bl (!xs.isEmpty)) H (Ex.refl H)
        refine .inr (.inl ⟨a, b, xs, rfl, rfl, .inl (.inr ⟨_, hid_le _ _ hx⟩), .inl (.inr ⟨_, hid_le _ _ hy⟩), qq ?_⟩)
        cases ra with
        | nil => exact .bl _
        | cons _ _ => exact .bl _
  · cases h
    cases rx with
    | @lst a xs _ hx ra =>
      cases ry with
      | @lst b ys ds2 hy rb =>
        cases rb
        have qq := q (.bl (!xs.isEmpty)) H (Ex.refl H)
        refine .inr (.inr ⟨a, b, xs, rfl, rfl, .inl (.inl (hid_le _ _ hx)), .inl (.inl (hid_le _ _ hy)), qq ?_⟩)
        cases ra with
        | nil => exact .bl _
        | cons _ _ => exact .bl _
  · exact .inl (so_ne _ _ z h S H vx vy al rx ry Q q)
end Uv

namespace Uv
open PySem PySem.Spec PyProof.Rows L2
open Evl (Ex)
variable [kk : KK]
end Uv

namespace Uv
open PySem PySem.Spec PyProof.Rows L2
open Evl (Ex)
section
variable {P : Program} {w : World} {K : PySem.W.Frag} {mg : Str → Option Value} {base : Heap}
structure FnX (P : Program) (w : World) (K : PySem.W.Frag) (mg : Str → Option Value) (base : Heap) (k : Nat) (f : Addr) (fd : FuncData) (ps : List Str) (sp : Sp) : Prop where
  len : ∀ vs H Q E, sp vs H Q E → vs.length = ps.length
  run : ∀ (A : Around) (outer : List PySem.Env) (s : Shared) (H : Hp) (args : Args) (us : List Value) (vs : List V) (Q : VK) (E : XK), A.guards = some [] → Room k A → Env0 P w K mg base A outer s H → BindsTo s fd args (ps.zip us) → Vals vs us → sp vs H Q E →
    codeAny (model P w) A (.call (.ref f) args) (CR (L2.CX P w) outer P w H s Q E) s
structure CalX (P : Program) (w : World) (K : PySem.W.Frag) (mg : Str → Option Value) (base : Heap) (k : Nat) (x : Str) (sp : Sp) : Prop where
  ex : ∃ (f : Addr) (fd : FuncData) (ps : List Str), FnX P w K mg base k f fd ps sp ∧ mg x = some (.ref f) ∧ PySem.W.keepIn K (.ref f) = true ∧ Binds K fd ps []
end
variable [kk : KK]
section
variable {W : WX} {cl : Nat → Value} {t u : TS} {x y : XS} {ct : TT} {c : XWT}
end
end Uv

namespace Uv
open PySem PySem.Spec PyProof.Rows L2
open Evl (Ex)
theorem kit_ref {K : PySem.W.Frag} {t : Value} {C : Addr} {b : Bool} (hd : PySem.W.hasDictIn K C = true) (ht : PySem.W.typeIn K (.ref C) = some (.type "type")) (h : PySem.W.subIn K t (.ref C) = some b) (hs : t = .ref C → b = true) : PySem.W.kitOne K t (.ref C) = some b := by
  obtain ⟨cd, hc, _⟩ := PySem.W.any_some hd
  unfold PySem.W.kitOne
  by_cases z : (t == Value.ref C) = true
  · rw [if_pos z, hs (by simpa using z)]
  · rw [if_neg z]
    unfold PySem.W.kitCls
    have e2 : ((PySem.W.clsIn K C).isSome && PySem.W.typeIn K (.ref C) == some (.type "type")) = true := by rw [hc, ht] <;> rfl
    show (if ((PySem.W.clsIn K C).isSome && PySem.W.typeIn K (.ref C) == some (.type "type")) = true then PySem.W.subIn K t (.ref C) else none) = some b
    rw [if_pos e2, h]
theorem kit_VE {K : PySem.W.Frag} {C : Addr} {b : Bool} (h : PySem.W.subIn K (.ref C) (.type "ValueError") = some b) : PySem.W.kitOne K (.ref C) (.type "ValueError") = some b := by
  unfold PySem.W.kitOne
  rw [if_neg (by simp)]
  show (if PySem.W.kitMeta "ValueError" = true then PySem.W.subIn K (.ref C) (.type "ValueError") else none) = some b
  rw [if_pos (by decide +kernel), h]
variable [kk : KK]
end Uv

namespace Uv
open PySem PySem.Spec PyProof.Rows L2
open Evl (Ex)
variable [kk : KK]
end Uv

namespace Uv
open PySem PySem.Spec PyProof.Rows L2
open Evl (Ex)
section
variable {P : Program} {w : World} {K : PySem.W.Frag} {mg : Str → Option Value} {base : Heap}
end
end Uv

namespace Uv
open PySem PySem.Spec PyProof.Rows L2
open Evl (Ex)
variable [kk : KK]
section
variable {W : WX} {cl : Nat → Value}
end
end Uv

namespace Uv
open PySem PySem.Spec PyProof.Rows L2
open Evl (Ex)
structure KwB (K : PySem.W.Frag) (fd : FuncData) (ps : List Str) (kw : Str) : Prop where
  one : ∀ (s : Shared) (us : List Value) (w : Value), K.In s.heap → (us ++ [w]).length = ps.length → BindsTo s fd ⟨us, [(kw, w)]⟩ (ps.zip (us ++ [w]))
  dfl : ∀ (s : Shared) (us : List Value), K.In s.heap → (us ++ [Value.bool true]).length = ps.length → BindsTo s fd ⟨us, []⟩ (ps.zip (us ++ [.bool true]))
section
variable {P : Program} {w : World} {K : PySem.W.Frag} {mg : Str → Option Value} {base : Heap}
structure DfnK (K : PySem.W.Frag) (mg : Str → Option Value) (x : Str) (st : Stmt) (ps : List Str) (kw : Str) : Prop where
  ex : ∃ f fd, Fun K x x st f fd ∧ mg x = some (.ref f) ∧ KwB K fd ps kw
theorem dfnk_mk {h : Heap} {x kw : Str} {st : Stmt} {ps : List Str} {n : Nat} {f D : Addr} {od an : Option Addr} {sl : Array (Option Value)} {oc dc pm cd ct : Value} (X : K.In h) (G : h.Ns mainGlobals mg)
    (a1 : PySem.W.nsIn K mainGlobals x = some (some (.ref f))) (l1 : K.lookup f = some ⟨oc, od, .func (PySem.W.fnOf x x (defArgs st) (defBody st) (defScope st) .none (.ref D) dc pm an cd ct), sl⟩) (c1 : PySem.W.codeIn K cd x = true) (k1 : PySem.W.keepIn K (.ref f) = true)
    (d1 : PySem.W.nsIn K D kw = some (some (.bool true))) (hn : ps.length = n + 1)
    (h1 : ∀ (us : List Value) (w : Value), us.length = n → bindArgs (PySem.W.fnOf x x (defArgs st) (defBody st) (defScope st) .none (.ref D) dc pm an cd ct) ⟨us, [(kw, w)]⟩ = pure (ps.zip (us ++ [w])))
    (h2 : ∀ (us : List Value), us.length = n → KwChain D [(kw, .bool true)] (bindArgs (PySem.W.fnOf x x (defArgs st) (defBody st) (defScope st) .none (.ref D) dc pm an cd ct) ⟨us, []⟩) (ps.zip (us ++ [.bool true]))) : DfnK K mg x st ps kw := by
  refine ⟨f, _, fun_mk (st := st) l1 c1 k1, PySem.W.mg_of X G a1, ⟨fun s us w _ hl => .of_eq (h1 us w ?_), fun s us X' hl => L2.BindsTo.of_looks fun M => KwChain.looks X' (fun q hq => ?_) (h2 us ?_)⟩⟩
  · rw [List.length_append, List.length_singleton] at hl; omega
  · rw [List.mem_singleton.mp hq]; exact d1
  · rw [List.length_append, List.length_singleton] at hl; omega
end
variable [kk : KK]
def tApp1 (t : TA) (te : TE) : TA := fun σ H Q => t σ H fun vs H1 => te σ H1 fun z H2 => Q (vs ++ [z]) H2
def xApp1 (as : XA) (b : XE) : XA := fun ρ => (as ρ).bind fun xs => (b ρ).bind fun y => some (xs ++ [y])
theorem RpAll.snoc {H : Hp} {v : V} {d : PD} (h2 : Rp H v d) : ∀ {vs : List V} {ds : List PD}, RpAll H vs ds → RpAll H (vs ++ [v]) (ds ++ [d])
  | _, _, .nil => .cons h2 .nil
  | _, _, .cons h t => .cons h (RpAll.snoc h2 t)
theorem sa_app1 {t : TA} {te : TE} {as : XA} {b : XE} (hs : SA t as) (hb : SE te b) : SA (tApp1 t te) (xApp1 as b) := fun ρ ds h S σ H al en Q q => by
  obtain ⟨xs, h1, h⟩ := bind_some h
  obtain ⟨y, h2, h⟩ := bind_some h
  cases h
  exact hs ρ xs h1 S σ H al en _ fun vs H1 e1 rs => hb ρ y h2 S σ H1 (al.ex e1) (en.ex (hid_ex e1)) _ fun z H2 e2 rz => q _ H2 (e1.trans e2) (RpAll.snoc rz (rs.ex (hid_ex e2)))
section
variable {X : Cx} {j k : Nat} {x kw : Str} {sp : Sp} {p pos kpos : Pos} {e ke : Expr} {es : List Expr} {t : TA} {te : TE}
end
end Uv

namespace Uv
open PySem PySem.Spec PyProof.Rows L2
open Evl (Ex)
variable [kk : KK]
end Uv

namespace Uv
open PySem PySem.Spec PyProof.Rows L2
open Evl (Ex)
variable [kk : KK]
def wIxO (i : Nat) (w : XW) : XW := fun ρ => (ownAt ρ i).bind fun _ => (w ρ).bind fun x => (isI x.1).bind fun k => (ownAt x.2 i).bind fun cs => (ixN cs.length k).bind fun n => (datAt cs n).bind fun d => some (d, x.2)
theorem sw_ixO {i : Nat} {te : TE} {w : XW} (h : SW te w) : SW (tOp (rIx K) (tVar i) te) (wIxO i w) := fun pn F T H σ ρ d ρ' st e Q q => by
  obtain ⟨c0, h0, e⟩ := bind_some e
  obtain ⟨⟨dk, ρ1⟩, h1, e⟩ := bind_some e
  obtain ⟨kk, hk, e⟩ := bind_some e
  obtain ⟨cs, h2, e⟩ := bind_some e
  obtain ⟨n, hn, e⟩ := bind_some e
  obtain ⟨d1, hd, e⟩ := bind_some e
  cases e
  have ed : dk = _ := isI_eq hk
  subst ed
  obtain ⟨a, vs, B, ha, hv, _⟩ := st.at_own (ownAt_eq h0)
  refine ⟨.ref a, ha, h pn F T H σ ρ _ ρ1 st h1 _ fun v T1 H1 st1 s1 rv => ?_⟩
  obtain ⟨a', vs', B', ha', hv', hc', hT⟩ := st1.at_own (ownAt_eq h2)
  have ea : a' = a := by rw [ha'] at ha; cases ha; rfl
  subst ea
  cases rv
  obtain ⟨hc2, y, hy, ry⟩ := hc'.erase n (datAt_eq hd)
  exact .inl ⟨a', vs', kk, y, rfl, rfl, .inl (.inl hv'), (by unfold L2.atI; rw [hc'.length, hn]; exact hy), q y T1 H1 st1 s1 ry⟩
end Uv

namespace Uv
open PySem PySem.Spec PyProof.Rows L2
open Evl (Ex)
variable [kk : KK]
end Uv
namespace Uv
end Uv

namespace Uv
open PySem PySem.Spec PyProof.Rows L2
open Evl (Ex)
section
variable {prog : Program} {w : World} {A : Around}
end
variable [kk : KK]
section
variable {X : Cx} {ta te : TE} {a ke : Expr} {p pos kpos : Pos}
end
end Uv

namespace Uv
open PySem PySem.Spec PyProof.Rows L2
open Evl (Ex)
section
variable {prog : Program} {w : World} {A : Around} {K : Type} [DecidableEq K]
end
section
variable {X : Cx} {ta : TE} {a : Expr} {p p2 q pos : Pos}
end
variable [kk : KK]
end Uv

namespace Uv
open PySem PySem.Spec PyProof.Rows L2
open Evl (Ex)
section
variable {P : Program} {w : World} {A : Around}
end
variable [kk : KK]
end Uv

namespace Uv
open PySem PySem.Spec PyProof.Rows L2
open Evl (Ex)
section
variable {prog : Program} {w : World} {A : Around}
end
variable [kk : KK]
end Uv

namespace Uv
open PySem PySem.Spec PyProof.Rows L2
open Evl (Ex)
variable [kk : KK]
end Uv

namespace Uv
open PySem PySem.Spec PyProof.Rows L2
open Evl (Ex)
variable [kk : KK]
end Uv

namespace Uv
open PySem PySem.Spec PyProof.Rows L2
open Evl (Ex)
section
variable {X : Cx} {o e : Expr} {to te : TE}
end
variable [kk : KK]
section
variable {ta tb : TE} {a b : XE} {r : V → List V → Hp → VK → Prop}
end
end Uv

namespace Uv
open PySem PySem.Spec PyProof.Rows L2
open Evl (Ex)
variable [kk : KK]
section
variable {W : WX} {cl : Nat → Value} {fld : Str} {t u : TS} {x y : XS} {ct : TT} {c : XWT}
end
end Uv

namespace Uv
open PySem PySem.Spec PyProof.Rows L2
open Evl (Ex)
theorem kitx_exD {K : PySem.W.Frag} {D x : Addr} {ox : Obj} {od : Option Obj} (C : ExcC K D) : PySem.W.KitX K (.ref x) (.ref D) (fun h => PySem.W.InstAt h x ox D od) :=
  PySem.W.kitx_exc (by obtain ⟨cd, hc, _⟩ := PySem.W.any_some C.hd; rw [hc]; rfl) C.hg C.hk C.hs C.ha C.hn C.ht C.hm
end Uv

namespace Uv
open PySem PySem.Spec PyProof.Rows L2
open Evl (Ex)
variable [kk : KK]
section
variable {W : WX} {cl : Nat → Value} {fld : Str}
end
end Uv

namespace Uv
open PySem PySem.Spec PyProof.Rows L2
open Evl (Ex)
variable [kk : KK]
end Uv

namespace Uv
open PySem PySem.Spec PyProof.Rows L2
open Evl (Ex)
section
variable {X : Cx}
end
variable [kk : KK]
end Uv

namespace Uv
open PySem PySem.Spec PyProof.Rows L2
open Evl (Ex)
end Uv

namespace Uv
open PySem PySem.Spec PyProof.Rows L2
open Evl (Ex)
variable [kk : KK]
end Uv

namespace Uv
open PySem PySem.Spec PyProof.Rows L2
open Evl (Ex)
variable [kk : KK]
end Uv

namespace Uv
open PySem PySem.Spec PyProof.Rows L2
open Evl (Ex)
section
variable {X : Cx}
end
end Uv

namespace Uv
open PySem PySem.Spec PyProof.Rows L2
open Evl (Ex)
variable [kk : KK]
end Uv
namespace Uv
open PySem PySem.Spec PyProof.Rows L2
end Uv

namespace Uv
open PySem PySem.Spec PyProof.Rows L2
open Evl (Ex)
variable [kk : KK]
def SQ (S : Hs) (a : Addr) (qs : List Addr) : Hs := fun x => x = a ∨ x ∈ qs ∨ S x
structure Lts (S : Hs) (H0 : Hp) (a : Addr) (n : Nat) (kvs : List (Key × V)) (qs : List Addr) (sel : Int → List PD) (H : Hp) : Prop where
  dk : H a = some (.dK kvs)
  len : kvs.length ≤ n
  look : ∀ k : Int, (valV kvs (.inl k) = none ∧ sel k = []) ∨ ∃ q vs, valV kvs (.inl k) = some (.ref q) ∧ q ∈ qs ∧ H q = some (.lst vs) ∧ vs.length ≤ n ∧ RpAll (hid (SQ S a qs) H) vs (sel k)
  inj : ∀ (k k' : Int) q, valV kvs (.inl k) = some (.ref q) → valV kvs (.inl k') = some (.ref q) → k = k'
  na : a ∉ qs
  fa : H0 a = none
  fq : ∀ q ∈ qs, H0 q = none
  ex : Ex H0 H
  al : Al (SQ S a qs) H
end Uv

namespace Uv
open PySem PySem.Spec PyProof.Rows L2
open Evl (Ex)
variable [kk : KK]
end Uv

namespace Uv
open PySem PySem.Spec PyProof.Rows L2
open Evl (Ex)
variable [kk : KK]
end Uv

namespace Uv
open PySem PySem.Spec PyProof.Rows L2
open Evl (Ex)
section
variable {prog : Program} {w : World} {A : Around}
end
def rSetL (w : World) (K : PySem.W.Frag) : List V → Hp → VK → Prop := fun xs H Q => ∃ (l : Addr) (ns : List Int), xs = [.ref l] ∧ SqL K H l (ns.map V.int) ∧ ns.length ≤ 4000 ∧ ∀ a : Addr, H a = none → Q (.ref a) (upd H a (SetO w a (fun j => decide (j ∈ ns)) (setS ns).length))
variable [kk : KK]
end Uv

namespace Uv
open PySem PySem.Spec PyProof.Rows L2
open Evl (Ex)
variable [kk : KK]
end Uv

namespace Uv
open PySem PySem.Spec PyProof.Rows L2
open Evl (Ex)
section
variable {X : Cx}
end
variable [kk : KK]
end Uv

namespace Uv
open PySem PySem.Spec PyProof.Rows L2
open Evl (Ex)
section
variable {X : Cx} {pins : List (Addr × Obj)} {σ : L2.St} {H : Hp} {s : Shared} {a C : Addr} {f : Str} {y : V} {u : Value} {Q : Unit → Shared → Prop} {E : Value → Shared → Prop}
end
end Uv

namespace Uv
open PySem PySem.Spec PyProof.Rows L2
open Evl (Ex)
variable [kk : KK]
section
variable {W : WX} {cl : Nat → Value} {fld : Str}
end
end Uv

namespace Uv
open PySem PySem.Spec PyProof.Rows L2
open Evl (Ex)
variable [kk : KK]
def Agr (n : Nat) (σ σ' : L2.St) : Prop := ∀ i, i < n → σ'[i]? = σ[i]?
def Fr (n : Nat) (ts : TS) : Prop := ∀ (N N' : L2.St → Hp → Prop) (D : Ends) σ H, (∀ σ' H', Agr n σ σ' → (N σ' H' ↔ N' σ' H')) → (ts { D with nx := N } σ H ↔ ts { D with nx := N' } σ H)
section
variable {n : Nat} {t u : TS} {g : TG} {gs : TGs}
end
section
variable {n : Nat} {t u : TS} {x y : XS}
end
end Uv

namespace Uv
open PySem PySem.Spec PyProof.Rows L2
open Evl (Ex)
section
variable {prog : Program} {w : World} {A : Around} {E : Value → Shared → Prop} {s : Shared}
end
end Uv

namespace Uv
open PySem PySem.Spec PyProof.Rows L2
open Evl (Ex)
variable [kk : KK]
abbrev exzD (n : Nat) (ds : List PD) : PD := .dict [(.bool false, .int (n : Int)), (.bool false, .list ds)]
def isExz : PD → Option (Nat × List PD)
  | .dict [(.bool false, .int i), (.bool false, .list ds)] => some (i.toNat, ds)
  | _ => none
@[simp] theorem isExz_exzD (n : Nat) (ds : List PD) : isExz (exzD n ds) = some (n, ds) := rfl
theorem rp_noexz {H : Hp} {v : V} {d : PD} (r : Rp H v d) : isExz d = none := by
  cases r with
  | dct h l e ra =>
    rename_i ks xs ds ps
    subst e
    cases ks with
    | nil => rfl
    | cons k ks => cases ds <;> rfl
  | _ => rfl
structure ExcAt (H : Hp) (S : Hs) (n : Nat) (ds : List PD) (C : Addr) (od : Option Addr) : Prop where
  cl : kk.cl n = some C
  at_ : ∃ xs, DcAt (hid S H) od (exFld n) xs ∧ RpAll (hid S H) xs ds
theorem ExcAt.ex {H H' : Hp} {S : Hs} {n : Nat} {ds : List PD} {C : Addr} {od : Option Addr} (e : Ex H H') (x : ExcAt H S n ds C od) : ExcAt H' S n ds C od := ⟨x.cl, let ⟨xs, h1, h2⟩ := x.at_; ⟨xs, h1.ex (hid_ex e), h2.ex (hid_ex e)⟩⟩
theorem ExcAt.sub {H : Hp} {S S' : Hs} {n : Nat} {ds : List PD} {C : Addr} {od : Option Addr} (h : ∀ x, S' x → S x) (x : ExcAt H S n ds C od) : ExcAt H S' n ds C od := ⟨x.cl, let ⟨xs, h1, h2⟩ := x.at_; ⟨xs, h1.ex (hid_sub h), h2.ex (hid_sub h)⟩⟩
def OutZ (W : WX) (pn : Pn) (F : Hs) (T : Trs) (H : Hp) (D : Ends) (o : Out) : Prop :=
  (∀ n ds ρ d, o = .ret d ρ → isExz d = some (n, ds) → ∀ C od σ T' H', StOk pn F T' H' σ ρ → Stp F T H T' H' → ExcAt H' (SF F T') n ds C od → W (.ref C) od σ H') ∧ ((∀ d ρ, o = .ret d ρ → isExz d = none) → OutOk pn F T H D o)
def SSZ (W : WX) (ts : TS) (x : XS) : Prop := ∀ pn F T H σ ρ o D, StOk pn F T H σ ρ → x ρ = some o → OutZ W pn F T H D o → ts D σ H
section
variable {W : WX} {t u : TS} {x y : XS} {ct : TT} {c : XWT}
theorem ssz_of (h : SS t x) : SSZ W t x := fun pn F T H σ ρ o D st e q => h pn F T H σ ρ o D st e <| by
  by_cases z : ∀ d ρ, o = .ret d ρ → isExz d = none
  · exact q.2 z
  · cases o with
    | ret d ρ' =>
      intro v σ T' H' st s rv
      exact absurd (fun d2 ρ2 e2 => by cases e2; exact rp_noexz rv) z
    | _ => exact absurd (fun _ _ e => nomatch e) z
theorem OutZ.step {pn : Pn} {F : Hs} {T T1 : Trs} {H H1 : Hp} {D : Ends} (s : Stp F T H T1 H1) {o : Out} (h : OutZ W pn F T H D o) : OutZ W pn F T1 H1 D o :=
  ⟨fun n x ρ d e i C od σ T' H' st s' => h.1 n x ρ d e i C od σ T' H' st (s.trans s'), fun z => (h.2 z).step s⟩
theorem ssz_seq (hx : SSZ W t x) (hy : SSZ W u y) : SSZ W (tSeq t u) (sSeq x y) := fun pn F T H σ ρ o D st e q => by
  obtain ⟨o1, h1, e⟩ := bind_some e
  cases o1 with
  | nxt ρ1 => exact hx pn F T H σ ρ _ { D with nx := u D } st h1 ⟨fun _ _ _ _ z => (nomatch z), fun _ σ2 T2 H2 st2 s2 => hy pn F T2 H2 σ2 ρ1 o D st2 e (q.step s2)⟩
  | ret d ρ1 => cases e; exact hx pn F T H σ ρ _ { D with nx := u D } st h1 ⟨q.1, fun z => q.2 z⟩
  | retO d ρ1 => cases e; exact hx pn F T H σ ρ _ { D with nx := u D } st h1 ⟨q.1, fun z => q.2 z⟩
  | brk ρ1 => cases e; exact hx pn F T H σ ρ _ { D with nx := u D } st h1 ⟨q.1, fun z => q.2 z⟩
  | cnt ρ1 => cases e; exact hx pn F T H σ ρ _ { D with nx := u D } st h1 ⟨q.1, fun z => q.2 z⟩
theorem ssz_if (hc : SWT ct c) (hx : SSZ W t x) (hy : SSZ W u y) : SSZ W (tIfS ct t u) (sIf c x y) := fun pn F T H σ ρ o D st e q => by
  obtain ⟨⟨k, ρ1⟩, h1, e⟩ := bind_some e
  refine hc pn F T H σ ρ k ρ1 st h1 _ fun T1 H1 st1 s1 => ?_
  cases k with
  | true => exact hx pn F T1 H1 σ ρ1 o D st1 e (q.step s1)
  | false => exact hy pn F T1 H1 σ ρ1 o D st1 e (q.step s1)
def sRz (n : Nat) (as : XA) : XS := fun ρ => (as (mk ρ)).bind fun ds => some (.ret (exzD n ds) ρ)
theorem ssz_rz0 {n : Nat} {C : Addr} (hc : kk.cl n = some C) (hf : exFld n = []) : SSZ W (fun _ σ H => W (.ref C) none σ H) (sRz n xNil) := fun pn F T H σ ρ o D st e q => by
  cases e
  exact q.1 n [] ρ _ rfl rfl C none σ T H st Stp.refl ⟨hc, [], by rw [hf]; exact ⟨rfl, rfl⟩, .nil⟩
end
def spZ (f : List PD → Option PD) : Sp := fun vs H Q E => ∃ S ds d, Al S H ∧ RpAll (hid S H) vs ds ∧ f ds = some d ∧ (∀ n es, isExz d = some (n, es) → ∀ C od H2, Ex H H2 → ExcAt H2 S n es C od → E (.ref C) od H2) ∧ (isExz d = none → ∀ v H2, Ex H H2 → Rp (hid S H2) v d → Q v H2)
theorem len_Z {n k : Nat} {X : XS} {vs : List V} {H : Hp} {Q : VK} {E : XK} (h : spZ (runP n k X) vs H Q E) : vs.length = n := by
  obtain ⟨S, ds, d, _, ra, h, _⟩ := h
  unfold runP at h
  by_cases hn : ds.length = n
  · rw [ra.length]; exact hn
  · rw [if_neg hn] at h; cases h
theorem go_Z {t : TS} {X : XS} {N : List Str} {vs : List V} {H : Hp} {Q : VK} {E : XK} {n k : Nat} (hX : SSZ (fun cls d _ H => E cls d H) t X) (hN : N.length = n + k) (hs : spZ (runP n k X) vs H Q E) : t { nx := fun _ H' => Q .non H', rt := Q } (L2.start N vs) H := by
  obtain ⟨S, ds, d, al, ra, h, qx, q⟩ := hs
  unfold runP at h
  by_cases hn : ds.length = n
  · rw [if_pos hn] at h
    obtain ⟨o, h1, h⟩ := bind_some h
    have ex : ∀ {T' : Trs} {H' : Hp}, Stp S (fun _ => []) H T' H' → Ex H H' := fun {T' H'} s x o hx => by
      by_cases c : S x
      · rw [s.fr x c]; exact hx
      · exact hid_le _ _ (s.vis x o (by rw [hid_out (fun z => z.elim c fun ⟨_, z⟩ => nomatch z)]; exact hx))
    refine hX pn0 S _ H _ _ o _ (st0 al ra hn hN) h1 ⟨fun n x ρ d' e i C od σ T' H' st s ea => ?_, fun z => ?_⟩
    · subst e
      cases h
      exact qx n x i C od H' (ex s) (ea.sub fun x hx => .inl hx)
    · cases o with
      | ret d' ρ' => cases h; exact fun v σ T' H' st' s' rv => q (z _ _ rfl) v H' (ex s') (rv.ex (hid_sub fun x hx => .inl hx))
      | nxt ρ' => cases h; exact fun σ T' H' st' s' => q rfl .non H' (ex s') .non
      | retO _ _ => cases h
      | brk _ => cases h
      | cnt _ => cases h
  · rw [if_neg hn] at h; cases h
def SEZ (W : WX) (te : TE) (x : XE) : Prop := ∀ ρ d, x ρ = some d → ∀ S σ H, Al S H → En (hid S H) σ ρ → ∀ Q : VK, (∀ n es, isExz d = some (n, es) → ∀ C od H2, Ex H H2 → ExcAt H2 S n es C od → W (.ref C) od σ H2) → (isExz d = none → ∀ v H2, Ex H H2 → Rp (hid S H2) v d → Q v H2) → te σ H Q
abbrev XWZ := Env → Option (PD × Env)
def SWZ (W : WX) (te : TE) (x : XWZ) : Prop := ∀ pn F T H σ ρ d ρ', StOk pn F T H σ ρ → x ρ = some (d, ρ') → ∀ Q : VK, (∀ n es, isExz d = some (n, es) → ∀ C od T' H', StOk pn F T' H' σ ρ' → Stp F T H T' H' → ExcAt H' (SF F T') n es C od → W (.ref C) od σ H') → (isExz d = none → ∀ v T' H', StOk pn F T' H' σ ρ' → Stp F T H T' H' → Rp (hid (SF F T') H') v d → Q v H') → te σ H Q
section
variable {W : WX} {te : TE} {ts : TA} {x : XE} {as : XA} {f : List PD → Option PD}
theorem sez_call (hs : SA ts as) : SEZ W (tCallS (spZ f) (WE W) ts) (xCB f as) := fun ρ d h S σ H al en Q qx q => by
  obtain ⟨ds, h1, h2⟩ := bind_some h
  exact hs ρ ds h1 S σ H al en _ fun vs H1 e1 rv => ⟨S, ds, d, al.ex e1, rv, h2, fun n x i C od H2 e2 ea => qx n x i C od H2 (e1.trans e2) ea, fun i v H2 e2 r2 => q i v H2 (e1.trans e2) r2⟩
def wZM (x : XE) : XWZ := fun ρ => (x (mk ρ)).bind fun d => some (d, ρ)
theorem swz_M (h : SEZ W te x) : SWZ W te (wZM x) := fun pn F T H σ ρ d ρ' st e Q qx q => by
  obtain ⟨d1, h1, e⟩ := bind_some e
  cases e
  exact h _ _ h1 (SF F T) σ H st.als st.mkd Q (fun n es i C od H2 e2 ea => qx n es i C od T H2 (st.ex e2) (Stp.ex st.al e2) ea) fun i v H2 e2 rv => q i v T H2 (st.ex e2) (Stp.ex st.al e2) rv
end
section
variable {W : WX} {te : TE} {x : XWZ}
def sRetZ (x : XWZ) : XS := fun ρ => (x ρ).bind fun y => some (.ret y.1 y.2)
theorem ssz_ret (hx : SWZ W te x) : SSZ W (tRet te) (sRetZ x) := fun pn F T H σ ρ o D st e q => by
  obtain ⟨⟨d, ρ1⟩, h1, e⟩ := bind_some e
  cases e
  refine hx pn F T H σ ρ d ρ1 st h1 _ (fun n es i C od T' H' st' s' ea => q.1 n es ρ1 d rfl i C od σ T' H' st' s' ea) fun i v T' H' st' s' rv => ?_
  exact q.2 (fun d2 ρ2 e2 => by cases e2; exact i) v σ T' H' st' s' rv
def sAsgZ (i : Nat) (x : XWZ) : XS := fun ρ => (x ρ).bind fun y => match isExz y.1 with
  | none => some (.nxt (y.2.set i (.dat y.1)))
  | some _ => some (.ret y.1 y.2)
theorem ssz_asg {i : Nat} (hi : i ≠ 0) (hx : SWZ W te x) : SSZ W (tAsg te (gName i)) (sAsgZ i x) := fun pn F T H σ ρ o D st e q => by
  obtain ⟨⟨d, ρ1⟩, h1, e⟩ := bind_some e
  cases k : isExz d with
  | none =>
    have e : (match isExz d with | none => some (Out.nxt (ρ1.set i (.dat d))) | some _ => some (Out.ret d ρ1)) = some o := e
    rw [k] at e
    cases e
    refine hx pn F T H σ ρ d ρ1 st h1 _ (fun n es i2 => by rw [k] at i2; cases i2) fun _ v T' H' st' s' rv => ?_
    obtain ⟨st2, s2⟩ := st'.set hi rv
    exact q.2 (fun _ _ z => nomatch z) _ _ _ st2 (s'.trans s2)
  | some p =>
    have e : (match isExz d with | none => some (Out.nxt (ρ1.set i (.dat d))) | some _ => some (Out.ret d ρ1)) = some o := e
    rw [k] at e
    cases e
    exact hx pn F T H σ ρ d ρ1 st h1 _ (fun n es i2 C od T' H' st' s' ea => q.1 n es ρ1 d rfl i2 C od σ T' H' st' s' ea) fun i2 => by rw [k] at i2; cases i2
end
end Uv

namespace Uv
open PySem PySem.Spec PyProof.Rows L2
open Evl (Ex)
section
variable {P : Program} {w : World} {K : PySem.W.Frag} {mg : Str → Option Value} {base : Heap}
structure MthX (P : Program) (w : World) (K : PySem.W.Frag) (mg : Str → Option Value) (base : Heap) (k : Nat) (C : Addr) (m : Str) (sp : Sp) : Prop where
  ex : ∃ (f : Addr) (fd : FuncData) (ps : List Str), FnX P w K mg base k f fd ps sp ∧ Meth K C m f ∧ Binds K fd ps []
end
section
variable {X : Cx} {j k : Nat} {C : Addr} {m : Str} {sp : Sp} {W : WX} {o e : Expr} {es : List Expr} {ta : TE} {t : TA} {apos pos : Pos}
end
end Uv

namespace Uv
open PySem PySem.Spec PyProof.Rows L2
open Evl (Ex)
variable [kk : KK]
section
variable {m : Str} {te : TE} {ts : TA} {x : XE} {as : XA} {f : List PD → Option PD} {W : WX}
end
end Uv

namespace Uv
open PySem PySem.Spec PyProof.Rows L2
open Evl (Ex)
section
variable {X : Cx} {pins : List (Addr × Obj)} {σ : L2.St} {H : Hp} {s sI : Shared} {a : Addr} {B : Heap} {cls : Value} {d : Option Addr}
structure AirX (X : Cx) (pins : List (Addr × Obj)) (σ : L2.St) (H : Hp) (a : Addr) (B : Heap) (sI : Shared) (cls : Value) (d : Option Addr) (s : Shared) : Prop where
  inv : Inv X pins σ H sI
  nb : ∀ b o, sI.heap.get? b = some o → b ∉ frs X.stack → B.get? b = some o
  up : sI.heap.UpToSlots s.heap
  fl : HandSPX.FlyingZ B X.stack a (Zc cls d) s.heap
  na : H a = none
  os : s.os = sI.os
  ag : AllBare s.gens
theorem inv_suite (I : Inv X pins σ H s) : Inv (X.suite a (X.pn ++ pins)) [] σ H s :=
  ⟨I.ok.suite _ _, I.os, I.bare, I.base, I.loc, I.cell, I.free, I.freeC, fun p hp => I.pin p (by rw [List.append_nil] at hp; exact hp), I.hok, I.len⟩
end
def TXm (X : Cx) (e : Expr) (cm : Value → Option Bool) : Prop := ∀ (a : Addr) (pn pins : List (Addr × Obj)) (σ : L2.St) (H : Hp) (s : Shared) (cls : Value) (b : Bool) (Q : Bool → Shared → Prop) (E : Value → Shared → Prop), Inv (X.suite a pn) pins σ H s → PySem.W.Looks (model X.prog X.w) s.heap (typeOf (.ref a)) cls → cm cls = some b →
  (∀ h', (∀ q o, s.heap.get? q = some o → h'.get? q = some o) → Q b { s with heap := h' }) → wpAny (model X.prog X.w) (X.A.mark (some (.ref a))) (eval e X.env) (fun c s1 => wpAny (model X.prog X.w) (X.A.mark (some (.ref a))) (excMatches (.ref a) c) Q E s1) E s
section
variable {X : Cx}
theorem nm_ld {x : Str} {c : Value} {a : Addr} {pn pins : List (Addr × Obj)} {σ : L2.St} {H : Hp} {s : Shared} {np : Pos} {Q E : Value → Shared → Prop} (hc : Names X x c) (I : Inv (X.suite a pn) pins σ H s) (q : Q c s) : wpAny (model X.prog X.w) (X.A.mark (some (.ref a))) (eval (.Name x np) X.env) Q E s := by
  obtain ⟨hg, hdbg, hm | ⟨hm, hv, hnn⟩⟩ := hc
  · exact ld_glob (X := X.suite a pn) I hg hm q hdbg
  · exact ld_blt (X := X.suite a pn) I hg hm hv q hnn hdbg
theorem txm_name {x : Str} {c : Value} {np : Pos} (hc : Names X x c) : TXm X (.Name x np) (fun cls => PySem.W.exmOne X.K cls c) := fun a pn pins σ H s cls b Q E I LT e q =>
  nm_ld hc I ((PySem.W.exm_one I.kIn LT e).here (q s.heap fun _ _ z => z))
end
abbrev WH := Ends → Addr → Value → Option Addr → L2.St → Hp → Prop
def Ends.no (D : Ends) (i : Nat) : Ends := { nx := fun σ H => D.nx (σ.set i none) H, rt := D.rt, bk := fun σ H => D.bk (σ.set i none) H, ct := fun σ H => D.ct (σ.set i none) H }
section
variable {X : Cx} {e : Expr} {cm : Value → Option Bool} {n : Str} {i : Nat} {b₀ : Stmt} {suite body : List Stmt} {hds : List ExceptHandler} {h₀ : ExceptHandler} {ts : TS} {tr tw : WH} {W : WX} {tb : WX → TS} {pos pos' : Pos}
end
end Uv

namespace Uv
open PySem PySem.Spec PyProof.Rows L2
open Evl (Ex)
variable [kk : KK]
def noXz : Out → Option Out
  | .ret d ρ => match isExz d with
    | none => some (.ret d ρ)
    | some _ => none
  | o => some o
def sNoZ (x : XS) : XS := fun ρ => (x ρ).bind noXz
theorem ss_noZ {t : TS} {x : XS} (h : SSZ (fun _ _ _ _ => False) t x) : SS t (sNoZ x) := fun pn F T H σ ρ o D st e q => by
  obtain ⟨o1, h1, e⟩ := bind_some e
  refine h pn F T H σ ρ o1 D st h1 ⟨fun n es ρ1 d e1 i => ?_, fun z => ?_⟩
  · subst e1
    have e : (match isExz d with | none => some (Out.ret d ρ1) | some _ => none) = some o := e
    rw [i] at e
    cases e
  · cases o1 with
    | ret d ρ1 =>
      have i := z d ρ1 rfl
      have e : (match isExz d with | none => some (Out.ret d ρ1) | some _ => none) = some o := e
      rw [i] at e
      cases e
      exact q
    | _ => cases e; exact q
end Uv

namespace Uv
open PySem PySem.Spec PyProof.Rows L2
open Evl (Ex)
variable [kk : KK]
end Uv

namespace Uv
open PySem PySem.Spec PyProof.Rows L2
open Evl (Ex)
variable [kk : KK]
section
variable {W : WX} {js : List Nat} {g : List Sl → List PD → Option (PD × List Sl)} {ts : TA} {as : XWA} {te : TE}
end
end Uv

namespace Uv
open PySem PySem.Spec PyProof.Rows L2
open Evl (Ex)
section
variable {X : Cx} {j k : Nat} {C : Addr} {x : Str} {sp : Sp} {W : WX} {e : Expr} {es : List Expr} {t : TA} {p pos : Pos}
end
variable [kk : KK]
end Uv

namespace Uv
open PySem PySem.Spec PyProof.Rows L2
open Evl (Ex)
variable [kk : KK]
end Uv

namespace Uv
open PySem PySem.Spec PyProof.Rows L2
open Evl (Ex)
variable [kk : KK]
section
variable {W : WX} {i : Nat} {acts : Nat → List PD → Option PD} {ts : TA} {as : XA} {ta tz : TE} {x z : XE}
end
end Uv

namespace Uv
open PySem PySem.Spec PyProof.Rows L2
open Evl (Ex)
section
variable {P : Program} {w : World} {K : PySem.W.Frag} {mg : Str → Option Value} {base : Heap}
structure CalKX (P : Program) (w : World) (K : PySem.W.Frag) (mg : Str → Option Value) (base : Heap) (k : Nat) (x kw : Str) (sp : Sp) : Prop where
  ex : ∃ (f : Addr) (fd : FuncData) (ps : List Str), FnX P w K mg base k f fd ps sp ∧ mg x = some (.ref f) ∧ PySem.W.keepIn K (.ref f) = true ∧ KwB K fd ps kw
end
variable [kk : KK]
section
variable {X : Cx} {j k : Nat} {x kw : Str} {sp : Sp} {p pos kpos : Pos} {e ke : Expr} {es : List Expr} {t : TA} {te : TE} {W : WX}
end
end Uv

namespace Uv
open PySem PySem.Spec PyProof.Rows L2
open Evl (Ex)
def AllL (P : Nat → Addr → Prop) : List (Nat × Addr) → Prop
  | [] => True
  | p :: r => P p.1 p.2 ∧ AllL P r
theorem AllL.at {P : Nat → Addr → Prop} : ∀ {l : List (Nat × Addr)}, AllL P l → ∀ n C, l.lookup n = some C → P n C
  | [], _, _, _, h => nomatch h
  | (k, a) :: r, h, n, C, e => by
    rw [List.lookup] at e
    split at e
    · rename_i z
      cases e
      rw [show n = k from by simpa using z]
      exact h.1
    · exact h.2.at n C e
theorem walk_vK {l : PySem.W.OpenLaw} {n k : Nat} {q : Program} {loose : List Str} {XP : (Str → Option Value) → Heap → Prop} {YP : World → Heap → Prop} {d : DefRec} {K : Params → PySem.W.Frag} {f : List PD → Option PD} {x : Str}
    (hn : l.most = some n) (hn2 : n ≤ sizeLine) (hdf : d.params.defaults = []) (hr : Room k callerA) (hY : ∀ (w : World) (h : Heap), YP w h → (K w.params).In h)
    (F : ∀ (w : World) (mg : Str → Option Value) (fa : Addr) (h : Heap), (K w.params).In h → h.Ns mainGlobals mg → mg d.name = some (.ref fa) →
      ∃ (kk : KK) (fd : FuncData), kk.fr = K w.params ∧ (∀ (s : Shared) (u : Value), BindsTo s fd ⟨[u], []⟩ [(x, u)]) ∧ ∀ base : Heap, (K w.params).In base → base.Ns mainGlobals mg → FnG l.prog w (K w.params) mg base k fa fd [x] (@spF kk f))
    (hf : ∀ ns : List Int, ns.length ≤ n → f [scrD (ns.map PyData.int)] = some (.bool true)) :
    PySem.W.WalkO q loose XP YP l.row.toRowW d [] (fun f vs => PySem.call f vs) := by
  refine Att.attach_call hn hdf fun w s₀ s₁ mg mb fa o pm cd doc a vs ns G Y ho hd hcd hmg hobj hints hlen hg => ?_
  obtain ⟨kk, fd, hkk, hb, hF⟩ := F w mg fa _ (hY w _ Y) G.T.g hmg
  refine top_call (hY w _ Y) G.T.g G.T.b G.T.builtins G.T.nolimit hg hobj hints (Nat.le_trans hlen hn2) hr hF hb fun H hS => ?_
  have eh : hid (fun _ => False) H = H := funext fun x => hid_out fun z => z
  refine ⟨fun _ => False, [scrD (ns.map PyData.int)], .bool true, fun x z => z.elim, .cons (.scr (xs := ns.map V.int) (by rw [eh]; show SqL kk.fr H a _; rw [hkk]; exact hS) (RpAll.ofInts ns)) .nil, hf ns hlen, fun v H2 _ rv => ?_⟩
  cases rv
  rfl
variable [kk : KK]
end Uv
namespace Uv
open PySem PySem.Spec PyProof.Rows L2
end Uv
namespace Uv
open L2
end Uv

namespace Uv
open PySem PySem.Spec PyProof.Rows L2
open Evl (Ex)
theorem itb {f q : Option Bool} {v : Bool} (hf : f = some v) (h : q = some v) : ∀ b, f = some b → q = some b := fun b e => by rw [hf] at e; cases e; exact h
theorem kit_yes {K : PySem.W.Frag} {c C : Addr} (hd : PySem.W.hasDictIn K C = true) (ht : PySem.W.typeIn K (.ref C) = some (.type "type")) (h : PySem.W.subIn K (.ref c) (.ref C) = some true) : PySem.W.kitOne K (.ref c) (.ref C) = some true := kit_ref hd ht h fun _ => rfl
theorem kit_no {K : PySem.W.Frag} {c C : Addr} (hd : PySem.W.hasDictIn K C = true) (ht : PySem.W.typeIn K (.ref C) = some (.type "type")) (h : PySem.W.subIn K (.ref c) (.ref C) = some false) (hs : PySem.W.subIn K (.ref c) (.ref c) = some true) : PySem.W.kitOne K (.ref c) (.ref C) = some false :=
  kit_ref hd ht h fun z => by cases z; rw [hs] at h; cases h
def AllN (P : Nat → Prop) : List Nat → Prop
  | [] => True
  | n :: r => P n ∧ AllN P r
theorem AllN.at {P : Nat → Prop} : ∀ {l : List Nat}, AllN P l → ∀ n, n ∈ l → P n
  | [], _, n, h => nomatch h
  | m :: r, h, n, hn => (List.mem_cons.mp hn).elim (fun e => e ▸ h.1) fun z => h.2.at n z
section
variable {P : Program} {w : World} {K : PySem.W.Frag} {mg : Str → Option Value} {base : Heap} {k : Nat} {x y : Str} {sp : Sp} {f : Addr}
end
section
variable {X : Cx}
end
variable [kk : KK]
end Uv

namespace Uv
open PySem PySem.Spec PyProof.Rows L2
open Evl (Ex)
section
variable {P : Program} {w : World} {K : PySem.W.Frag} {mg : Str → Option Value} {base : Heap}
theorem roomT {k : Nat} {A : Around} {v : Option Value} (r : Room k A) : L2H.RoomH k (A.mark v) := ⟨r.dp, r.un⟩
theorem u65T {k : Nat} {A : Around} (r : L2H.RoomH k A) : A.units + 65 < cLine := by have := r.un; omega
theorem u64T {k : Nat} {A : Around} (r : L2H.RoomH k A) : A.units + 64 < cLine := by have := r.un; omega
end
end Uv

namespace Uv
open PySem PySem.Spec PyProof.Rows L2
open Evl (Ex)
section
variable {X : Cx} {x : Str} {C : Addr} {fld f1 f2 : Str} {e e' : Expr} {te te' : TE} {p pos : Pos} {j : Nat}
end
variable [kk : KK]
section
variable {n : Nat} {C : Addr} {fld f1 f2 : Str} {te te' : TE} {x y : XE}
end
end Uv

namespace Uv
open PySem PySem.Spec PyProof.Rows L2
open Evl (Ex)
section
variable {P : Program} {w : World} {K : PySem.W.Frag} {mg : Str → Option Value} {base : Heap}
structure FnXN (P : Program) (w : World) (K : PySem.W.Frag) (mg : Str → Option Value) (base : Heap) (k : Nat) (f : Addr) (fd : FuncData) (ps : List Str) (sp : Sp) : Prop where
  len : ∀ vs H Q E, sp vs H Q E → vs.length = ps.length
  run : ∀ (A : Around) (outer : List PySem.Env) (s : Shared) (H : Hp) (args : Args) (us : List Value) (vs : List V) (Q : VK) (E : XK), A.guards = some [] → Room k A → Env0 P w K mg base A outer s H → BindsTo s fd args (ps.zip us) → Vals vs us → sp vs H Q E →
    codeAny (model P w) A (.call (.ref f) args) (CR (L2N.CX P w) outer P w H s Q E) s
structure CalXN (P : Program) (w : World) (K : PySem.W.Frag) (mg : Str → Option Value) (base : Heap) (k : Nat) (x : Str) (sp : Sp) : Prop where
  ex : ∃ (f : Addr) (fd : FuncData) (ps : List Str), FnXN P w K mg base k f fd ps sp ∧ mg x = some (.ref f) ∧ PySem.W.keepIn K (.ref f) = true ∧ Binds K fd ps []
theorem pe_gxN {X : Cx} {j k : Nat} {x : Str} {sp : Sp} {p pos : Pos} {e : Expr} {es : List Expr} {t : TA} {W : WX} (c : CalXN X.prog X.w X.K X.mg X.base k x sp) (hr : Room j X.A) (hk : k ≤ j) (hG : X.A.guards = some []) (hg : Gl X x) (tk : L2N.Takes X W) (ha : PA X (e :: es) t)
    (hdb : (x == ("__debug__" : Str)) = false := by decide) (he : starEach (e :: es) X.env = (false, eval e X.env) :: starEach es X.env := by rfl) (hpl : (backTo pos (starEach es X.env)).any (·.1) = false := by rfl) :
    PE X (.Call (.Name x p) (e :: es) [] pos) (tCallS sp (WE W) t) := by
  obtain ⟨f, fd, ps, F, hm, kp, b⟩ := c.ex
  refine ⟨fun pins s σ H Q I h => wpAny_Call_Name_kw (ld_glob I hg hm ?_ hdb)⟩
  refine PySem.W.callWith_K (h₀ := X.base) I.ok.mod.kin kp (thn (ha.run pos pins s σ H _ I h) fun us s1 hh => ?_) he hpl
  obtain ⟨vs, H1, I1, r, q⟩ := hh
  have hl : us.length = ps.length := by rw [← r.length]; exact F.len _ _ _ _ q
  have bd := b s1 us I1.kIn (by rw [List.append_nil]; exact hl)
  rw [List.append_nil] at bd
  refine ⟨I1.kIn, wpAny_call (codeAny_mono (F.run X.A X.stack s1 H1 ⟨us, []⟩ us vs Q (WE W σ) hG (hr.mono hk) I1.env0 bd r q) fun rr s' hq => ?_)⟩
  match rr, hq with
  | .error e, hq => exact L2N.passAt tk σ pins H1 s1 e s' I1 hq
  | .ok (.ret u), hq => exact I1.after hq
  | .ok .next, hq => exact hq.elim
  | .ok .brk, hq => exact hq.elim
  | .ok .cont, hq => exact hq.elim
theorem fn_xN {x : Str} {st : Stmt} {f : Addr} {fd : FuncData} {N ps : List Str} {k : Nat} {sp : Sp} (F : Fun K x x st f fd) (S : FnScope N ps (defScope st)) (len : ∀ vs H Q E, sp vs H Q E → vs.length = ps.length)
    (hb : ∀ (cdv : Value) (A : Around) (outer : List PySem.Env) (s : Shared) (H : Hp) (E : XK), (A.deeper (envOfC x (defScope st) s.heap.objs.size f cdv)).guards = some [] → Room k (A.deeper (envOfC x (defScope st) s.heap.objs.size f cdv)) →
      ∃ t, PSs (cxOf (L2N.CX P w) P w K mg base N x (defScope st) f cdv A outer s H E) (defBody st) t ∧ ∀ vs Q, sp vs H Q E → t { nx := fun _ H' => Q .non H', rt := Q } (L2.start N vs) H) : FnXN P w K mg base (k + 1) f fd ps sp := by
  obtain ⟨oc, od, kV, doc, pm, an, cdv, ct, osl, rfl, lk, hcd⟩ := F.ex
  refine ⟨len, fun A outer s H args us vs Q E hG hr e0 hbd r hsp => ?_⟩
  obtain ⟨t, ht, hq⟩ := hb cdv A outer s H E hG (hr.deeper _)
  have keep : ∀ b o, base.get? b = some o → s.heap.get? b = some o := fun b o e => (e0.bs b o e).1
  have KX : K.In s.heap := e0.mod.kin.keeps keep
  have lim : s.heap.NoLimit := e0.mod.nolimit.keeps keep
  refine codeAny_call_function hr.depth (KX _ _ lk) rfl S.co S.gen rfl (PySem.W.codeRec_of KX hcd) (hbd _ _ _ _ ?_)
  refine wpAny_newFunctionEnv_cells S.kind (fun y hy => ?_) fun env he s1 ic => ?_
  · rcases S.par y.1 (List.of_mem_zip hy).1 with q | q
    · exact .inl q
    · exact .inr ⟨q, PySem.W.cellsFrom_some _ _ _ (.inl q)⟩
  · subst he
    have I : Inv (cxOf (L2N.CX P w) P w K mg base N x (defScope st) f cdv A outer s H E) [] (L2.start N vs) H s1 := inv_start S hr.hd e0 (len _ _ _ _ hsp) r ic
    refine ⟨lim.keeps ic.toInCall.keep, codeAny_func (wpAny_mono (ht.run [] s1 (L2.start N vs) H _ I (hq vs Q hsp)) (fun fl s' hs => ?_) fun e s' hs => hs)⟩
    match fl, hs with
    | .ret u, ⟨v, σ', H', J, rv, q⟩ => exact ⟨v, H', J.os, J.bare, J.base, J.hok, rv, q⟩
    | .next, ⟨σ', H', J, q⟩ => exact ⟨.non, H', J.os, J.bare, J.base, J.hok, rfl, q⟩
    | .brk, ⟨_, _, _, q⟩ => exact q.elim
    | .cont, ⟨_, _, _, q⟩ => exact q.elim
theorem cal_xN {x : Str} {st : Stmt} {N ps : List Str} {k : Nat} {sp : Sp} (F : Dfn K mg x st ps) (S : FnScope N ps (defScope st)) (len : ∀ vs H Q E, sp vs H Q E → vs.length = ps.length)
    (hb : ∀ (f : Addr) (cdv : Value) (A : Around) (outer : List PySem.Env) (s : Shared) (H : Hp) (E : XK), (A.deeper (envOfC x (defScope st) s.heap.objs.size f cdv)).guards = some [] → Room k (A.deeper (envOfC x (defScope st) s.heap.objs.size f cdv)) →
      ∃ t, PSs (cxOf (L2N.CX P w) P w K mg base N x (defScope st) f cdv A outer s H E) (defBody st) t ∧ ∀ vs Q, sp vs H Q E → t { nx := fun _ H' => Q .non H', rt := Q } (L2.start N vs) H) : CalXN P w K mg base (k + 1) x sp := by
  obtain ⟨f, fd, F, hm, b⟩ := F.ex
  exact ⟨f, fd, ps, fn_xN F S len (hb f), hm, F.kp, b⟩
end
theorem pmk_own0N {X : Cx} {C : Addr} {bmB : List Value} {B newId initId : String} {x : Str} {p pos : Pos} (F : ExcBaseFacts B newId initId bmB) (q : PySem.W.excIn X.K C bmB newId = true) (gC : X.mg x = some (.ref C))
    (kC : PySem.W.keepIn X.K (.ref C) = true) (r : Raises X (.ref C)) (hg : Gl X x) (hdb : (x == ("__debug__" : Str)) = false := by decide) :
    L2N.PMk X (.Call (.Name x p) [] [] pos) (fun _ H Q => Q (.ref C) none H) := by
  intro pins s σ H Q I h
  refine wpAny_Call_Name_kw (ld_glob I hg gC ?_ hdb)
  refine PySem.W.callWith_K0 I.kIn kC ?_
  obtain ⟨bm, N, nm, qn, bs, hdct, sn, sub, ab, col, dd, k0, k1, k2, k3, k5, mN, hC, hN, hni, T⟩ := exc_obj I.kIn q
  refine wpAny_call_exc_subT F T hC hN hni (fun h' e hm => ?_) (by show 0 ≤ _; exact Nat.zero_le _)
  exact L2N.mk_of I hm r h (I.hok.gone hm.new)
section
variable {P : Program} {w : World} {K : PySem.W.Frag} {mg : Str → Option Value} {base : Heap}
structure MthXN (P : Program) (w : World) (K : PySem.W.Frag) (mg : Str → Option Value) (base : Heap) (k : Nat) (C : Addr) (m : Str) (sp : Sp) : Prop where
  ex : ∃ (f : Addr) (fd : FuncData) (ps : List Str), FnXN P w K mg base k f fd ps sp ∧ Meth K C m f ∧ Binds K fd ps []
structure CalKXN (P : Program) (w : World) (K : PySem.W.Frag) (mg : Str → Option Value) (base : Heap) (k : Nat) (x kw : Str) (sp : Sp) : Prop where
  ex : ∃ (f : Addr) (fd : FuncData) (ps : List Str), FnXN P w K mg base k f fd ps sp ∧ mg x = some (.ref f) ∧ PySem.W.keepIn K (.ref f) = true ∧ KwB K fd ps kw
theorem cal_kxN {x kw : Str} {st : Stmt} {N ps : List Str} {k : Nat} {sp : Sp} (F : DfnK K mg x st ps kw) (S : FnScope N ps (defScope st)) (len : ∀ vs H Q E, sp vs H Q E → vs.length = ps.length)
    (hb : ∀ (f : Addr) (cdv : Value) (A : Around) (outer : List PySem.Env) (s : Shared) (H : Hp) (E : XK), (A.deeper (envOfC x (defScope st) s.heap.objs.size f cdv)).guards = some [] → Room k (A.deeper (envOfC x (defScope st) s.heap.objs.size f cdv)) →
      ∃ t, PSs (cxOf (L2N.CX P w) P w K mg base N x (defScope st) f cdv A outer s H E) (defBody st) t ∧ ∀ vs Q, sp vs H Q E → t { nx := fun _ H' => Q .non H', rt := Q } (L2.start N vs) H) : CalKXN P w K mg base (k + 1) x kw sp := by
  obtain ⟨f, fd, F, hm, b⟩ := F.ex
  exact ⟨f, fd, ps, fn_xN F S len (hb f), hm, F.kp, b⟩
end
section
variable {X : Cx} {j k : Nat} {C : Addr} {m : Str} {sp : Sp} {W : WX} {o e : Expr} {es : List Expr} {ta : TE} {t : TA} {apos pos : Pos}
end
section
variable {X : Cx} {j k : Nat} {x kw : Str} {sp : Sp} {p pos kpos : Pos} {e ke : Expr} {es : List Expr} {t : TA} {te : TE} {W : WX}
theorem pe_gDxN (c : CalKXN X.prog X.w X.K X.mg X.base k x kw sp) (hr : Room j X.A) (hk : k ≤ j) (hG : X.A.guards = some []) (hg : Gl X x) (tk : L2N.Takes X W) (ha : PA X (e :: es) t)
    (hdb : (x == ("__debug__" : Str)) = false := by decide) (he : starEach (e :: es) X.env = (false, eval e X.env) :: starEach es X.env := by rfl) (hpl : (backTo pos (starEach es X.env)).any (·.1) = false := by rfl) :
    PE X (.Call (.Name x p) (e :: es) [] pos) (tCallS sp (WE W) (tApp1 t (tC (.bl true)))) := by
  obtain ⟨f, fd, ps, F, hm, kp, b⟩ := c.ex
  refine ⟨fun pins s σ H Q I h => wpAny_Call_Name_kw (ld_glob I hg hm ?_ hdb)⟩
  refine PySem.W.callWith_K (h₀ := X.base) I.ok.mod.kin kp (thn (ha.run pos pins s σ H _ I h) fun us s1 hh => ?_) he hpl
  obtain ⟨vs, H1, I1, r, q⟩ := hh
  have q : sp (vs ++ [.bl true]) H1 Q (WE W σ) := q
  have r2 : Vals (vs ++ [V.bl true]) (us ++ [Value.bool true]) := r.append (.cons rfl .nil)
  have hl : (us ++ [Value.bool true]).length = ps.length := by rw [← r2.length]; exact F.len _ _ _ _ q
  have bd := b.dfl s1 us I1.kIn hl
  refine ⟨I1.kIn, wpAny_call (codeAny_mono (F.run X.A X.stack s1 H1 ⟨us, []⟩ (us ++ [.bool true]) (vs ++ [.bl true]) Q (WE W σ) hG (hr.mono hk) I1.env0 bd r2 q) fun rr s' hq => ?_)⟩
  match rr, hq with
  | .error e, hq => exact L2N.passAt tk σ pins H1 s1 e s' I1 hq
  | .ok (.ret u), hq => exact I1.after hq
  | .ok .next, hq => exact hq.elim
  | .ok .brk, hq => exact hq.elim
  | .ok .cont, hq => exact hq.elim
theorem pe_gKxN (c : CalKXN X.prog X.w X.K X.mg X.base k x kw sp) (hr : Room j X.A) (hk : k ≤ j) (hG : X.A.guards = some []) (hg : Gl X x) (tk : L2N.Takes X W) (ha : PA X (e :: es) t) (hw : PE X ke te)
    (hdb : (x == ("__debug__" : Str)) = false := by decide) (he : starEach (e :: es) X.env = (false, eval e X.env) :: starEach es X.env := by rfl)
    (hall : (backToKw pos (keywordEach [⟨some kw, ke, kpos⟩] X.env)).all (·.1.isSome) = true := by rfl) (hks : (backToKw pos (keywordEach [⟨some kw, ke, kpos⟩] X.env)).filterMap (·.1) = [kw] := by rfl)
    (hpl : ((backTo pos (starEach (e :: es) X.env)).any (·.1) || (backToKw pos (keywordEach [⟨some kw, ke, kpos⟩] X.env)).any (·.1.isNone)) = false := by rfl) :
    PE X (.Call (.Name x p) (e :: es) [⟨some kw, ke, kpos⟩] pos) (tCallS sp (WE W) (tApp1 t te)) := by
  obtain ⟨f, fd, ps, F, hm, kp, b⟩ := c.ex
  refine ⟨fun pins s σ H Q I h => wpAny_Call_Name_kw (ld_glob I hg hm ?_ hdb)⟩
  have hkw : PK X [⟨some kw, ke, kpos⟩] (tCons te tNil) := pk_cons hw pk_nil
  refine PySem.W.callWith_KW (h₀ := X.base) I.ok.mod.kin kp hall (thn (ha.run pos pins s σ H _ I h) fun us s1 ⟨vs, H1, I1, r, q⟩ => ?_) hpl he
  refine thn (hkw.run pos pins s1 σ H1 (fun zs H2 => ∃ z, zs = [z] ∧ sp (vs ++ [z]) H2 Q (WE W σ)) I1 ?_) fun ws s2 ⟨zs, H2, I2, rz, z, ez, q2⟩ => ⟨I2.kIn, ?_⟩
  · show te σ H1 fun z H2 => ∃ z', [z] = [z'] ∧ _
    have q : te σ H1 fun z H2 => sp (vs ++ [z]) H2 Q (WE W σ) := q
    have ee : (fun z H2 => ∃ z', [z] = [z'] ∧ sp (vs ++ [z']) H2 Q (WE W σ)) = fun z H2 => sp (vs ++ [z]) H2 Q (WE W σ) := by
      funext z H2
      exact propext ⟨fun ⟨z', e, h⟩ => by cases e; exact h, fun h => ⟨z, rfl, h⟩⟩
    rw [ee]
    exact q
  · subst ez
    obtain ⟨w, rfl⟩ : ∃ w, ws = [w] := by
      cases rz with
      | cons _ rr => cases rr; exact ⟨_, rfl⟩
    rw [hks]
    have r2 : Vals (vs ++ [z]) (us ++ [w]) := r.append rz
    have hl : (us ++ [w]).length = ps.length := by rw [← r2.length]; exact F.len _ _ _ _ q2
    have bd := b.one s2 us w I2.kIn hl
    refine wpAny_call (codeAny_mono (F.run X.A X.stack s2 H2 ⟨us, [(kw, w)]⟩ (us ++ [w]) (vs ++ [z]) Q (WE W σ) hG (hr.mono hk) I2.env0 bd r2 q2) fun rr s' hq => ?_)
    match rr, hq with
    | .error e, hq => exact L2N.passAt tk σ pins H2 s2 e s' I2 hq
    | .ok (.ret u), hq => exact I2.after hq
    | .ok .next, hq => exact hq.elim
    | .ok .brk, hq => exact hq.elim
    | .ok .cont, hq => exact hq.elim
end
section
variable {P : Program} {w : World} {K : PySem.W.Frag} {mg : Str → Option Value} {base : Heap}
end
variable [kk : KK]
end Uv

namespace Uv
open PySem PySem.Spec PyProof.Rows L2
open Evl (Ex)
section
variable {h : Heap} {a b x1 : Addr} {oe : Obj} {vs : Array Value}
end
section
variable {prog : Program} {w : World} {A : Around} {E : Value → Shared → Prop} {env : PySem.Env} {s : Shared}
end
section
variable {P : Program} {w : World} {K : PySem.W.Frag} {mg : Str → Option Value} {base : Heap}
end
section
variable {X : Cx} {x : Str} {C : Addr} {fld : Str} {e : Expr} {te : TE} {p pos pos' : Pos} {j : Nat} {W : WX}
end
section
variable {X : Cx} {x : Str} {C : Addr} {fld : Str} {e : Expr} {te : TE} {p np pos pos' : Pos} {j i : Nat} {n : Str} {W : WX}
end
section
variable {X : Cx} {pins : List (Addr × Obj)} {σ : L2.St} {H : Hp} {s sI : Shared} {a : Addr} {B : Heap} {cls : Value} {d : Option Addr}
structure AirXN (X : Cx) (pins : List (Addr × Obj)) (σ : L2.St) (H : Hp) (a : Addr) (B : Heap) (sI : Shared) (cls : Value) (d : Option Addr) (s : Shared) : Prop where
  inv : Inv X pins σ H sI
  nb : ∀ b o, sI.heap.get? b = some o → b ∉ frs X.stack → B.get? b = some o
  up : sI.heap.UpToSlots s.heap
  fl : HandSPX.FlyingZ B X.stack a (L2N.Zn cls d) s.heap
  na : H a = none
  os : s.os = sI.os
  ag : AllBare s.gens
theorem AirXN.landed (x : AirXN X pins σ H a B sI cls d s) : Inv X pins σ H s := x.inv.landed x.nb x.fl.1 x.up x.os x.ag
theorem AirXN.notFr (x : AirXN X pins σ H a B sI cls d s) : a ∉ frs X.stack := fun hm => by
  obtain ⟨oe, vs, he, _, hd⟩ := x.fl.there
  obtain ⟨_, o', e', hnf⟩ := x.fl.2.2.1.mem hm
  rw [he] at e'
  cases e'
  exact hnf _ hd
theorem AirXN.new (x : AirXN X pins σ H a B sI cls d s) : sI.heap.get? a = none := by
  cases e : sI.heap.get? a with
  | none => rfl
  | some o =>
    have z := x.nb a o e x.notFr
    rw [x.fl.2.1] at z
    cases z
theorem AirXN.nL (x : AirXN X pins σ H a B sI cls d s) : a ≠ X.env.locals := fun z => by
  obtain ⟨m, ⟨o, es, ep, ho, _⟩, _⟩ := x.inv.loc
  rw [← z, x.new] at ho
  cases ho
theorem AirXN.kept {h' : Heap} (x : AirXN X pins σ H a B sI cls d s) (k : ∀ b o, s.heap.get? b = some o → h'.get? b = some o) : AirXN X pins σ H a B sI cls d { s with heap := h' } := by
  obtain ⟨f1, f2, f3, oe, vs, T, oT, ts, he, hz, hd, h1, hn, hne, hT, hdT, h3⟩ := x.fl
  exact ⟨x.inv, x.nb, x.up.trans (Heap.UpToSlots.of_keeps k), ⟨fun b o q => k b o (f1 b o q), f2, f3.of_keeps fun b o q _ => ⟨o, k b o q, rfl⟩, oe, vs, T, oT, ts, k _ _ he, hz, hd, h1, hn, hne, k _ _ hT, hdT, h3⟩, x.na, x.os, x.ag⟩
end
section
variable {X : Cx} {pins : List (Addr × Obj)} {σ : L2.St} {H : Hp} {s : Shared} {h' : Heap} {oL : Obj} {i : Nat} {n : Str}
end
section
variable {X : Cx} {i : Nat} {n : Str} {pos' : Pos} {W : WX}
end
section
variable {X : Cx} {x : Str} {C : Addr} {fld : Str} {e e1 : Expr} {te : TE} {cm : Value → Option Bool} {p np pos pos1 pos2 pos' : Pos} {j i : Nat} {n : Str} {W : WX} {body : List Stmt} {tb : WX → TS}
end
end Uv

namespace Uv
open PySem PySem.Spec PyProof.Rows L2
open Evl (Ex)
variable [kk : KK]
theorem StOk.un_set {pn : Pn} {F : Hs} {T : Trs} {H : Hp} {σ : L2.St} {ρ : Env} {i : Nat} {o : Option V} (st : StOk pn F T H σ ρ) (h : ρ[i]? = some .un) (hi : i ≠ 0) : StOk pn F T H (σ.set i o) ρ := by
  refine ⟨by rw [List.length_set]; exact st.len, st.al, st.off, st.dis, st.nd, st.out, fun j s hj => ?_, fun v hv => by rw [List.getElem?_set_ne hi]; exact st.pin v hv⟩
  by_cases c : i = j
  · subst c
    rw [h] at hj
    cases hj
    obtain ⟨o', h1, h2⟩ := st.sl i _ h
    exact ⟨o, by rw [List.getElem?_set_self (List.getElem?_eq_some_iff.mp h1).1], h2⟩
  · obtain ⟨o', h1, h2⟩ := st.sl j s hj
    exact ⟨o', by rw [List.getElem?_set_ne c]; exact h1, h2⟩
end Uv

namespace Uv
open PySem PySem.Spec PyProof.Rows L2
open Evl (Ex)
section
variable {prog : Program} {w : World} {A : Around} {E : Value → Shared → Prop} {s : Shared}
theorem list_end_hot {it l x1 : Addr} {i : Nat} {items : Array Value} {Q : Option Value → Shared → Prop} (hot : HotX.HotAt A x1 s.heap) (nx : x1 ≠ it) (hit : s.heap.IsListIter it l i) (hl : s.heap.IsList l items)
    (hx : items[i]? = none) (hQ : ∀ h', Heap.ExtBut it s.heap h' → Q none { s with heap := h' }) : wpAny (model prog w) A (pyNext (.ref it)) Q E s := by
  obtain ⟨o, ho, hc, hd⟩ := id hit
  obtain ⟨ol, hol, _, nl, hdl⟩ := hl
  obtain ⟨hh, oe, ve, he, de, ce⟩ := hot
  unfold pyNext
  refine wpAny_bind (wpAny_attempt (wpAny_callSpecial?_slot (name := Str.ofString "__next__") hit.typeIs slot_listiter_next (wpAny_call_entry slot_listiter_next hit.typeIs entry_listiter_next
    (show wpAny _ _ (field (.ref it) 0 >>= _) _ _ s from wpAny_bind (wpAny_field ho hd (x := .ref l) rfl ?_)) (args_listiter_next _))))
  dsimp only
  rw [if_neg (show ¬ ((Value.ref l == Value.none) = true) from Bool.false_ne_true)]
  refine wpAny_bind (wpAny_field ho hd (x := .int i 0) rfl (?_ : wpAny _ _ (seqItems? (.ref l) >>= _) _ _ s))
  refine wpAny_bind (wpAny_seqItems hol hdl ?_)
  simp only [Int.toNat_natCast, hx]
  refine wpAny_bind (wpAny_rule (wpAny_bind (wpAny_setField ho hd (by simp) ?_)))
  have kp : ∀ c u, c ≠ it → s.heap.get? c = some u → ∀ o1 o2 : Obj, (((s.heap.update it (Obj.mapFields fun x => x.setIfInBounds 0 Value.none)).push o1).push o2).get? c = some u := fun c u hc hu o1 o2 =>
    Heap.get?_push_of_some _ (Heap.get?_push_of_some _ ((Heap.get?_update_other _ _ (Ne.symm hc)).trans hu))
  show wpAny _ _ (newExc (.type "StopIteration") [] >>= _) _ _ _
  simp only [newExc, newTuple]
  refine wpAny_bind (wpAny_bind (wpAny_newObj_type (wpAny_bind (m := firstArgMember _ _) (wpAny_of_eq (a := Value.none) (by first | rfl | (simp only [firstArgMember]; rfl)) (wpAny_newObj_type ?_ (by size_fits)))) (by size_fits)))
  have h1 := kp x1 oe nx he
  refine HotX.raiseNew_hot ⟨hh, oe, ve, h1 _ _, de, ce⟩ (Nat.ne_of_lt ?_) (Heap.get?_push_size _ rfl) rfl (by first | (simp; done) | (simp; omega) | (simp only [Array.size_append]; simp; omega)) ?_
  · rw [Heap.size_push]
    exact Nat.lt_succ_of_lt (by
      have := Heap.lt_size he
      rw [(Heap.SameBut.update s.heap it _).1]
      exact this)
  refine wpAny_bind (wpAny_isInstance (T := "StopIteration") (b := true) ⟨_, Heap.get?_update_self _ (Heap.get?_push_size _ rfl) rfl, rfl⟩ isSubtype_stop ?_)
  refine wpAny_pure (hQ _ fun b u hb e => ?_)
  rw [Heap.get?_update_other _ _ (Nat.ne_of_gt (Heap.lt_size (Heap.get?_push_of_some _ ((Heap.get?_update_other _ _ (Ne.symm hb)).trans e))))]
  exact kp b u hb e _ _
end
def tLcH (g : TG) (te : TE) (vs : List Nat) (tl : TE) : TE := fun σ H Q => tl σ H fun v H1 => ∃ (a : Addr) (xs : List V) (f : V → V), v = .ref a ∧ H1 a = some (.lst xs) ∧
  (∀ x ∈ xs, ∀ H', g x (wipe σ vs) H' fun σ2 H2 => wipe σ2 vs = wipe σ vs ∧ H2 = H' ∧ te σ2 H2 fun y H3 => y = f x ∧ H3 = H') ∧ ∀ D, H1 D = none → Q (.ref D) (upd H1 D (.lst (xs.map f)))
section
variable {X : Cx}
theorem pe_lcH {p : Addr × Obj} (hh : L2H.Hot1 X.A p) (hp : p ∈ X.pn) (hN : X.N.Nodup) {elt tg L : Expr} {tl te : TE} {g : TG} {scope : Scope} {own : List (Str × Nat)} {pos : Pos} (hl : PE X L tl) (ok : BlkOk X.N X.env.scope scope own)
    (hg : ∀ (s : Shared) (H : Hp) (C : Addr) (cl : List (Str × Addr)) (fp : List Addr), PG (X.blk s H scope (compEnvC scope cl C X.env) fp) tg g)
    (he : ∀ (s : Shared) (H : Hp) (C : Addr) (cl : List (Str × Addr)) (fp : List Addr), PE (X.blk s H scope (compEnvC scope cl C X.env) fp) elt te) (hs : ∀ x, foldedSetIterable L X.env x = pure x := by intro _; rfl) :
    PE X (.ListComp elt [⟨tg, L, [], 0⟩] scope pos) (tLcH g te (own.map (·.2)) tl) := by
  refine ⟨fun pins s σ H Q I h => ?_⟩
  rw [eval_ListComp]
  have hfree : ∀ y ∈ scope.names, y.2 = .free → ∃ c, X.env.cells.lookup y.1 = some c := fun y hy e =>
    (ok.free y hy e).elim (fun k => I.ok.has _ (.inl k)) fun k => I.ok.has _ (.inr k)
  refine wpAny_comprehension_free (use := none) rfl hs (closure_ok hfree) ok.kind (fun y hy e => by rw [ok.uniq y hy, e]) (thn (hl.run pins s σ H _ I h) fun v s1 ⟨x, H1, I1, r1, a, xs, f, ea, hq, hst, hQ⟩ => ?_)
  subst ea
  cases r1
  obtain ⟨its, rv, pl, hz⟩ := I1.list (.inl (.inl hq))
  refine wpAny_pyIter_list pl.isList ?_
  have kI : ∀ b o, s1.heap.get? b = some o → (s1.heap.push ({ cls := .type "list_iterator", data := .fields #[.ref a, .int 0 0] } : Obj)).get? b = some o := fun b o e => Heap.get?_push_of_some _ e
  have hit0 : (s1.heap.push ({ cls := .type "list_iterator", data := .fields #[.ref a, .int 0 0] } : Obj)).IsListIter s1.heap.objs.size a 0 := ⟨_, Heap.get?_push_size _ rfl, rfl, rfl⟩
  have I2 := I1.kept (t' := s1.toks) kI
  have hsz2 : (s1.heap.push ({ cls := .type "list_iterator", data := .fields #[.ref a, .int 0 0] } : Obj)).objs.size = s1.heap.objs.size + 1 := Heap.size_push _ _
  have fI := I1.fpOk (Nat.le_refl s1.heap.objs.size) (I1.hok.fresh (Nat.le_refl _))
  generalize eit : s1.heap.objs.size = it at hit0 hsz2 fI ⊢
  generalize eh2 : s1.heap.push ({ cls := .type "list_iterator", data := .fields #[.ref a, .int 0 0] } : Obj) = h2 at kI hit0 I2 hsz2 ⊢
  refine wpAny_newObj_type (newEnv_comp ?_) (by show 0 ≤ sizeLine; decide)
  dsimp only
  have hDn : H1 h2.objs.size = none := I2.hok.fresh (Nat.le_refl _)
  have I3 : Inv X pins σ (upd H1 h2.objs.size (.lst [])) { s1 with heap := h2.push { cls := .type "list", data := .seq ([] : List Value).toArray } } :=
    I2.laid (t' := s1.toks) (fun b o e => Heap.get?_push_of_some _ e) (Nat.le_refl _) ⟨Nat.zero_le _, [], 0, .nil, Heap.get?_push_size _ rfl⟩
  have hQ := hQ h2.objs.size hDn
  have nDa : a ≠ h2.objs.size := fun z => by rw [← z, hq] at hDn; cases hDn
  have nDi : it ≠ h2.objs.size := by rw [hsz2]; omega
  have hit1 : (h2.push ({ cls := .type "list", data := .seq ([] : List Value).toArray } : Obj)).IsListIter it a 0 := hit0.at fun o e => Heap.get?_push_of_some _ e
  have hsz3 : (h2.push ({ cls := .type "list", data := .seq ([] : List Value).toArray } : Obj)).objs.size = h2.objs.size + 1 := Heap.size_push _ _
  generalize eD : h2.objs.size = D at *
  generalize eh3 : h2.push ({ cls := .type "list", data := .seq ([] : List Value).toArray } : Obj) = h3 at *
  have f3 : FpOk X pins (upd H1 D (.lst [])) it ∧ it < h3.objs.size := ⟨⟨by rw [upd_ne nDi]; exact fI.1, fI.2⟩, by omega⟩
  have I4 := block_start (fp := [it]) I3 ok hN (fun b hb => by
    have e : b = it := by simpa using hb
    rw [e]
    exact f3)
  have pg := hg { s1 with heap := h3 } (upd H1 D (.lst [])) h3.objs.size (cellsFrom (h3.objs.size + 1) scope.names (cloFrom X.env.cells scope.names [])) [it]
  have pe := he { s1 with heap := h3 } (upd H1 D (.lst [])) h3.objs.size (cellsFrom (h3.objs.size + 1) scope.names (cloFrom X.env.cells scope.names [])) [it]
  obtain ⟨ce, hce⟩ : ∃ ce, ce = compEnvC scope (cellsFrom (h3.objs.size + 1) scope.names (cloFrom X.env.cells scope.names [])) h3.objs.size X.env := ⟨_, rfl⟩
  show codeAny _ _ (.compStart (.ListComp elt [⟨tg, L, [], 0⟩] scope pos) 0 (.ref it) (.ref D) (compEnvC scope (cellsFrom (h3.objs.size + 1) scope.names (cloFrom X.env.cells scope.names [])) h3.objs.size X.env)) (compPost (model X.prog X.w) X.A X.xe none (EP X pins σ Q) (.ref D) h3.objs.size) { s1 with heap := pushCells (h3.push { cls := .type "dict", data := .dict #[] }) scope.names }
  have I4 : Inv (X.blk { s1 with heap := h3 } (upd H1 D (.lst [])) scope ce [it]) [] (wipe σ (own.map (·.2))) (upd H1 D (.lst [])) { s1 with heap := pushCells (h3.push { cls := .type "dict", data := .dict #[] }) scope.names } := by rw [hce]; exact I4
  rw [← hce] at pg pe ⊢
  have cL : ce.locals = h3.objs.size := by rw [hce]; rfl
  have hit4 : (pushCells (h3.push { cls := .type "dict", data := .dict #[] }) scope.names).IsListIter it a 0 := hit1.at fun o e => pushCells_keeps _ _ _ _ (Heap.get?_push_of_some _ e)
  have P3 := I3.pin p (List.mem_append_left _ hp)
  have stk : p.1 ∉ frs X.stack := fun hm => (List.mem_cons.mp (I3.stkSub p.1 hm)).elim P3.2.2.1 P3.2.2.2.1
  have nit : p.1 ≠ it := fI.2.2.2.2.2 p (List.mem_append_left _ hp)
  have loop : codeAny (model X.prog X.w) X.A (.compLoop (.ListComp elt [⟨tg, L, [], 0⟩] scope pos) 0 (.ref it) (.ref D) ce) (compPost (model X.prog X.w) X.A X.xe none (EP X pins σ Q) (.ref D) h3.objs.size) { s1 with heap := pushCells (h3.push { cls := .type "dict", data := .dict #[] }) scope.names } := by
    refine compLoop_any (fun n s' => ∃ i, i + n = xs.length ∧ Inv (X.blk { s1 with heap := h3 } (upd H1 D (.lst [])) scope ce [it]) [] (wipe σ (own.map (·.2))) (upd H1 D (.lst ((xs.take i).map f))) s' ∧ s'.heap.IsListIter it a i) ?_ xs.length ⟨0, by omega, by simpa using I4, hit4⟩
    rintro n s5 ⟨i, hin, I5, st5⟩
    have hl5 : upd H1 D (.lst ((xs.take i).map f)) a = some (.lst xs) := by rw [upd_ne nDa]; exact hq
    obtain ⟨its5, rv5, pl5, _⟩ := I5.list (.inl (.inl hl5))
    have ni : (upd H1 D (.lst ((xs.take i).map f))) it = none := by rw [upd_ne nDi]; exact fI.1
    have m1 : it ∈ [it] := List.mem_cons_self
    have stat : ∀ {σ' : L2.St} {H' : Hp} {s' : Shared}, Inv (X.blk { s1 with heap := h3 } (upd H1 D (.lst [])) scope ce [it]) [] σ' H' s' → H' it = none → ∀ b ∈ [it], FpOk (X.blk { s1 with heap := h3 } (upd H1 D (.lst [])) scope ce [it]) [] H' b := fun {σ' H' s'} I' hn b hb => by
      have e : b = it := by simpa using hb
      rw [e]
      exact ⟨hn, (I'.ok.exf it m1).1, I'.ok.exfs it m1, .inl m1, fun x c e => (I'.ok.exf it m1).2 x c e, fun p hp => absurd (show p ∈ ([] : List (Addr × Obj)) ++ [] from hp) (by simp)⟩
    obtain ⟨f0, f1, _, f4, f5, f6⟩ := stat I5 ni it m1
    by_cases hlt : i < xs.length
    · have hx := List.getElem?_eq_getElem hlt
      obtain ⟨u, hu, ru⟩ := rv5.get hx
      refine wpAny_pyNext_list_item st5 pl5.isList (x := u) (by simpa using hu) fun h' st' sb => ?_
      have I6 := I5.turned (h' := h') (t' := s5.toks) (fun b o hb e => (sb.2 b hb).trans e) f0 f1 f4 f5 f6
      obtain ⟨o, e, c, d⟩ := id st'
      refine go_of (s := { s5 with heap := h' }) e c d (by decide) ?_
      have I7 := I6.pinned (stat I6 ni) (fun b hb => by
        have eb : b = it := by simpa using hb
        rw [eb]
        exact ⟨o, e, fun v z => by rw [d] at z; cases z⟩)
      refine thnF (pg.run _ { s5 with heap := h' } _ _ xs[i] u _ I7 ru (hst _ (List.getElem_mem hlt) _)) fun _ s8 ⟨σ8, H8, I8, hw8, eH, q8⟩ => ?_
      subst eH
      simp only [List.forIn_nil]
      refine wpAny_pure ?_
      rw [if_pos rfl]
      refine thnF (pe.run _ s8 σ8 _ _ I8 q8) fun y s9 ⟨yv, H9, I9, r9, ey, eH⟩ => ?_
      subst ey eH
      refine app_ok (X := X.blk { s1 with heap := h3 } (upd H1 D (.lst [])) scope ce [it]) I9 upd_same (by rw [List.length_map, List.length_take]; omega) r9 fun s10 I10 => ?_
      have eU : upd (upd H1 D (.lst ((xs.take i).map f))) D (.lst ((xs.take i).map f ++ [f xs[i]])) = upd H1 D (.lst ((xs.take (i + 1)).map f)) := by
        funext b
        by_cases hb : b = D
        · rw [hb, upd_same, upd_same, List.take_succ_eq_append_getElem hlt, List.map_append]
          rfl
        · rw [upd_ne hb, upd_ne hb, upd_ne hb]
      have pz := I10.pin (it, o) (List.mem_append_right _ (List.mem_append_right _ (mem_pinsAt m1 e)))
      rw [eU] at I10
      refine ⟨n - 1, by omega, i + 1, by omega, (I10.unpinned (pins := [])).weak (by rw [← hw8, wipe_length]) (fun j v e => ?_), st'.at fun o' e' => ?_⟩
      · rw [← hw8] at e
        exact (wipe_some e).1
      · rw [show h'.get? it = some o from e] at e'
        cases e'
        exact pz.1
    · have hx5 : p.1 ∉ [it] := by simpa using nit
      have g5 : s5.heap.get? p.1 = some p.2 := I5.base.keep p.1 p.2 P3.1 P3.2.1 stk hx5
      have hl := rv5.length
      refine list_end_hot (x1 := p.1) ⟨hh.1, p.2, hh.2.choose, g5, hh.2.choose_spec.1, hh.2.choose_spec.2⟩ nit st5 pl5.isList (by simp; omega) fun h' eb => ?_
      have I6 := I5.turned (h' := h') (t' := s5.toks) eb f0 f1 f4 f5 f6
      have hxs : xs.take i = xs := List.take_of_length_le (by omega)
      rw [hxs] at I6
      have I7 : Inv X pins σ (upd H1 D (.lst (xs.map f))) { s5 with heap := h' } := I3.call' (ch := [it]) I6.os I6.base I6.hok I6.bare fun b hb => by
        have eb : b = it := by simpa using hb
        rw [eb]
        exact ⟨f3.1.2.2.2.1, f3.1.2.1, f3.1.2.2.2.2.1, f3.1.2.2.2.2.2⟩
      have nC : (upd H1 D (.lst (xs.map f))) h3.objs.size = none := by
        have z : (upd H1 D (.lst (xs.map f))) ce.locals = none := I6.free
        rw [cL] at z
        exact z
      obtain ⟨m, hn, _⟩ := I6.loc
      have hn : h'.Ns ce.locals m := hn
      rw [cL] at hn
      obtain ⟨c0, c1, _, c4, c5, c6⟩ := I3.fpOk (Nat.le_refl _) nC
      exact ⟨m, hn, fun h'' sb => ⟨.ref D, _, I7.turned (t' := s5.toks) (fun b o hb e => (sb.2 b hb).trans e) c0 c1 c4 c5 c6, rfl, hQ⟩⟩
  exact codeAny_compStart_list loop (wpAny_pyIter_listiter hit4 loop)
end
theorem walks_hot {prog : Program} {w : World} {A : Around} {I ax x1 : Addr} (hne : ax ≠ I) (nx : x1 ≠ I) (items : Array Value) :
    Walks prog w A I [I, ax, x1] [I] items.size (fun i v => items[i]? = some v) (fun i h => h.IsListIter I ax i ∧ h.IsList ax items ∧ HotX.HotAt A x1 h) where
  sub := fun b hb => by
    rw [List.mem_singleton.mp hb]
    exact List.mem_cons_self
  frame := fun i h h' ⟨s1, s2, hh, o, vs, e, r⟩ hk => ⟨s1.at fun o e => hk I (by simp) o e, s2.at fun o e => hk ax (by simp) o e, hh, o, vs, hk x1 (by simp) o e, r⟩
  item := fun i s Q E hi ⟨s1, s2, hh, o, vs, e, r⟩ hQ => by
    refine wpAny_pyNext_list_item s1 s2 (x := items[i]) (by simp [hi]) fun h' hit' hs' => ?_
    exact hQ _ h' s.toks (by simp [hi]) ⟨hit', s2.extBut hs'.extBut hne, hh, o, vs, (hs'.2 x1 nx).trans e, r⟩ fun b o hb e => hs'.extBut b o (fun z => hb (List.mem_singleton.mpr z)) e
  done := fun s Q E ⟨s1, s2, hot⟩ hQ => list_end_hot hot nx s1 s2 (by simp) fun h' he' => hQ h' s.toks fun b o hb e => he' b o (fun z => hb (List.mem_singleton.mpr z)) e
  self := fun i s Q E ⟨s1, _⟩ hQ => wpAny_pyIter_listiter s1 hQ
section
variable {prog : Program} {w : World} {A : Around} {E : Value → Shared → Prop} {s : Shared}
theorem sum_hot {l x1 : Addr} {its : List Value} {ns : List Int} {Q : Value → Shared → Prop} (hot : HotX.HotAt A x1 s.heap) (hl : s.heap.IsList l its.toArray) (hi : IntsAre its ns)
    (h : ∀ h' tk t', (∀ b o, s.heap.get? b = some o → h'.get? b = some o) → Q (.int ns.sum t') { s with heap := h', toks := tk }) : wpAny (model prog w) A (call (.builtin "sum") [.ref l]) Q E s := by
  obtain ⟨xs, e⟩ := hi.allInts.items
  have hn : numsOf (intItems xs).toList = ns := by rw [← e]; exact hi.numsOf
  rw [nums_intItems] at hn
  rw [e] at hl
  obtain ⟨hh, o, vs, he, r⟩ := hot
  refine call_sum_walkG (iter_intList hl fun s₂ e st hfp hlI => ?_)
  subst e
  have nx : x1 ≠ s.heap.objs.size := Nat.ne_of_lt (Heap.lt_size he)
  refine ⟨_, _, _, _, _, _, numAt xs, rfl, walks_hot (A := A.in1) hlI nx (intItems xs), ⟨st.1, st.2, hh, o, vs, Heap.get?_push_of_some _ he, r⟩, fun b hb => ?_, (fun _ _ => intItems_at), fun h' tk t' hk => ?_⟩
  · by_cases z : b = x1
    · rw [z]
      show x1 < (s.heap.push _).objs.size
      rw [Heap.size_push]
      exact Nat.lt_succ_of_lt (Heap.lt_size he)
    · exact hfp b (by
        simp only [List.mem_cons, List.not_mem_nil, or_false] at hb ⊢
        rcases hb with q | q | q
        · exact .inl q
        · exact .inr q
        · exact absurd q z)
  · have q := h h' tk t' (old_kept hk)
    have e3 : preSum (numAt xs) (intItems xs).size = ns.sum := by
      have e2 : (intItems xs).size = xs.size := by simp [intItems]
      rw [e2, preSum_eq, List.take_of_length_le (by simp), hn]
    rw [e3]
    exact q
end
theorem cr_sumH {X : Cx} {p : Addr × Obj} (hh : L2H.Hot1 X.A p) (hp : p ∈ X.pn) : CallR X (.builtin "sum") (rSum X.K) := by
  intro pins s σ H vs us Q I r h
  obtain ⟨a, ns, rfl, hs, q⟩ := h
  obtain ⟨its, rv, hl, _⟩ := I.list hs
  rw [Vals.ref1 r]
  obtain ⟨h1, ve, h2⟩ := hh
  exact sum_hot ⟨h1, p.2, ve, (I.pin p (List.mem_append_left _ hp)).1, h2⟩ hl.isList rv.ints fun h' tk t' hk => ⟨.int _, H, I.kept hk, ⟨_, rfl⟩, q⟩
end Uv

namespace Uv
open PySem PySem.Spec PyProof.Rows L2
open Evl (Ex)
theorem call_isPn {X : Cx} {a D : Addr} {oe : Obj} (hp : (a, oe) ∈ X.pn) (C : ExcC X.K D) (hz : Zc (.ref D) none oe) (hf : ∃ vs, oe.data = .fields vs) : CallR X (.builtin "isinstance") (rIsE X.K D a) := by
  intro pins s σ H xs us Q I r h
  obtain ⟨c, cv, b, rfl, hc, e, q⟩ := h
  cases r with
  | cons rx rr =>
    cases rr with
    | cons rt rr =>
      cases rr
      cases rx
      have ec := hc _ rt
      subst ec
      obtain ⟨hget, _⟩ := I.pin (a, oe) (List.mem_append_left _ hp)
      obtain ⟨vs, hv⟩ := hf
      have J : PySem.W.InstAt s.heap a oe D none := by
        obtain ⟨oc, od, oda, osl⟩ := oe
        obtain ⟨h1, h2⟩ := hz
        dsimp only at h1 h2 hv
        subst h1 h2 hv
        exact ⟨hget, rfl, rfl, trivial⟩
      exact PySem.W.kia_one (kitx_exD C) I.kIn J e (fun z => nomatch z) fun tk => ⟨.bl b, H, I.kept (t' := tk) fun _ _ z => z, rfl, q⟩
section
variable {P : Program} {w : World} {K : PySem.W.Frag} {mg : Str → Option Value} {base : Heap}
structure FnP (P : Program) (w : World) (K : PySem.W.Frag) (mg : Str → Option Value) (base : Heap) (k : Nat) (f : Addr) (fd : FuncData) (x : Str) (sp : Addr → VK → Hp → Prop) : Prop where
  run : ∀ (A : Around) (outer : List PySem.Env) (s : Shared) (H : Hp) (args : Args) (a : Addr) (oe : Obj) (D : Addr) (Q : VK), A.guards = some [] → L2H.RoomH k A → L2H.Hot1 A (a, oe) → L2H.PinOk outer H s (a, oe) → Zc (.ref D) none oe → Env0 P w K mg base A outer s H → BindsTo s fd args [(x, .ref a)] → sp D Q H →
    codeAny (model P w) A (.call (.ref f) args) (CR CX0 outer P w H s Q E0) s
structure CalP (P : Program) (w : World) (K : PySem.W.Frag) (mg : Str → Option Value) (base : Heap) (k : Nat) (f0 x : Str) (sp : Addr → VK → Hp → Prop) : Prop where
  ex : ∃ (f : Addr) (fd : FuncData), FnP P w K mg base k f fd x sp ∧ mg f0 = some (.ref f) ∧ PySem.W.keepIn K (.ref f) = true ∧ Binds K fd [x] []
theorem cal_P {f0 x : Str} {st : Stmt} {N : List Str} {k : Nat} {sp : Addr → VK → Hp → Prop} (F : Dfn K mg f0 st [x]) (S : FnScope N [x] (defScope st))
    (hb : ∀ (f : Addr) (cdv : Value) (A : Around) (outer : List PySem.Env) (s : Shared) (H : Hp) (a : Addr) (oe : Obj) (D : Addr) (Q : VK), (A.deeper (envOfC f0 (defScope st) s.heap.objs.size f cdv)).guards = some [] → L2H.RoomH k (A.deeper (envOfC f0 (defScope st) s.heap.objs.size f cdv)) → L2H.Hot1 A (a, oe) → Zc (.ref D) none oe → sp D Q H →
      ∃ t, PSs (L2H.cxH CX0 P w K mg base N f0 (defScope st) f cdv A outer s H E0 (a, oe)).nox (defBody st) t ∧ t { nx := fun _ H' => Q .non H', rt := Q } (L2.start N [.ref a]) H) : CalP P w K mg base (k + 1) f0 x sp := by
  obtain ⟨f, fd, F, hm, b⟩ := F.ex
  refine ⟨f, fd, ⟨fun A outer s H args a oe D Q hG hr hot pin hz e0 hbd hsp => ?_⟩, hm, F.kp, b⟩
  obtain ⟨oc, od, kV, doc, pm, an, cdv, ct, osl, rfl, lk, hcd⟩ := F.ex
  have keep : ∀ b o, base.get? b = some o → s.heap.get? b = some o := fun b o e => (e0.bs b o e).1
  have KX : K.In s.heap := e0.mod.kin.keeps keep
  have lim : s.heap.NoLimit := e0.mod.nolimit.keeps keep
  obtain ⟨t, ht, hq⟩ := hb f cdv A outer s H a oe D Q hG (hr.deeper _) hot hz hsp
  refine codeAny_call_function hr.depth (KX _ _ lk) rfl S.co S.gen rfl (PySem.W.codeRec_of KX hcd) (hbd _ _ _ _ ?_)
  refine wpAny_newFunctionEnv_cells S.kind (fun y hy => ?_) fun env he s1 ic => ?_
  · have ey : y.1 ∈ [x] := by
      rw [List.mem_singleton.mp hy]
      exact List.mem_cons_self
    rcases S.par y.1 ey with q | q
    · exact .inl q
    · exact .inr ⟨q, PySem.W.cellsFrom_some _ _ _ (.inl q)⟩
  · subst he
    have I : Inv (L2H.cxH CX0 P w K mg base N f0 (defScope st) f cdv A outer s H E0 (a, oe)) [] (L2.start N [.ref a]) H s1 := L2H.inv_startH (vs := [.ref a]) (us := [.ref a]) S pin e0 rfl (.cons rfl .nil) ic
    refine ⟨lim.keeps ic.toInCall.keep, codeAny_func (wpAny_mono (ht.nox.run [] s1 (L2.start N [.ref a]) H _ I hq) (fun fl s' hs => ?_) fun e s' hs => hs)⟩
    match fl, hs with
    | .ret u, ⟨v, σ', H', J, rv, q⟩ => exact ⟨v, H', J.os, J.bare, J.base, J.hok, rv, q⟩
    | .next, ⟨σ', H', J, q⟩ => exact ⟨.non, H', J.os, J.bare, J.base, J.hok, rfl, q⟩
    | .brk, ⟨_, _, _, q⟩ => exact q.elim
    | .cont, ⟨_, _, _, q⟩ => exact q.elim
end
def tCallP (sp : Addr → VK → Hp → Prop) (i : Nat) (a D : Addr) : TE := fun σ H Q => σ[i]? = some (some (.ref a)) ∧ sp D Q H
theorem pe_callP {X : Cx} {i j k : Nat} {f0 x n : Str} {sp : Addr → VK → Hp → Prop} {a D : Addr} {oe : Obj} {p pn pos : Pos} (c : CalP X.prog X.w X.K X.mg X.base k f0 x sp) (hr : L2H.RoomH j X.A) (hk : k ≤ j) (hG : X.A.guards = some []) (hot : L2H.Hot1 X.A (a, oe)) (hp : (a, oe) ∈ X.pn) (hz : Zc (.ref D) none oe) (hg : Gl X f0)
    (hN : X.N[i]? = some n) (hv : Vis X.env.scope n) (hnd : (n == ("__debug__" : Str)) = false := by decide) (hcd : (n == ("__classdict__" : Str)) = false := by decide) (hdb : (f0 == ("__debug__" : Str)) = false := by decide)
    (he : starEach [.Name n pn] X.env = (false, eval (.Name n pn) X.env) :: starEach [] X.env := by rfl) (hpl : (backTo pos (starEach [] X.env)).any (·.1) = false := by rfl) :
    PE X (.Call (.Name f0 p) [.Name n pn] [] pos) (tCallP sp i a D) := by
  obtain ⟨f, fd, F, hm, kp, b⟩ := c.ex
  refine ⟨fun pins s σ H Q I ⟨hσ, h⟩ => wpAny_Call_Name_kw (ld_glob I hg hm ?_ hdb)⟩
  have ha : PA X [.Name n pn] (tCons (tVar i) tNil) := pa_cons (pe_var hN hv hnd hcd) pa_nil (hs := he)
  refine PySem.W.callWith_K (h₀ := X.base) I.ok.mod.kin kp (thn (ha.run pos pins s σ H (fun vs H1 => vs = [.ref a] ∧ H1 = H) I ⟨.ref a, hσ, rfl, rfl⟩) fun us s1 hh => ?_) he hpl
  obtain ⟨vs, H1, I1, r, rfl, rfl⟩ := hh
  obtain ⟨u, rfl, ru⟩ := vals1 r
  obtain rfl : u = Value.ref a := ru
  have bd := b s1 [.ref a] I1.kIn rfl
  rw [List.append_nil] at bd
  have P1 := I1.pin (a, oe) (List.mem_append_left _ hp)
  have hpin : L2H.PinOk X.stack H1 s1 (a, oe) := ⟨P1.1, P1.2.1, fun hmm => (List.mem_cons.mp (I1.stkSub a hmm)).elim P1.2.2.1 P1.2.2.2.1, P1.2.2.2.2⟩
  refine ⟨I1.kIn, wpAny_call (codeAny_mono (F.run X.A X.stack s1 H1 ⟨[.ref a], []⟩ a oe D Q hG (hr.mono hk) hot hpin hz I1.env0 bd h) fun rr s' hq => ?_)⟩
  match rr, hq with
  | .error _, hq => exact hq.elim
  | .ok (.ret u), hq => exact I1.after hq
  | .ok .next, hq => exact hq.elim
  | .ok .brk, hq => exact hq.elim
  | .ok .cont, hq => exact hq.elim
def tTryAl (K : PySem.W.Frag) (cm : Value → Option Bool) (i : Nat) (tsu : Addr → Addr → TS) (tb : WX → TS) : TS := fun D σ H => tb (fun cls d σ' H' => cm cls = some true ∧ ∃ C0, cls = .ref C0 ∧ d = none ∧ ExcC K C0 ∧ ∀ a, H' a = none → tsu a C0 (Ends.no D i) (σ'.set i (some (.ref a))) H') D σ H
section
variable {X : Cx} {e : Expr} {cm : Value → Option Bool} {pos pos' : Pos} {i : Nat} {n : Str} {body suite : List Stmt} {b₀ : Stmt} {tb : WX → TS} {tsu : Addr → Addr → TS}
theorem ps_tryAl (hs : X.stack = X.env :: X.outer) (hf : X.env.frame = some X.env.locals) (hN : X.N.Nodup) (hi : X.N[i]? = some n) (hln : X.env.kindOf n = some .local) (he : TXm X e cm)
    (hb : ∀ (W : WX) (pn : List (Addr × Obj)) (xe : Value → Shared → Prop), L2N.Takes (X.tr pn xe) W → PassesOwn (model X.prog X.w) X.A X.env xe → PSs (X.tr pn xe) body (tb W))
    (hsu : ∀ (a : Addr) (oe : Obj) (C0 : Addr) (pn : List (Addr × Obj)), L2N.Zn (.ref C0) none oe → (∃ vs, oe.data = .fields vs) → ExcC X.K C0 → PSs (X.suite a ((a, oe) :: pn)) (b₀ :: suite) (tsu a C0)) :
    PS X (.Try body [.ExceptHandler (some e) (some n) (b₀ :: suite) pos'] [] [] pos) (tTryAl X.K cm i tsu tb) := by
  refine ⟨fun pins s σ H D I h => ?_⟩
  have ok := I.ok
  have hfr : X.A.frames = some (X.env :: X.outer) := by rw [ok.frames, hs]
  refine wpAny_Try_except (wpAny_mono ((hb _ (X.pn ++ pins) (fun e2 s₁ => wpAny (model X.prog X.w) X.A (noteFrame e2 X.env) (fun _ s₂ => wpAny (model X.prog X.w) X.A (setFlight e2 none) (fun _ s₃ =>
    wpAny (model X.prog X.w) X.A (handleBy e2 X.env [.ExceptHandler (some e) (some n) (b₀ :: suite) pos']) (L2.SP X pins D) X.xe s₃) X.xe s₂) X.xe s₁) (fun u s' xx => ?_) PassesOwn.looking).run [] s σ H D (I.toTry _) h) (fun f s1 hsp => ?_) (fun e s1 he => he))
  · obtain ⟨a, B, sI, pins', σ', H', cls, d, rfl, J', nb, up, sky, na, os, ag, hcm, C0, rfl, rfl, hE, hts⟩ := xx
    have J : Inv X pins σ' H' sI := J'.ofTry ok
    have sky2 : Sky B (X.env :: X.outer) a (L2N.Zn (.ref C0) none) X.env.locals s'.heap := by rw [← hs]; exact sky
    show wpAny (model X.prog X.w) X.A (noteFrame (.ref a) X.env) _ _ _
    refine L2N.Sky.land L2N.Zn.steady hfr hf sky2 fun h3 fl3 up3 => ?_
    have x3 : AirXN X pins σ' H' a B sI (.ref C0) none { s' with heap := h3 } := ⟨J, nb, up.trans up3, by rw [hs]; exact fl3, na, os, ag⟩
    obtain ⟨oe, vs, hoe, hz, hd⟩ := x3.fl.there
    refine wpAny_handleBy_cons (codeAny_handlers_test (he a _ [] σ' H' _ (.ref C0) true _ _ (inv_suite (pins := pins) x3.landed) (fun A Q E s2 k q => wpAny_typeOf_ref (k _ _ hoe) (by rw [hz.1]; exact q)) hcm fun h' k => ?_)) (by intro q; cases q)
    have x' := x3.kept k
    refine codeAny_handlers_suite_as (HandSPX.lands_againZ x'.fl fun h2 fl2 up2 => ?_)
    have x2 : AirXN X pins σ' H' a B sI (.ref C0) none { s' with heap := h2 } := ⟨x'.inv, x'.nb, x'.up.trans up2, fl2, x'.na, x'.os, x'.ag⟩
    obtain ⟨oe4, vs4, he4, hz4, hd4⟩ := x2.fl.there
    have nF : a ∉ X.fs := fun hm => by
      obtain ⟨e, he, q⟩ := List.mem_filterMap.mp hm
      exact x2.notFr (by rw [hs]; exact List.mem_filterMap.mpr ⟨e, List.mem_cons_of_mem _ he, q⟩)
    have S4 := x2.landed.suite he4 hd4 x2.na x2.nL nF
    refine store_ok (X := X.suite a ((a, oe4) :: (X.pn ++ pins))) (v := .ref a) S4 hN hi (.inl hln) rfl (fun s5 S5 => ?_) (.inr hln)
    refine wpAny_mono ((hsu a oe4 C0 (X.pn ++ pins) hz4 ⟨_, hd4⟩ hE).run [] s5 _ _ (Ends.no D i) S5 (hts a na)) (fun f s6 hsp => ?_) fun _ _ z => False.elim z
    have fin : ∀ {σ6 : L2.St} {H6 : Hp} {Q : Shared → Prop}, Inv (X.suite a ((a, oe4) :: (X.pn ++ pins))) [] σ6 H6 s6 → (∀ s7, Inv X pins (σ6.set i none) H6 s7 → Q s7) → wpAny (model X.prog X.w) X.A (do bindName X.env n .none; unbindBehindTheSuite X.env n pos') (fun _ s7 => Q s7) X.xe s6 := fun S6 hq => gone_ok (S6.unsuite ok) hN hi hln hq
    cases f with
    | next => obtain ⟨σ6, H6, S6, q6⟩ := hsp; exact fin S6 fun s7 J7 => ⟨_, _, J7, q6⟩
    | brk => obtain ⟨σ6, H6, S6, q6⟩ := hsp; exact fin S6 fun s7 J7 => ⟨_, _, J7, q6⟩
    | cont => obtain ⟨σ6, H6, S6, q6⟩ := hsp; exact fin S6 fun s7 J7 => ⟨_, _, J7, q6⟩
    | ret u => obtain ⟨v6, σ6, H6, S6, r6, q6⟩ := hsp; exact fin S6 fun s7 J7 => ⟨_, _, _, J7, r6, q6⟩
  · cases f with
    | next => obtain ⟨σ', H', J', q⟩ := hsp; exact wpAny_execs_nil ⟨σ', H', J'.ofTry ok, q⟩
    | brk => obtain ⟨σ', H', J', q⟩ := hsp; exact ⟨σ', H', J'.ofTry ok, q⟩
    | cont => obtain ⟨σ', H', J', q⟩ := hsp; exact ⟨σ', H', J'.ofTry ok, q⟩
    | ret u => obtain ⟨v, σ', H', J', r, q⟩ := hsp; exact ⟨v, σ', H', J'.ofTry ok, r, q⟩
end
variable [kk : KK]
def spAl (tab : Nat → Option Str) : Addr → VK → Hp → Prop := fun D Q H => ∃ n z, kk.cl n = some D ∧ tab n = some z ∧ ∀ H', Ex H H' → Q (.str z) H'
def alO (em : Nat → Option Bool) (i j : Nat) (tab : Nat → Option Str) : Out → Option Out
  | .ret d ρ => match isExz d with
    | none => some (.ret d ρ)
    | some (n, _) => if em n = some true ∧ exFld n = [] then (tab n).bind fun z => (match ρ[i]? with
      | some .un => if j < ρ.length then some (.nxt (ρ.set j (.dat (.list [.str z])))) else none
      | _ => none) else none
  | o => some o
def sTryAl (em : Nat → Option Bool) (i j : Nat) (tab : Nat → Option Str) (x : XS) : XS := fun ρ => (x ρ).bind (alO em i j tab)
theorem ssz_tryAl {W : WX} {tb : WX → TS} {x : XS} {em : Nat → Option Bool} {cm : Value → Option Bool} {i j : Nat} {tab : Nat → Option Str} (hb : ∀ W, SSZ W (tb W) x) (hc : ∀ n C b, kk.cl n = some C → em n = some b → cm (.ref C) = some b) (hE : ∀ n C, kk.cl n = some C → ExcC K C)
    (hi : i ≠ 0) (hj : j ≠ 0) (hij : i ≠ j) : SSZ W (tTryAl K cm i (fun a D => tAsg (tLst (tCons (tCallP (spAl tab) i a D) tNil)) (gName j)) tb) (sTryAl em i j tab x) := fun pn F T H σ ρ o D st e q => by
  obtain ⟨o1, h1, e⟩ := bind_some e
  refine hb _ pn F T H σ ρ o1 D st h1 ⟨fun n es ρ1 d e1 z C1 od σ1 T1 H1 st1 s1 ea => ?_, fun z => ?_⟩
  · subst e1
    have e : (match isExz d with | none => some (Out.ret d ρ1) | some (n, _) => if em n = some true ∧ exFld n = [] then (tab n).bind fun z => (match ρ1[i]? with | some .un => if j < ρ1.length then some (Out.nxt (ρ1.set j (.dat (.list [.str z])))) else none | _ => none) else none) = some o := e
    rw [z] at e
    dsimp only at e
    split at e
    · rename_i hcd
      obtain ⟨hem, hfl⟩ := hcd
      obtain ⟨t, h2, e⟩ := bind_some e
      cases hu : ρ1[i]? with
      | none => rw [hu] at e; cases e
      | some u =>
        rw [hu] at e
        cases u with
        | un =>
          dsimp only at e
          split at e
          · rename_i hjl
            cases e
            obtain ⟨xs, k1, k2⟩ := ea.at_
            rw [hfl] at k1
            obtain ⟨rfl, rfl⟩ := k1
            refine ⟨hc n C1 true ea.cl hem, C1, rfl, rfl, hE n C1 ea.cl, fun a na => ?_⟩
            have hil : i < σ1.length := by rw [st1.len]; exact (List.getElem?_eq_some_iff.mp hu).1
            refine ⟨by rw [List.getElem?_set_self hil], n, t, ea.cl, h2, fun H2 e2 => ⟨by show 1 ≤ sizeLine; decide, fun p hp => ?_⟩⟩
            have e3 := Ex.new (o := HO.lst [V.str t]) hp
            have st2 := st1.ex e2
            have st3 := st2.ex e3
            obtain ⟨st4, s4⟩ := st3.set (i := j) (v := .ref p) (d := .list [.str t]) hj (.lst (new_ok st2.als hp) (.cons (.str t) .nil))
            have st5 := st4.un_set (i := i) (o := none) (by rw [List.getElem?_set_ne (Ne.symm hij)]; exact hu) hi
            have eσ : ((σ1.set i (some (V.ref a))).set j (some (.ref p))).set i none = (σ1.set j (some (.ref p))).set i none := by
              rw [List.set_comm _ _ hij, List.set_set]
            show D.nx (((σ1.set i (some (V.ref a))).set j (some (.ref p))).set i none) (upd H2 p (.lst [.str t]))
            rw [eσ]
            exact q.2 (fun _ _ z => nomatch z) _ _ _ st5 (((s1.trans (Stp.ex st1.al e2)).trans (Stp.ex st2.al e3)).trans s4)
          · cases e
        | _ => cases e
    · cases e
  · cases o1 with
    | ret d ρ1 =>
      have iz := z d ρ1 rfl
      have e : (match isExz d with | none => some (Out.ret d ρ1) | some (n, _) => if em n = some true ∧ exFld n = [] then _ else none) = some o := e
      rw [iz] at e
      cases e
      exact q.2 z
    | _ => cases e; exact q.2 fun _ _ z => nomatch z
end Uv

namespace Uv
open PySem PySem.Spec PyProof.Rows L2
open Evl (Ex)
def rMulS1 : R2 := fun x y H Q => ∃ z, x = .str z ∧ y = .int 1 ∧ Q (.str z) H
theorem op_mulS1 {X : Cx} : OpR X (binaryOp .Mult) rMulS1 := by
  intro pins s σ H x y v u Q I rx ry h
  obtain ⟨z, rfl, rfl, q⟩ := h
  obtain ⟨t, rfl⟩ := rx
  obtain ⟨t2, rfl⟩ := ry
  refine PySem.SB.mul ⟨by decide, fun _ h => by simp at h, fun _ h => by simp at h⟩ fun t' k => ⟨.str z, H, I.tok _, ⟨t', ?_⟩, q⟩
  have e : Txt.mul z 1 = z := by unfold Txt.mul; rw [if_neg (by decide), if_pos (by simp)]
  rw [e]
variable [kk : KK]
def mulS1 : PD → PD → Option PD
  | .str z, .int j => if j = 1 then some (.str z) else none
  | _, _ => none
theorem so_mulS1 : SO rMulS1 mulS1 := fun x y z h S H vx vy al rx ry Q q => by
  cases rx with
  | str t =>
    cases ry with
    | int j =>
      have h : (if j = 1 then some (PyData.str t) else none) = some z := h
      by_cases c : j = 1
      · rw [if_pos c] at h
        cases h
        subst c
        exact ⟨t, rfl, rfl, q _ H (fun _ _ z => z) (.str t)⟩
      · rw [if_neg c] at h
        cases h
    | _ => cases h
  | _ => cases h
def alF : V → V
  | .bl b => .int (if b then 1 else 0)
  | v => v
def tAlRet (K : PySem.W.Frag) : TE := tOp rMulS1 (tOp (rIx K) (tLst (tCons (tC (.str "no roads")) (tCons (tC (.str "bad order")) (tCons (tC (.str "full")) (tCons (tC (.str "great")) (tCons (tC (.str "other")) tNil)))))) (tIdx K (tVar 1) (tCons (tC (.bl true)) tNil))) (tCB rIntQ (tCons (tVar 2) tNil))
def xAlRet : XE := xOp mulS1 (xOp ixP (xLst (xCons (xC (.str "no roads")) (xCons (xC (.str "bad order")) (xCons (xC (.str "full")) (xCons (xC (.str "great")) (xCons (xC (.str "other")) xNil)))))) (xIdx (xVar 1) (xC (.bool true)))) (xCB (on1 toIntP) (xCons (xVar 2) xNil))
theorem se_alRet : SE (tAlRet K) xAlRet := se_op so_mulS1 (se_op so_ix (SEF.se (sef_lst (sa_cons se_str (sa_cons se_str (sa_cons se_str (sa_cons se_str (sa_cons se_str sa_nil))))))) (se_idx se_var se_bl)) (se_cb sc_int (sa_cons se_var sa_nil))
def tAlone (K : PySem.W.Frag) (C a c1 c2 c3 c4 : Addr) : TS :=
  tSeq (tAsg (tLst (tCons (tCB (rIsE K C a) (tCons (tVar 0) (tCons (tC (.ref c1)) tNil))) (tCons (tCB (rIsE K C a) (tCons (tVar 0) (tCons (tC (.ref c2)) tNil))) (tCons (tCB (rIsE K C a) (tCons (tVar 0) (tCons (tC (.ref c3)) tNil))) (tCons (tCB (rIsE K C a) (tCons (tVar 0) (tCons (tC (.ref c4)) tNil))) (tCons (tC (.bl true)) tNil)))))) (gName 1))
    (tSeq (tAsg (tAndV (tCB (rIsE K C a) (tCons (tVar 0) (tCons (tC (.ty "ValueError")) tNil))) (tOp (rEqX K) (tCB (rSum K) (tCons (tLcH (gName 3) (tCB rIntQ (tCons (tVar 3) tNil)) [3] (tVar 1)) tNil)) (tC (.int 2)))) (gName 2))
    (tRet (tAlRet K)))
theorem alone_ok {C a c1 c2 c3 c4 : Addr} {b1 b2 b3 b4 : Bool} {z : Str} {H : Hp} {Q : VK} (k1 : PySem.W.kitOne K (.ref C) (.ref c1) = some b1) (k2 : PySem.W.kitOne K (.ref C) (.ref c2) = some b2) (k3 : PySem.W.kitOne K (.ref C) (.ref c3) = some b3) (k4 : PySem.W.kitOne K (.ref C) (.ref c4) = some b4) (kV : PySem.W.kitOne K (.ref C) (.type "ValueError") = some true)
    (hs : ([b1, b2, b3, b4, true].map fun b => if b then (1 : Int) else 0).sum = 2) (hx : xAlRet [none, some (.list [.bool b1, .bool b2, .bool b3, .bool b4, .bool true]), some (.bool true), none] = some (.str z)) (hQ : ∀ H', Ex H H' → Q (.str z) H') :
    tAlone K C a c1 c2 c3 c4 { nx := fun _ H' => Q .non H', rt := Q } [some (.ref a), none, none, none] H := by
  refine ⟨.ref a, rfl, .ref c1, .ref c1, b1, rfl, fun u r => r, k1, .ref a, rfl, .ref c2, .ref c2, b2, rfl, fun u r => r, k2, .ref a, rfl, .ref c3, .ref c3, b3, rfl, fun u r => r, k3, .ref a, rfl, .ref c4, .ref c4, b4, rfl, fun u r => r, k4, by show 5 ≤ sizeLine; decide, fun p hp => ?_⟩
  refine ⟨.ref a, rfl, .ty "ValueError", .type "ValueError", true, rfl, fun u r => r, kV, true, rfl, ?_⟩
  rw [if_pos rfl]
  have e1 := Ex.new (o := HO.lst [V.bl b1, .bl b2, .bl b3, .bl b4, .bl true]) hp
  refine ⟨.ref p, rfl, p, [V.bl b1, .bl b2, .bl b3, .bl b4, .bl true], alF, rfl, upd_same, fun x hx H' => ⟨rfl, rfl, x, rfl, ?_⟩, fun D hD => ?_⟩
  · simp only [List.mem_cons, List.not_mem_nil, or_false] at hx
    rcases hx with rfl | rfl | rfl | rfl | rfl <;> exact .inr ⟨_, rfl, rfl, rfl⟩
  · have e2 := Ex.new (o := HO.lst ([V.bl b1, .bl b2, .bl b3, .bl b4, .bl true].map alF)) hD
    refine ⟨D, [b1, b2, b3, b4, true].map fun b => if b then (1 : Int) else 0, rfl, .inl (.inl upd_same), ?_⟩
    rw [hs]
    have eh : ∀ H : Hp, hid (fun _ => False) H = H := fun H => funext fun x => hid_out fun z => z
    refine so_eq (.int 2) (.int 2) (.bool true) (by rfl) (fun _ => False) _ _ _ (fun x z => z.elim) (.int 2) (.int 2) _ fun v H3 e3 rv => ?_
    cases rv
    refine se_alRet _ _ hx (fun _ => False) _ H3 (fun x z => z.elim) ⟨rfl, fun i d hi => ?_⟩ _ fun v H4 e4 rv => ?_
    · rw [eh]
      match i, hi with
      | 0, hi => cases hi
      | 1, hi =>
        cases hi
        exact ⟨.ref p, rfl, .lst (e3 _ _ (e2 _ _ upd_same)) (.cons (.bl _) (.cons (.bl _) (.cons (.bl _) (.cons (.bl _) (.cons (.bl _) .nil)))))⟩
      | 2, hi => cases hi; exact ⟨.bl true, rfl, .bl true⟩
      | 3, hi => cases hi
      | n + 4, hi => cases hi
    · cases rv
      exact hQ _ (((e1.trans e2).trans e3).trans e4)
end Uv

namespace Uv
open PySem PySem.Spec PyProof.Rows L2
def Tag {α : Type} (x : α) : Type := Unit
def tag {α : Type} (x : α) : Tag x := ()
def wp {α : Type} (o : Option α) {Q : α → Prop} (_ : Tag Q) : Prop := ∃ a, o = some a ∧ Q a
@[simp] theorem wp_some {α : Type} {a : α} {Q : α → Prop} : wp (some a) (tag Q) = Q a := propext ⟨fun ⟨b, e, q⟩ => by cases e; exact q, fun q => ⟨a, rfl, q⟩⟩
@[simp] theorem wp_none {α : Type} {Q : α → Prop} : wp none (tag Q) = False := propext ⟨fun ⟨b, e, q⟩ => (nomatch e), fun q => q.elim⟩
@[simp] theorem wp_bind {α β : Type} {o : Option α} {f : α → Option β} {Q : β → Prop} : wp (o.bind f) (tag Q) = wp o (tag fun a => wp (f a) (tag Q)) := propext (by
  cases o with
  | none => simp
  | some a => simp)
theorem wp_mono {α : Type} {o : Option α} {Q R : α → Prop} (h : wp o (tag Q)) (hq : ∀ a, Q a → R a) : wp o (tag R) := let ⟨a, e, q⟩ := h; ⟨a, e, hq a q⟩
theorem wp_eq {α : Type} {o : Option α} {a : α} : wp o (tag fun x => x = a) ↔ o = some a := ⟨fun ⟨b, e, q⟩ => by rw [e, q], fun e => ⟨a, e, rfl⟩⟩
theorem wp_of {α : Type} {o : Option α} {a : α} {Q : α → Prop} (e : o = some a) (q : Q a) : wp o (tag Q) := ⟨a, e, q⟩
def alt {α : Type} (b : Bool) {x y : Option α} (_ : Tag x) (_ : Tag y) : Option α := if b = true then x else y
@[simp] theorem alt_t {α : Type} {x y : Option α} : alt true (tag x) (tag y) = x := (rfl)
@[simp] theorem alt_f {α : Type} {x y : Option α} : alt false (tag x) (tag y) = y := (rfl)
theorem wp_alt {α : Type} {b : Bool} {x y : Option α} {Q : α → Prop} (h1 : b = true → wp x (tag Q)) (h2 : b = false → wp y (tag Q)) : wp (alt b (tag x) (tag y)) (tag Q) := by cases b; exact h2 rfl; exact h1 rfl
theorem wp_altd {α : Type} {c : Prop} [Decidable c] {x y : Option α} {Q : α → Prop} (h1 : c → wp x (tag Q)) (h2 : ¬ c → wp y (tag Q)) : wp (alt (decide c) (tag x) (tag y)) (tag Q) := wp_alt (fun h => h1 (of_decide_eq_true h)) (fun h => h2 (of_decide_eq_false h))
def orO (b : Bool) (x : Option Bool) : Option Bool := if b = true then some true else x
def andO (b : Bool) (x : Option Bool) : Option Bool := if b = true then x else some false
def andV (b : Bool) (x : Option PD) : Option PD := if b = true then x else some (.bool false)
@[simp] theorem orO_s {b c : Bool} : orO b (some c) = some (b || c) := by cases b <;> rfl
@[simp] theorem andO_s {b c : Bool} : andO b (some c) = some (b && c) := by cases b <;> rfl
@[simp] theorem andV_s {b c : Bool} : andV b (some (.bool c)) = some (.bool (b && c)) := by cases b <;> rfl
@[simp] theorem orO_t {x : Option Bool} : orO true x = some true := (rfl)
@[simp] theorem orO_f {x : Option Bool} : orO false x = x := (rfl)
@[simp] theorem andO_t {x : Option Bool} : andO true x = x := (rfl)
@[simp] theorem andO_f {x : Option Bool} : andO false x = some false := (rfl)
@[simp] theorem andV_t {x : Option PD} : andV true x = x := (rfl)
@[simp] theorem andV_f {x : Option PD} : andV false x = some (.bool false) := (rfl)
noncomputable def grd {α : Type} (c : Prop) (x : Option α) : Option α := open Classical in if c then x else none
theorem grd_ite {α : Type} {c : Prop} [Decidable c] {x : Option α} : (if c then x else none) = grd c x := by
  unfold grd
  by_cases h : c
  · rw [if_pos h, if_pos h]
  · rw [if_neg h, if_neg h]
theorem grd_pos {α : Type} {c : Prop} {x : Option α} (h : c) : grd c x = x := if_pos h
theorem grd_iff {α : Type} {c c' : Prop} {x : Option α} (h : c ↔ c') : grd c x = grd c' x := by rw [propext h]
@[simp] theorem grd_true {α : Type} {x : Option α} : grd True x = x := grd_pos trivial
@[simp] theorem wp_grd {α : Type} {c : Prop} {x : Option α} {Q : α → Prop} : wp (grd c x) (tag Q) = (c ∧ wp x (tag Q)) := by
  by_cases h : c
  · rw [grd_pos h]; simp [h]
  · unfold grd; rw [if_neg h]; simp [h]
@[simp] theorem bind_some' {α β : Type} {x : α} {f : α → Option β} : (some x).bind f = f x := (rfl)
def seqK (y : XS) : Out → Option Out
  | .nxt ρ => y ρ
  | o => some o
@[simp] theorem q_sSeq {x y : XS} {ρ : Env} : sSeq x y ρ = (x ρ).bind (seqK y) := by
  unfold sSeq
  congr 1
@[simp] theorem seqK_nxt {y : XS} {ρ : Env} : seqK y (.nxt ρ) = y ρ := (rfl)
@[simp] theorem seqK_ret {y : XS} {d : PD} {ρ : Env} : seqK y (.ret d ρ) = some (.ret d ρ) := (rfl)
@[simp] theorem seqK_retO {y : XS} {d : List Cel} {ρ : Env} : seqK y (.retO d ρ) = some (.retO d ρ) := (rfl)
@[simp] theorem seqK_brk {y : XS} {ρ : Env} : seqK y (.brk ρ) = some (.brk ρ) := (rfl)
@[simp] theorem seqK_cnt {y : XS} {ρ : Env} : seqK y (.cnt ρ) = some (.cnt ρ) := (rfl)

structure In62 (j : Int) : Prop where
  lo : -(2 ^ 62) ≤ j
  hi : j < 2 ^ 62
structure In63 (j : Int) : Prop where
  lo : -(2 ^ 63) < j
  hi : j < 2 ^ 63
structure In63e (j : Int) : Prop where
  lo : -(2 ^ 63) ≤ j
  hi : j < 2 ^ 63
theorem in63e_nat {n : Nat} (h : n < 1000000000000) : In63e (n : Int) := ⟨by omega, by omega⟩
structure In64 (j : Int) : Prop where
  lo : -(2 ^ 64) < j
  hi : j < 2 ^ 64
theorem in62_nat {n : Nat} (h : n < 1000000000000) : In62 (n : Int) := ⟨by omega, by omega⟩
structure Dvr (j : Int) : Prop where
  lo : 0 < j
  hi : j < 2 ^ 64
@[simp] theorem in62_l0 : In62 0 = True := eq_true ⟨by decide, by decide⟩
@[simp] theorem in63_l0 : In63 0 = True := eq_true ⟨by decide, by decide⟩
@[simp] theorem in63e_l0 : In63e 0 = True := eq_true ⟨by decide, by decide⟩
@[simp] theorem in64_l0 : In64 0 = True := eq_true ⟨by decide, by decide⟩
@[simp] theorem in62_l1 : In62 1 = True := eq_true ⟨by decide, by decide⟩
@[simp] theorem in63_l1 : In63 1 = True := eq_true ⟨by decide, by decide⟩
@[simp] theorem in63e_l1 : In63e 1 = True := eq_true ⟨by decide, by decide⟩
@[simp] theorem in64_l1 : In64 1 = True := eq_true ⟨by decide, by decide⟩
@[simp] theorem dvr_l1 : Dvr 1 = True := eq_true ⟨by decide, by decide⟩
@[simp] theorem in62_l2 : In62 2 = True := eq_true ⟨by decide, by decide⟩
@[simp] theorem in63_l2 : In63 2 = True := eq_true ⟨by decide, by decide⟩
@[simp] theorem in63e_l2 : In63e 2 = True := eq_true ⟨by decide, by decide⟩
@[simp] theorem in64_l2 : In64 2 = True := eq_true ⟨by decide, by decide⟩
@[simp] theorem dvr_l2 : Dvr 2 = True := eq_true ⟨by decide, by decide⟩
@[simp] theorem in62_l3 : In62 3 = True := eq_true ⟨by decide, by decide⟩
@[simp] theorem in63_l3 : In63 3 = True := eq_true ⟨by decide, by decide⟩
@[simp] theorem in63e_l3 : In63e 3 = True := eq_true ⟨by decide, by decide⟩
@[simp] theorem in64_l3 : In64 3 = True := eq_true ⟨by decide, by decide⟩
@[simp] theorem dvr_l3 : Dvr 3 = True := eq_true ⟨by decide, by decide⟩
@[simp] theorem in62_l4 : In62 4 = True := eq_true ⟨by decide, by decide⟩
@[simp] theorem in63_l4 : In63 4 = True := eq_true ⟨by decide, by decide⟩
@[simp] theorem in63e_l4 : In63e 4 = True := eq_true ⟨by decide, by decide⟩
@[simp] theorem in64_l4 : In64 4 = True := eq_true ⟨by decide, by decide⟩
@[simp] theorem dvr_l4 : Dvr 4 = True := eq_true ⟨by decide, by decide⟩
@[simp] theorem in62_l5 : In62 5 = True := eq_true ⟨by decide, by decide⟩
@[simp] theorem in63_l5 : In63 5 = True := eq_true ⟨by decide, by decide⟩
@[simp] theorem in63e_l5 : In63e 5 = True := eq_true ⟨by decide, by decide⟩
@[simp] theorem in64_l5 : In64 5 = True := eq_true ⟨by decide, by decide⟩
@[simp] theorem dvr_l5 : Dvr 5 = True := eq_true ⟨by decide, by decide⟩
@[simp] theorem in62_l6 : In62 6 = True := eq_true ⟨by decide, by decide⟩
@[simp] theorem in63_l6 : In63 6 = True := eq_true ⟨by decide, by decide⟩
@[simp] theorem in63e_l6 : In63e 6 = True := eq_true ⟨by decide, by decide⟩
@[simp] theorem in64_l6 : In64 6 = True := eq_true ⟨by decide, by decide⟩
@[simp] theorem dvr_l6 : Dvr 6 = True := eq_true ⟨by decide, by decide⟩
@[simp] theorem in62_l7 : In62 7 = True := eq_true ⟨by decide, by decide⟩
@[simp] theorem in63_l7 : In63 7 = True := eq_true ⟨by decide, by decide⟩
@[simp] theorem in63e_l7 : In63e 7 = True := eq_true ⟨by decide, by decide⟩
@[simp] theorem in64_l7 : In64 7 = True := eq_true ⟨by decide, by decide⟩
@[simp] theorem dvr_l7 : Dvr 7 = True := eq_true ⟨by decide, by decide⟩
@[simp] theorem in62_l8 : In62 8 = True := eq_true ⟨by decide, by decide⟩
@[simp] theorem in63_l8 : In63 8 = True := eq_true ⟨by decide, by decide⟩
@[simp] theorem in63e_l8 : In63e 8 = True := eq_true ⟨by decide, by decide⟩
@[simp] theorem in64_l8 : In64 8 = True := eq_true ⟨by decide, by decide⟩
@[simp] theorem dvr_l8 : Dvr 8 = True := eq_true ⟨by decide, by decide⟩
@[simp] theorem in62_l9 : In62 9 = True := eq_true ⟨by decide, by decide⟩
@[simp] theorem in63_l9 : In63 9 = True := eq_true ⟨by decide, by decide⟩
@[simp] theorem in63e_l9 : In63e 9 = True := eq_true ⟨by decide, by decide⟩
@[simp] theorem in64_l9 : In64 9 = True := eq_true ⟨by decide, by decide⟩
@[simp] theorem dvr_l9 : Dvr 9 = True := eq_true ⟨by decide, by decide⟩
@[simp] theorem in62_l10 : In62 10 = True := eq_true ⟨by decide, by decide⟩
@[simp] theorem in63_l10 : In63 10 = True := eq_true ⟨by decide, by decide⟩
@[simp] theorem in63e_l10 : In63e 10 = True := eq_true ⟨by decide, by decide⟩
@[simp] theorem in64_l10 : In64 10 = True := eq_true ⟨by decide, by decide⟩
@[simp] theorem dvr_l10 : Dvr 10 = True := eq_true ⟨by decide, by decide⟩
@[simp] theorem in62_l11 : In62 11 = True := eq_true ⟨by decide, by decide⟩
@[simp] theorem in63_l11 : In63 11 = True := eq_true ⟨by decide, by decide⟩
@[simp] theorem in63e_l11 : In63e 11 = True := eq_true ⟨by decide, by decide⟩
@[simp] theorem in64_l11 : In64 11 = True := eq_true ⟨by decide, by decide⟩
@[simp] theorem dvr_l11 : Dvr 11 = True := eq_true ⟨by decide, by decide⟩
@[simp] theorem in62_l12 : In62 12 = True := eq_true ⟨by decide, by decide⟩
@[simp] theorem in63_l12 : In63 12 = True := eq_true ⟨by decide, by decide⟩
@[simp] theorem in63e_l12 : In63e 12 = True := eq_true ⟨by decide, by decide⟩
@[simp] theorem in64_l12 : In64 12 = True := eq_true ⟨by decide, by decide⟩
@[simp] theorem dvr_l12 : Dvr 12 = True := eq_true ⟨by decide, by decide⟩
@[simp] theorem in62_l13 : In62 13 = True := eq_true ⟨by decide, by decide⟩
@[simp] theorem in63_l13 : In63 13 = True := eq_true ⟨by decide, by decide⟩
@[simp] theorem in63e_l13 : In63e 13 = True := eq_true ⟨by decide, by decide⟩
@[simp] theorem in64_l13 : In64 13 = True := eq_true ⟨by decide, by decide⟩
@[simp] theorem dvr_l13 : Dvr 13 = True := eq_true ⟨by decide, by decide⟩
@[simp] theorem in62_l14 : In62 14 = True := eq_true ⟨by decide, by decide⟩
@[simp] theorem in63_l14 : In63 14 = True := eq_true ⟨by decide, by decide⟩
@[simp] theorem in63e_l14 : In63e 14 = True := eq_true ⟨by decide, by decide⟩
@[simp] theorem in64_l14 : In64 14 = True := eq_true ⟨by decide, by decide⟩
@[simp] theorem dvr_l14 : Dvr 14 = True := eq_true ⟨by decide, by decide⟩
@[simp] theorem in62_l15 : In62 15 = True := eq_true ⟨by decide, by decide⟩
@[simp] theorem in63_l15 : In63 15 = True := eq_true ⟨by decide, by decide⟩
@[simp] theorem in63e_l15 : In63e 15 = True := eq_true ⟨by decide, by decide⟩
@[simp] theorem in64_l15 : In64 15 = True := eq_true ⟨by decide, by decide⟩
@[simp] theorem dvr_l15 : Dvr 15 = True := eq_true ⟨by decide, by decide⟩
@[simp] theorem in62_l16 : In62 16 = True := eq_true ⟨by decide, by decide⟩
@[simp] theorem in63_l16 : In63 16 = True := eq_true ⟨by decide, by decide⟩
@[simp] theorem in63e_l16 : In63e 16 = True := eq_true ⟨by decide, by decide⟩
@[simp] theorem in64_l16 : In64 16 = True := eq_true ⟨by decide, by decide⟩
@[simp] theorem dvr_l16 : Dvr 16 = True := eq_true ⟨by decide, by decide⟩
@[simp] theorem in62_l17 : In62 17 = True := eq_true ⟨by decide, by decide⟩
@[simp] theorem in63_l17 : In63 17 = True := eq_true ⟨by decide, by decide⟩
@[simp] theorem in63e_l17 : In63e 17 = True := eq_true ⟨by decide, by decide⟩
@[simp] theorem in64_l17 : In64 17 = True := eq_true ⟨by decide, by decide⟩
@[simp] theorem dvr_l17 : Dvr 17 = True := eq_true ⟨by decide, by decide⟩
@[simp] theorem in62_l18 : In62 18 = True := eq_true ⟨by decide, by decide⟩
@[simp] theorem in63_l18 : In63 18 = True := eq_true ⟨by decide, by decide⟩
@[simp] theorem in63e_l18 : In63e 18 = True := eq_true ⟨by decide, by decide⟩
@[simp] theorem in64_l18 : In64 18 = True := eq_true ⟨by decide, by decide⟩
@[simp] theorem dvr_l18 : Dvr 18 = True := eq_true ⟨by decide, by decide⟩
@[simp] theorem in62_l19 : In62 19 = True := eq_true ⟨by decide, by decide⟩
@[simp] theorem in63_l19 : In63 19 = True := eq_true ⟨by decide, by decide⟩
@[simp] theorem in63e_l19 : In63e 19 = True := eq_true ⟨by decide, by decide⟩
@[simp] theorem in64_l19 : In64 19 = True := eq_true ⟨by decide, by decide⟩
@[simp] theorem dvr_l19 : Dvr 19 = True := eq_true ⟨by decide, by decide⟩
@[simp] theorem in62_l20 : In62 20 = True := eq_true ⟨by decide, by decide⟩
@[simp] theorem in63_l20 : In63 20 = True := eq_true ⟨by decide, by decide⟩
@[simp] theorem in63e_l20 : In63e 20 = True := eq_true ⟨by decide, by decide⟩
@[simp] theorem in64_l20 : In64 20 = True := eq_true ⟨by decide, by decide⟩
@[simp] theorem dvr_l20 : Dvr 20 = True := eq_true ⟨by decide, by decide⟩
@[simp] theorem in62_l21 : In62 21 = True := eq_true ⟨by decide, by decide⟩
@[simp] theorem in63_l21 : In63 21 = True := eq_true ⟨by decide, by decide⟩
@[simp] theorem in63e_l21 : In63e 21 = True := eq_true ⟨by decide, by decide⟩
@[simp] theorem in64_l21 : In64 21 = True := eq_true ⟨by decide, by decide⟩
@[simp] theorem dvr_l21 : Dvr 21 = True := eq_true ⟨by decide, by decide⟩
@[simp] theorem in62_l22 : In62 22 = True := eq_true ⟨by decide, by decide⟩
@[simp] theorem in63_l22 : In63 22 = True := eq_true ⟨by decide, by decide⟩
@[simp] theorem in63e_l22 : In63e 22 = True := eq_true ⟨by decide, by decide⟩
@[simp] theorem in64_l22 : In64 22 = True := eq_true ⟨by decide, by decide⟩
@[simp] theorem dvr_l22 : Dvr 22 = True := eq_true ⟨by decide, by decide⟩
@[simp] theorem in62_l23 : In62 23 = True := eq_true ⟨by decide, by decide⟩
@[simp] theorem in63_l23 : In63 23 = True := eq_true ⟨by decide, by decide⟩
@[simp] theorem in63e_l23 : In63e 23 = True := eq_true ⟨by decide, by decide⟩
@[simp] theorem in64_l23 : In64 23 = True := eq_true ⟨by decide, by decide⟩
@[simp] theorem dvr_l23 : Dvr 23 = True := eq_true ⟨by decide, by decide⟩
@[simp] theorem in62_l24 : In62 24 = True := eq_true ⟨by decide, by decide⟩
@[simp] theorem in63_l24 : In63 24 = True := eq_true ⟨by decide, by decide⟩
@[simp] theorem in63e_l24 : In63e 24 = True := eq_true ⟨by decide, by decide⟩
@[simp] theorem in64_l24 : In64 24 = True := eq_true ⟨by decide, by decide⟩
@[simp] theorem dvr_l24 : Dvr 24 = True := eq_true ⟨by decide, by decide⟩
@[simp] theorem in62_l25 : In62 25 = True := eq_true ⟨by decide, by decide⟩
@[simp] theorem in63_l25 : In63 25 = True := eq_true ⟨by decide, by decide⟩
@[simp] theorem in63e_l25 : In63e 25 = True := eq_true ⟨by decide, by decide⟩
@[simp] theorem in64_l25 : In64 25 = True := eq_true ⟨by decide, by decide⟩
@[simp] theorem dvr_l25 : Dvr 25 = True := eq_true ⟨by decide, by decide⟩
@[simp] theorem in62_l26 : In62 26 = True := eq_true ⟨by decide, by decide⟩
@[simp] theorem in63_l26 : In63 26 = True := eq_true ⟨by decide, by decide⟩
@[simp] theorem in63e_l26 : In63e 26 = True := eq_true ⟨by decide, by decide⟩
@[simp] theorem in64_l26 : In64 26 = True := eq_true ⟨by decide, by decide⟩
@[simp] theorem dvr_l26 : Dvr 26 = True := eq_true ⟨by decide, by decide⟩
@[simp] theorem in62_l27 : In62 27 = True := eq_true ⟨by decide, by decide⟩
@[simp] theorem in63_l27 : In63 27 = True := eq_true ⟨by decide, by decide⟩
@[simp] theorem in63e_l27 : In63e 27 = True := eq_true ⟨by decide, by decide⟩
@[simp] theorem in64_l27 : In64 27 = True := eq_true ⟨by decide, by decide⟩
@[simp] theorem dvr_l27 : Dvr 27 = True := eq_true ⟨by decide, by decide⟩
@[simp] theorem in62_l28 : In62 28 = True := eq_true ⟨by decide, by decide⟩
@[simp] theorem in63_l28 : In63 28 = True := eq_true ⟨by decide, by decide⟩
@[simp] theorem in63e_l28 : In63e 28 = True := eq_true ⟨by decide, by decide⟩
@[simp] theorem in64_l28 : In64 28 = True := eq_true ⟨by decide, by decide⟩
@[simp] theorem dvr_l28 : Dvr 28 = True := eq_true ⟨by decide, by decide⟩
@[simp] theorem in62_l29 : In62 29 = True := eq_true ⟨by decide, by decide⟩
@[simp] theorem in63_l29 : In63 29 = True := eq_true ⟨by decide, by decide⟩
@[simp] theorem in63e_l29 : In63e 29 = True := eq_true ⟨by decide, by decide⟩
@[simp] theorem in64_l29 : In64 29 = True := eq_true ⟨by decide, by decide⟩
@[simp] theorem dvr_l29 : Dvr 29 = True := eq_true ⟨by decide, by decide⟩
@[simp] theorem in62_l30 : In62 30 = True := eq_true ⟨by decide, by decide⟩
@[simp] theorem in63_l30 : In63 30 = True := eq_true ⟨by decide, by decide⟩
@[simp] theorem in63e_l30 : In63e 30 = True := eq_true ⟨by decide, by decide⟩
@[simp] theorem in64_l30 : In64 30 = True := eq_true ⟨by decide, by decide⟩
@[simp] theorem dvr_l30 : Dvr 30 = True := eq_true ⟨by decide, by decide⟩
@[simp] theorem in62_l31 : In62 31 = True := eq_true ⟨by decide, by decide⟩
@[simp] theorem in63_l31 : In63 31 = True := eq_true ⟨by decide, by decide⟩
@[simp] theorem in63e_l31 : In63e 31 = True := eq_true ⟨by decide, by decide⟩
@[simp] theorem in64_l31 : In64 31 = True := eq_true ⟨by decide, by decide⟩
@[simp] theorem dvr_l31 : Dvr 31 = True := eq_true ⟨by decide, by decide⟩
@[simp] theorem in62_l32 : In62 32 = True := eq_true ⟨by decide, by decide⟩
@[simp] theorem in63_l32 : In63 32 = True := eq_true ⟨by decide, by decide⟩
@[simp] theorem in63e_l32 : In63e 32 = True := eq_true ⟨by decide, by decide⟩
@[simp] theorem in64_l32 : In64 32 = True := eq_true ⟨by decide, by decide⟩
@[simp] theorem dvr_l32 : Dvr 32 = True := eq_true ⟨by decide, by decide⟩
@[simp] theorem in62_l33 : In62 33 = True := eq_true ⟨by decide, by decide⟩
@[simp] theorem in63_l33 : In63 33 = True := eq_true ⟨by decide, by decide⟩
@[simp] theorem in63e_l33 : In63e 33 = True := eq_true ⟨by decide, by decide⟩
@[simp] theorem in64_l33 : In64 33 = True := eq_true ⟨by decide, by decide⟩
@[simp] theorem dvr_l33 : Dvr 33 = True := eq_true ⟨by decide, by decide⟩
@[simp] theorem in62_l34 : In62 34 = True := eq_true ⟨by decide, by decide⟩
@[simp] theorem in63_l34 : In63 34 = True := eq_true ⟨by decide, by decide⟩
@[simp] theorem in63e_l34 : In63e 34 = True := eq_true ⟨by decide, by decide⟩
@[simp] theorem in64_l34 : In64 34 = True := eq_true ⟨by decide, by decide⟩
@[simp] theorem dvr_l34 : Dvr 34 = True := eq_true ⟨by decide, by decide⟩
@[simp] theorem in62_l35 : In62 35 = True := eq_true ⟨by decide, by decide⟩
@[simp] theorem in63_l35 : In63 35 = True := eq_true ⟨by decide, by decide⟩
@[simp] theorem in63e_l35 : In63e 35 = True := eq_true ⟨by decide, by decide⟩
@[simp] theorem in64_l35 : In64 35 = True := eq_true ⟨by decide, by decide⟩
@[simp] theorem dvr_l35 : Dvr 35 = True := eq_true ⟨by decide, by decide⟩
@[simp] theorem in62_l36 : In62 36 = True := eq_true ⟨by decide, by decide⟩
@[simp] theorem in63_l36 : In63 36 = True := eq_true ⟨by decide, by decide⟩
@[simp] theorem in63e_l36 : In63e 36 = True := eq_true ⟨by decide, by decide⟩
@[simp] theorem in64_l36 : In64 36 = True := eq_true ⟨by decide, by decide⟩
@[simp] theorem dvr_l36 : Dvr 36 = True := eq_true ⟨by decide, by decide⟩
@[simp] theorem in62_l37 : In62 37 = True := eq_true ⟨by decide, by decide⟩
@[simp] theorem in63_l37 : In63 37 = True := eq_true ⟨by decide, by decide⟩
@[simp] theorem in63e_l37 : In63e 37 = True := eq_true ⟨by decide, by decide⟩
@[simp] theorem in64_l37 : In64 37 = True := eq_true ⟨by decide, by decide⟩
@[simp] theorem dvr_l37 : Dvr 37 = True := eq_true ⟨by decide, by decide⟩
@[simp] theorem in62_l38 : In62 38 = True := eq_true ⟨by decide, by decide⟩
@[simp] theorem in63_l38 : In63 38 = True := eq_true ⟨by decide, by decide⟩
@[simp] theorem in63e_l38 : In63e 38 = True := eq_true ⟨by decide, by decide⟩
@[simp] theorem in64_l38 : In64 38 = True := eq_true ⟨by decide, by decide⟩
@[simp] theorem dvr_l38 : Dvr 38 = True := eq_true ⟨by decide, by decide⟩
@[simp] theorem in62_l39 : In62 39 = True := eq_true ⟨by decide, by decide⟩
@[simp] theorem in63_l39 : In63 39 = True := eq_true ⟨by decide, by decide⟩
@[simp] theorem in63e_l39 : In63e 39 = True := eq_true ⟨by decide, by decide⟩
@[simp] theorem in64_l39 : In64 39 = True := eq_true ⟨by decide, by decide⟩
@[simp] theorem dvr_l39 : Dvr 39 = True := eq_true ⟨by decide, by decide⟩
@[simp] theorem in62_l40 : In62 40 = True := eq_true ⟨by decide, by decide⟩
@[simp] theorem in63_l40 : In63 40 = True := eq_true ⟨by decide, by decide⟩
@[simp] theorem in63e_l40 : In63e 40 = True := eq_true ⟨by decide, by decide⟩
@[simp] theorem in64_l40 : In64 40 = True := eq_true ⟨by decide, by decide⟩
@[simp] theorem dvr_l40 : Dvr 40 = True := eq_true ⟨by decide, by decide⟩
@[simp] theorem in62_l41 : In62 41 = True := eq_true ⟨by decide, by decide⟩
@[simp] theorem in63_l41 : In63 41 = True := eq_true ⟨by decide, by decide⟩
@[simp] theorem in63e_l41 : In63e 41 = True := eq_true ⟨by decide, by decide⟩
@[simp] theorem in64_l41 : In64 41 = True := eq_true ⟨by decide, by decide⟩
@[simp] theorem dvr_l41 : Dvr 41 = True := eq_true ⟨by decide, by decide⟩
@[simp] theorem in62_l42 : In62 42 = True := eq_true ⟨by decide, by decide⟩
@[simp] theorem in63_l42 : In63 42 = True := eq_true ⟨by decide, by decide⟩
@[simp] theorem in63e_l42 : In63e 42 = True := eq_true ⟨by decide, by decide⟩
@[simp] theorem in64_l42 : In64 42 = True := eq_true ⟨by decide, by decide⟩
@[simp] theorem dvr_l42 : Dvr 42 = True := eq_true ⟨by decide, by decide⟩
@[simp] theorem in62_l43 : In62 43 = True := eq_true ⟨by decide, by decide⟩
@[simp] theorem in63_l43 : In63 43 = True := eq_true ⟨by decide, by decide⟩
@[simp] theorem in63e_l43 : In63e 43 = True := eq_true ⟨by decide, by decide⟩
@[simp] theorem in64_l43 : In64 43 = True := eq_true ⟨by decide, by decide⟩
@[simp] theorem dvr_l43 : Dvr 43 = True := eq_true ⟨by decide, by decide⟩
@[simp] theorem in62_l44 : In62 44 = True := eq_true ⟨by decide, by decide⟩
@[simp] theorem in63_l44 : In63 44 = True := eq_true ⟨by decide, by decide⟩
@[simp] theorem in63e_l44 : In63e 44 = True := eq_true ⟨by decide, by decide⟩
@[simp] theorem in64_l44 : In64 44 = True := eq_true ⟨by decide, by decide⟩
@[simp] theorem dvr_l44 : Dvr 44 = True := eq_true ⟨by decide, by decide⟩
@[simp] theorem in62_l45 : In62 45 = True := eq_true ⟨by decide, by decide⟩
@[simp] theorem in63_l45 : In63 45 = True := eq_true ⟨by decide, by decide⟩
@[simp] theorem in63e_l45 : In63e 45 = True := eq_true ⟨by decide, by decide⟩
@[simp] theorem in64_l45 : In64 45 = True := eq_true ⟨by decide, by decide⟩
@[simp] theorem dvr_l45 : Dvr 45 = True := eq_true ⟨by decide, by decide⟩
@[simp] theorem in62_l46 : In62 46 = True := eq_true ⟨by decide, by decide⟩
@[simp] theorem in63_l46 : In63 46 = True := eq_true ⟨by decide, by decide⟩
@[simp] theorem in63e_l46 : In63e 46 = True := eq_true ⟨by decide, by decide⟩
@[simp] theorem in64_l46 : In64 46 = True := eq_true ⟨by decide, by decide⟩
@[simp] theorem dvr_l46 : Dvr 46 = True := eq_true ⟨by decide, by decide⟩
@[simp] theorem in62_l47 : In62 47 = True := eq_true ⟨by decide, by decide⟩
@[simp] theorem in63_l47 : In63 47 = True := eq_true ⟨by decide, by decide⟩
@[simp] theorem in63e_l47 : In63e 47 = True := eq_true ⟨by decide, by decide⟩
@[simp] theorem in64_l47 : In64 47 = True := eq_true ⟨by decide, by decide⟩
@[simp] theorem dvr_l47 : Dvr 47 = True := eq_true ⟨by decide, by decide⟩
@[simp] theorem in62_l48 : In62 48 = True := eq_true ⟨by decide, by decide⟩
@[simp] theorem in63_l48 : In63 48 = True := eq_true ⟨by decide, by decide⟩
@[simp] theorem in63e_l48 : In63e 48 = True := eq_true ⟨by decide, by decide⟩
@[simp] theorem in64_l48 : In64 48 = True := eq_true ⟨by decide, by decide⟩
@[simp] theorem dvr_l48 : Dvr 48 = True := eq_true ⟨by decide, by decide⟩
@[simp] theorem in62_l49 : In62 49 = True := eq_true ⟨by decide, by decide⟩
@[simp] theorem in63_l49 : In63 49 = True := eq_true ⟨by decide, by decide⟩
@[simp] theorem in63e_l49 : In63e 49 = True := eq_true ⟨by decide, by decide⟩
@[simp] theorem in64_l49 : In64 49 = True := eq_true ⟨by decide, by decide⟩
@[simp] theorem dvr_l49 : Dvr 49 = True := eq_true ⟨by decide, by decide⟩
@[simp] theorem in62_l50 : In62 50 = True := eq_true ⟨by decide, by decide⟩
@[simp] theorem in63_l50 : In63 50 = True := eq_true ⟨by decide, by decide⟩
@[simp] theorem in63e_l50 : In63e 50 = True := eq_true ⟨by decide, by decide⟩
@[simp] theorem in64_l50 : In64 50 = True := eq_true ⟨by decide, by decide⟩
@[simp] theorem dvr_l50 : Dvr 50 = True := eq_true ⟨by decide, by decide⟩
@[simp] theorem in62_l51 : In62 51 = True := eq_true ⟨by decide, by decide⟩
@[simp] theorem in63_l51 : In63 51 = True := eq_true ⟨by decide, by decide⟩
@[simp] theorem in63e_l51 : In63e 51 = True := eq_true ⟨by decide, by decide⟩
@[simp] theorem in64_l51 : In64 51 = True := eq_true ⟨by decide, by decide⟩
@[simp] theorem dvr_l51 : Dvr 51 = True := eq_true ⟨by decide, by decide⟩
@[simp] theorem in62_l52 : In62 52 = True := eq_true ⟨by decide, by decide⟩
@[simp] theorem in63_l52 : In63 52 = True := eq_true ⟨by decide, by decide⟩
@[simp] theorem in63e_l52 : In63e 52 = True := eq_true ⟨by decide, by decide⟩
@[simp] theorem in64_l52 : In64 52 = True := eq_true ⟨by decide, by decide⟩
@[simp] theorem dvr_l52 : Dvr 52 = True := eq_true ⟨by decide, by decide⟩
@[simp] theorem in62_l53 : In62 53 = True := eq_true ⟨by decide, by decide⟩
@[simp] theorem in63_l53 : In63 53 = True := eq_true ⟨by decide, by decide⟩
@[simp] theorem in63e_l53 : In63e 53 = True := eq_true ⟨by decide, by decide⟩
@[simp] theorem in64_l53 : In64 53 = True := eq_true ⟨by decide, by decide⟩
@[simp] theorem dvr_l53 : Dvr 53 = True := eq_true ⟨by decide, by decide⟩
@[simp] theorem in62_l54 : In62 54 = True := eq_true ⟨by decide, by decide⟩
@[simp] theorem in63_l54 : In63 54 = True := eq_true ⟨by decide, by decide⟩
@[simp] theorem in63e_l54 : In63e 54 = True := eq_true ⟨by decide, by decide⟩
@[simp] theorem in64_l54 : In64 54 = True := eq_true ⟨by decide, by decide⟩
@[simp] theorem dvr_l54 : Dvr 54 = True := eq_true ⟨by decide, by decide⟩
@[simp] theorem in62_l55 : In62 55 = True := eq_true ⟨by decide, by decide⟩
@[simp] theorem in63_l55 : In63 55 = True := eq_true ⟨by decide, by decide⟩
@[simp] theorem in63e_l55 : In63e 55 = True := eq_true ⟨by decide, by decide⟩
@[simp] theorem in64_l55 : In64 55 = True := eq_true ⟨by decide, by decide⟩
@[simp] theorem dvr_l55 : Dvr 55 = True := eq_true ⟨by decide, by decide⟩
@[simp] theorem in62_l56 : In62 56 = True := eq_true ⟨by decide, by decide⟩
@[simp] theorem in63_l56 : In63 56 = True := eq_true ⟨by decide, by decide⟩
@[simp] theorem in63e_l56 : In63e 56 = True := eq_true ⟨by decide, by decide⟩
@[simp] theorem in64_l56 : In64 56 = True := eq_true ⟨by decide, by decide⟩
@[simp] theorem dvr_l56 : Dvr 56 = True := eq_true ⟨by decide, by decide⟩
@[simp] theorem in62_l57 : In62 57 = True := eq_true ⟨by decide, by decide⟩
@[simp] theorem in63_l57 : In63 57 = True := eq_true ⟨by decide, by decide⟩
@[simp] theorem in63e_l57 : In63e 57 = True := eq_true ⟨by decide, by decide⟩
@[simp] theorem in64_l57 : In64 57 = True := eq_true ⟨by decide, by decide⟩
@[simp] theorem dvr_l57 : Dvr 57 = True := eq_true ⟨by decide, by decide⟩
@[simp] theorem in62_l58 : In62 58 = True := eq_true ⟨by decide, by decide⟩
@[simp] theorem in63_l58 : In63 58 = True := eq_true ⟨by decide, by decide⟩
@[simp] theorem in63e_l58 : In63e 58 = True := eq_true ⟨by decide, by decide⟩
@[simp] theorem in64_l58 : In64 58 = True := eq_true ⟨by decide, by decide⟩
@[simp] theorem dvr_l58 : Dvr 58 = True := eq_true ⟨by decide, by decide⟩
@[simp] theorem in62_l59 : In62 59 = True := eq_true ⟨by decide, by decide⟩
@[simp] theorem in63_l59 : In63 59 = True := eq_true ⟨by decide, by decide⟩
@[simp] theorem in63e_l59 : In63e 59 = True := eq_true ⟨by decide, by decide⟩
@[simp] theorem in64_l59 : In64 59 = True := eq_true ⟨by decide, by decide⟩
@[simp] theorem dvr_l59 : Dvr 59 = True := eq_true ⟨by decide, by decide⟩
@[simp] theorem in62_l60 : In62 60 = True := eq_true ⟨by decide, by decide⟩
@[simp] theorem in63_l60 : In63 60 = True := eq_true ⟨by decide, by decide⟩
@[simp] theorem in63e_l60 : In63e 60 = True := eq_true ⟨by decide, by decide⟩
@[simp] theorem in64_l60 : In64 60 = True := eq_true ⟨by decide, by decide⟩
@[simp] theorem dvr_l60 : Dvr 60 = True := eq_true ⟨by decide, by decide⟩
@[simp] theorem in62_l61 : In62 61 = True := eq_true ⟨by decide, by decide⟩
@[simp] theorem in63_l61 : In63 61 = True := eq_true ⟨by decide, by decide⟩
@[simp] theorem in63e_l61 : In63e 61 = True := eq_true ⟨by decide, by decide⟩
@[simp] theorem in64_l61 : In64 61 = True := eq_true ⟨by decide, by decide⟩
@[simp] theorem dvr_l61 : Dvr 61 = True := eq_true ⟨by decide, by decide⟩
@[simp] theorem in62_l62 : In62 62 = True := eq_true ⟨by decide, by decide⟩
@[simp] theorem in63_l62 : In63 62 = True := eq_true ⟨by decide, by decide⟩
@[simp] theorem in63e_l62 : In63e 62 = True := eq_true ⟨by decide, by decide⟩
@[simp] theorem in64_l62 : In64 62 = True := eq_true ⟨by decide, by decide⟩
@[simp] theorem dvr_l62 : Dvr 62 = True := eq_true ⟨by decide, by decide⟩
@[simp] theorem in62_l63 : In62 63 = True := eq_true ⟨by decide, by decide⟩
@[simp] theorem in63_l63 : In63 63 = True := eq_true ⟨by decide, by decide⟩
@[simp] theorem in63e_l63 : In63e 63 = True := eq_true ⟨by decide, by decide⟩
@[simp] theorem in64_l63 : In64 63 = True := eq_true ⟨by decide, by decide⟩
@[simp] theorem dvr_l63 : Dvr 63 = True := eq_true ⟨by decide, by decide⟩
@[simp] theorem in62_l64 : In62 64 = True := eq_true ⟨by decide, by decide⟩
@[simp] theorem in63_l64 : In63 64 = True := eq_true ⟨by decide, by decide⟩
@[simp] theorem in63e_l64 : In63e 64 = True := eq_true ⟨by decide, by decide⟩
@[simp] theorem in64_l64 : In64 64 = True := eq_true ⟨by decide, by decide⟩
@[simp] theorem dvr_l64 : Dvr 64 = True := eq_true ⟨by decide, by decide⟩
@[simp] theorem in62_l70 : In62 70 = True := eq_true ⟨by decide, by decide⟩
@[simp] theorem in63_l70 : In63 70 = True := eq_true ⟨by decide, by decide⟩
@[simp] theorem in63e_l70 : In63e 70 = True := eq_true ⟨by decide, by decide⟩
@[simp] theorem in64_l70 : In64 70 = True := eq_true ⟨by decide, by decide⟩
@[simp] theorem dvr_l70 : Dvr 70 = True := eq_true ⟨by decide, by decide⟩
@[simp] theorem in62_l200 : In62 200 = True := eq_true ⟨by decide, by decide⟩
@[simp] theorem in63_l200 : In63 200 = True := eq_true ⟨by decide, by decide⟩
@[simp] theorem in63e_l200 : In63e 200 = True := eq_true ⟨by decide, by decide⟩
@[simp] theorem in64_l200 : In64 200 = True := eq_true ⟨by decide, by decide⟩
@[simp] theorem dvr_l200 : Dvr 200 = True := eq_true ⟨by decide, by decide⟩
@[simp] theorem in62_l300 : In62 300 = True := eq_true ⟨by decide, by decide⟩
@[simp] theorem in63_l300 : In63 300 = True := eq_true ⟨by decide, by decide⟩
@[simp] theorem in63e_l300 : In63e 300 = True := eq_true ⟨by decide, by decide⟩
@[simp] theorem in64_l300 : In64 300 = True := eq_true ⟨by decide, by decide⟩
@[simp] theorem dvr_l300 : Dvr 300 = True := eq_true ⟨by decide, by decide⟩
@[simp] theorem in62_l400 : In62 400 = True := eq_true ⟨by decide, by decide⟩
@[simp] theorem in63_l400 : In63 400 = True := eq_true ⟨by decide, by decide⟩
@[simp] theorem in63e_l400 : In63e 400 = True := eq_true ⟨by decide, by decide⟩
@[simp] theorem in64_l400 : In64 400 = True := eq_true ⟨by decide, by decide⟩
@[simp] theorem dvr_l400 : Dvr 400 = True := eq_true ⟨by decide, by decide⟩
@[simp] theorem in62_l600 : In62 600 = True := eq_true ⟨by decide, by decide⟩
@[simp] theorem in63_l600 : In63 600 = True := eq_true ⟨by decide, by decide⟩
@[simp] theorem in63e_l600 : In63e 600 = True := eq_true ⟨by decide, by decide⟩
@[simp] theorem in64_l600 : In64 600 = True := eq_true ⟨by decide, by decide⟩
@[simp] theorem dvr_l600 : Dvr 600 = True := eq_true ⟨by decide, by decide⟩
@[simp] theorem in62_l700 : In62 700 = True := eq_true ⟨by decide, by decide⟩
@[simp] theorem in63_l700 : In63 700 = True := eq_true ⟨by decide, by decide⟩
@[simp] theorem in63e_l700 : In63e 700 = True := eq_true ⟨by decide, by decide⟩
@[simp] theorem in64_l700 : In64 700 = True := eq_true ⟨by decide, by decide⟩
@[simp] theorem dvr_l700 : Dvr 700 = True := eq_true ⟨by decide, by decide⟩
@[simp] theorem in62_l729 : In62 729 = True := eq_true ⟨by decide, by decide⟩
@[simp] theorem in63_l729 : In63 729 = True := eq_true ⟨by decide, by decide⟩
@[simp] theorem in63e_l729 : In63e 729 = True := eq_true ⟨by decide, by decide⟩
@[simp] theorem in64_l729 : In64 729 = True := eq_true ⟨by decide, by decide⟩
@[simp] theorem dvr_l729 : Dvr 729 = True := eq_true ⟨by decide, by decide⟩
@[simp] theorem in62_l924 : In62 924 = True := eq_true ⟨by decide, by decide⟩
@[simp] theorem in63_l924 : In63 924 = True := eq_true ⟨by decide, by decide⟩
@[simp] theorem in63e_l924 : In63e 924 = True := eq_true ⟨by decide, by decide⟩
@[simp] theorem in64_l924 : In64 924 = True := eq_true ⟨by decide, by decide⟩
@[simp] theorem dvr_l924 : Dvr 924 = True := eq_true ⟨by decide, by decide⟩
@[simp] theorem in62_l1000 : In62 1000 = True := eq_true ⟨by decide, by decide⟩
@[simp] theorem in63_l1000 : In63 1000 = True := eq_true ⟨by decide, by decide⟩
@[simp] theorem in63e_l1000 : In63e 1000 = True := eq_true ⟨by decide, by decide⟩
@[simp] theorem in64_l1000 : In64 1000 = True := eq_true ⟨by decide, by decide⟩
@[simp] theorem dvr_l1000 : Dvr 1000 = True := eq_true ⟨by decide, by decide⟩
@[simp] theorem in62_l3000 : In62 3000 = True := eq_true ⟨by decide, by decide⟩
@[simp] theorem in63_l3000 : In63 3000 = True := eq_true ⟨by decide, by decide⟩
@[simp] theorem in63e_l3000 : In63e 3000 = True := eq_true ⟨by decide, by decide⟩
@[simp] theorem in64_l3000 : In64 3000 = True := eq_true ⟨by decide, by decide⟩
@[simp] theorem dvr_l3000 : Dvr 3000 = True := eq_true ⟨by decide, by decide⟩
@[simp] theorem in62_l4096 : In62 4096 = True := eq_true ⟨by decide, by decide⟩
@[simp] theorem in63_l4096 : In63 4096 = True := eq_true ⟨by decide, by decide⟩
@[simp] theorem in63e_l4096 : In63e 4096 = True := eq_true ⟨by decide, by decide⟩
@[simp] theorem in64_l4096 : In64 4096 = True := eq_true ⟨by decide, by decide⟩
@[simp] theorem dvr_l4096 : Dvr 4096 = True := eq_true ⟨by decide, by decide⟩
@[simp] theorem in62_l7919 : In62 7919 = True := eq_true ⟨by decide, by decide⟩
@[simp] theorem in63_l7919 : In63 7919 = True := eq_true ⟨by decide, by decide⟩
@[simp] theorem in63e_l7919 : In63e 7919 = True := eq_true ⟨by decide, by decide⟩
@[simp] theorem in64_l7919 : In64 7919 = True := eq_true ⟨by decide, by decide⟩
@[simp] theorem dvr_l7919 : Dvr 7919 = True := eq_true ⟨by decide, by decide⟩
@[simp] theorem in62_l10007 : In62 10007 = True := eq_true ⟨by decide, by decide⟩
@[simp] theorem in63_l10007 : In63 10007 = True := eq_true ⟨by decide, by decide⟩
@[simp] theorem in63e_l10007 : In63e 10007 = True := eq_true ⟨by decide, by decide⟩
@[simp] theorem in64_l10007 : In64 10007 = True := eq_true ⟨by decide, by decide⟩
@[simp] theorem dvr_l10007 : Dvr 10007 = True := eq_true ⟨by decide, by decide⟩
@[simp] theorem in62_l30011 : In62 30011 = True := eq_true ⟨by decide, by decide⟩
@[simp] theorem in63_l30011 : In63 30011 = True := eq_true ⟨by decide, by decide⟩
@[simp] theorem in63e_l30011 : In63e 30011 = True := eq_true ⟨by decide, by decide⟩
@[simp] theorem in64_l30011 : In64 30011 = True := eq_true ⟨by decide, by decide⟩
@[simp] theorem dvr_l30011 : Dvr 30011 = True := eq_true ⟨by decide, by decide⟩
@[simp] theorem in62_l40503 : In62 40503 = True := eq_true ⟨by decide, by decide⟩
@[simp] theorem in63_l40503 : In63 40503 = True := eq_true ⟨by decide, by decide⟩
@[simp] theorem in63e_l40503 : In63e 40503 = True := eq_true ⟨by decide, by decide⟩
@[simp] theorem in64_l40503 : In64 40503 = True := eq_true ⟨by decide, by decide⟩
@[simp] theorem dvr_l40503 : Dvr 40503 = True := eq_true ⟨by decide, by decide⟩
@[simp] theorem in62_l40692 : In62 40692 = True := eq_true ⟨by decide, by decide⟩
@[simp] theorem in63_l40692 : In63 40692 = True := eq_true ⟨by decide, by decide⟩
@[simp] theorem in63e_l40692 : In63e 40692 = True := eq_true ⟨by decide, by decide⟩
@[simp] theorem in64_l40692 : In64 40692 = True := eq_true ⟨by decide, by decide⟩
@[simp] theorem dvr_l40692 : Dvr 40692 = True := eq_true ⟨by decide, by decide⟩
@[simp] theorem in62_l48271 : In62 48271 = True := eq_true ⟨by decide, by decide⟩
@[simp] theorem in63_l48271 : In63 48271 = True := eq_true ⟨by decide, by decide⟩
@[simp] theorem in63e_l48271 : In63e 48271 = True := eq_true ⟨by decide, by decide⟩
@[simp] theorem in64_l48271 : In64 48271 = True := eq_true ⟨by decide, by decide⟩
@[simp] theorem dvr_l48271 : Dvr 48271 = True := eq_true ⟨by decide, by decide⟩
@[simp] theorem in62_l69621 : In62 69621 = True := eq_true ⟨by decide, by decide⟩
@[simp] theorem in63_l69621 : In63 69621 = True := eq_true ⟨by decide, by decide⟩
@[simp] theorem in63e_l69621 : In63e 69621 = True := eq_true ⟨by decide, by decide⟩
@[simp] theorem in64_l69621 : In64 69621 = True := eq_true ⟨by decide, by decide⟩
@[simp] theorem dvr_l69621 : Dvr 69621 = True := eq_true ⟨by decide, by decide⟩
@[simp] theorem in62_l1000000 : In62 1000000 = True := eq_true ⟨by decide, by decide⟩
@[simp] theorem in63_l1000000 : In63 1000000 = True := eq_true ⟨by decide, by decide⟩
@[simp] theorem in63e_l1000000 : In63e 1000000 = True := eq_true ⟨by decide, by decide⟩
@[simp] theorem in64_l1000000 : In64 1000000 = True := eq_true ⟨by decide, by decide⟩
@[simp] theorem dvr_l1000000 : Dvr 1000000 = True := eq_true ⟨by decide, by decide⟩
@[simp] theorem in62_l1000003 : In62 1000003 = True := eq_true ⟨by decide, by decide⟩
@[simp] theorem in63_l1000003 : In63 1000003 = True := eq_true ⟨by decide, by decide⟩
@[simp] theorem in63e_l1000003 : In63e 1000003 = True := eq_true ⟨by decide, by decide⟩
@[simp] theorem in64_l1000003 : In64 1000003 = True := eq_true ⟨by decide, by decide⟩
@[simp] theorem dvr_l1000003 : Dvr 1000003 = True := eq_true ⟨by decide, by decide⟩
@[simp] theorem in62_l2147483587 : In62 2147483587 = True := eq_true ⟨by decide, by decide⟩
@[simp] theorem in63_l2147483587 : In63 2147483587 = True := eq_true ⟨by decide, by decide⟩
@[simp] theorem in63e_l2147483587 : In63e 2147483587 = True := eq_true ⟨by decide, by decide⟩
@[simp] theorem in64_l2147483587 : In64 2147483587 = True := eq_true ⟨by decide, by decide⟩
@[simp] theorem dvr_l2147483587 : Dvr 2147483587 = True := eq_true ⟨by decide, by decide⟩
@[simp] theorem in62_l2147483629 : In62 2147483629 = True := eq_true ⟨by decide, by decide⟩
@[simp] theorem in63_l2147483629 : In63 2147483629 = True := eq_true ⟨by decide, by decide⟩
@[simp] theorem in63e_l2147483629 : In63e 2147483629 = True := eq_true ⟨by decide, by decide⟩
@[simp] theorem in64_l2147483629 : In64 2147483629 = True := eq_true ⟨by decide, by decide⟩
@[simp] theorem dvr_l2147483629 : Dvr 2147483629 = True := eq_true ⟨by decide, by decide⟩
@[simp] theorem in62_l2147483647 : In62 2147483647 = True := eq_true ⟨by decide, by decide⟩
@[simp] theorem in63_l2147483647 : In63 2147483647 = True := eq_true ⟨by decide, by decide⟩
@[simp] theorem in63e_l2147483647 : In63e 2147483647 = True := eq_true ⟨by decide, by decide⟩
@[simp] theorem in64_l2147483647 : In64 2147483647 = True := eq_true ⟨by decide, by decide⟩
@[simp] theorem dvr_l2147483647 : Dvr 2147483647 = True := eq_true ⟨by decide, by decide⟩
@[simp] theorem in62_l100000000000 : In62 100000000000 = True := eq_true ⟨by decide, by decide⟩
@[simp] theorem in63_l100000000000 : In63 100000000000 = True := eq_true ⟨by decide, by decide⟩
@[simp] theorem in63e_l100000000000 : In63e 100000000000 = True := eq_true ⟨by decide, by decide⟩
@[simp] theorem in64_l100000000000 : In64 100000000000 = True := eq_true ⟨by decide, by decide⟩
@[simp] theorem dvr_l100000000000 : Dvr 100000000000 = True := eq_true ⟨by decide, by decide⟩
@[simp] theorem in62_l1000000000000 : In62 1000000000000 = True := eq_true ⟨by decide, by decide⟩
@[simp] theorem in63_l1000000000000 : In63 1000000000000 = True := eq_true ⟨by decide, by decide⟩
@[simp] theorem in63e_l1000000000000 : In63e 1000000000000 = True := eq_true ⟨by decide, by decide⟩
@[simp] theorem in64_l1000000000000 : In64 1000000000000 = True := eq_true ⟨by decide, by decide⟩
@[simp] theorem dvr_l1000000000000 : Dvr 1000000000000 = True := eq_true ⟨by decide, by decide⟩
@[simp] theorem in62_l10000000000000 : In62 10000000000000 = True := eq_true ⟨by decide, by decide⟩
@[simp] theorem in63_l10000000000000 : In63 10000000000000 = True := eq_true ⟨by decide, by decide⟩
@[simp] theorem in63e_l10000000000000 : In63e 10000000000000 = True := eq_true ⟨by decide, by decide⟩
@[simp] theorem in64_l10000000000000 : In64 10000000000000 = True := eq_true ⟨by decide, by decide⟩
@[simp] theorem dvr_l10000000000000 : Dvr 10000000000000 = True := eq_true ⟨by decide, by decide⟩
@[simp] theorem in62_l100000000000000 : In62 100000000000000 = True := eq_true ⟨by decide, by decide⟩
@[simp] theorem in63_l100000000000000 : In63 100000000000000 = True := eq_true ⟨by decide, by decide⟩
@[simp] theorem in63e_l100000000000000 : In63e 100000000000000 = True := eq_true ⟨by decide, by decide⟩
@[simp] theorem in64_l100000000000000 : In64 100000000000000 = True := eq_true ⟨by decide, by decide⟩
@[simp] theorem dvr_l100000000000000 : Dvr 100000000000000 = True := eq_true ⟨by decide, by decide⟩
@[simp] theorem in62_l1000000000000000 : In62 1000000000000000 = True := eq_true ⟨by decide, by decide⟩
@[simp] theorem in63_l1000000000000000 : In63 1000000000000000 = True := eq_true ⟨by decide, by decide⟩
@[simp] theorem in63e_l1000000000000000 : In63e 1000000000000000 = True := eq_true ⟨by decide, by decide⟩
@[simp] theorem in64_l1000000000000000 : In64 1000000000000000 = True := eq_true ⟨by decide, by decide⟩
@[simp] theorem dvr_l1000000000000000 : Dvr 1000000000000000 = True := eq_true ⟨by decide, by decide⟩
@[simp] theorem in62_l1000000000000000000 : In62 1000000000000000000 = True := eq_true ⟨by decide, by decide⟩
@[simp] theorem in63_l1000000000000000000 : In63 1000000000000000000 = True := eq_true ⟨by decide, by decide⟩
@[simp] theorem in63e_l1000000000000000000 : In63e 1000000000000000000 = True := eq_true ⟨by decide, by decide⟩
@[simp] theorem in64_l1000000000000000000 : In64 1000000000000000000 = True := eq_true ⟨by decide, by decide⟩
@[simp] theorem dvr_l1000000000000000000 : Dvr 1000000000000000000 = True := eq_true ⟨by decide, by decide⟩
def dats (ds : List PD) : List Cel := ds.map Cel.dat
@[simp] theorem dats_nil : dats [] = [] := (rfl)
@[simp] theorem dats_pd {ds : List PD} : (dats ds).map Cel.pd = ds := by unfold dats; rw [List.map_map, show Cel.pd ∘ Cel.dat = id from rfl, List.map_id]
@[simp] theorem dats_len {ds : List PD} : (dats ds).length = ds.length := by unfold dats; exact List.length_map ..
@[simp] theorem dats_app {ds es : List PD} : dats ds ++ dats es = dats (ds ++ es) := by unfold dats; exact List.map_append.symm
@[simp] theorem dats_app1 {ds : List PD} {d : PD} : dats ds ++ [Cel.dat d] = dats (ds ++ [d]) := by unfold dats; rw [List.map_append]; rfl
@[simp] theorem dats_set {ds : List PD} {d : PD} {i : Nat} : (dats ds).set i (Cel.dat d) = dats (ds.set i d) := by unfold dats; rw [List.map_set]
@[simp] theorem dats_erase {ds : List PD} {i : Nat} : (dats ds).eraseIdx i = dats (ds.eraseIdx i) := by
  unfold dats
  induction ds generalizing i with
  | nil => rfl
  | cons x xs ih => cases i with
    | zero => rfl
    | succ i => simp [ih]
@[simp] theorem dats_take {ds : List PD} {i : Nat} : (dats ds).take i = dats (ds.take i) := by unfold dats; rw [List.map_take]
@[simp] theorem dats_drop {ds : List PD} {i : Nat} : (dats ds).drop i = dats (ds.drop i) := by unfold dats; rw [List.map_drop]
theorem datAt_dats {ds : List PD} {i : Nat} : datAt (dats ds) i = ds[i]? := by
  unfold datAt dats
  rw [List.getElem?_map]
  cases ds[i]? <;> rfl
theorem datAt_map {α : Type} {f : α → PD} {l : List α} {j : Nat} (h : j < l.length) : datAt (dats (l.map f)) j = some (f l[j]) := by rw [datAt_dats, List.getElem?_map, List.getElem?_eq_getElem h]; rfl
abbrev natD (n : Nat) : PD := .int (n : Nat)
abbrev kk0 : KK := ⟨[], fun _ => none, fun _ => none, 0⟩
section
variable {ρ : Env} {v : VE}
@[simp] theorem q_mk_nil : mk [] = [] := (rfl)
@[simp] theorem q_mk_cons {s : Sl} {r : Env} : mk (s :: r) = s.mk :: mk r := (rfl)
@[simp] theorem q_vw_nil : vw [] = [] := (rfl)
@[simp] theorem q_vw_cons {s : Sl} {r : Env} : vw (s :: r) = s.vw :: vw r := (rfl)
@[simp] theorem q_mk_dat {d : PD} : (Sl.dat d).mk = some d := (rfl)
@[simp] theorem q_mk_un : Sl.un.mk = none := (rfl)
@[simp] theorem q_mk_own {cs : List Cel} : (Sl.own cs).mk = none := (rfl)
@[simp] theorem q_vw_dat {d : PD} : (Sl.dat d).vw = some d := (rfl)
@[simp] theorem q_vw_un : Sl.un.vw = none := (rfl)
@[simp] theorem q_vw_own {cs : List Cel} : (Sl.own cs).vw = some (.list (cs.map Cel.pd)) := (rfl)
@[simp] theorem q_pd_dat {d : PD} : (Cel.dat d).pd = d := (rfl)
@[simp] theorem q_pd_sub {ds : List PD} : (Cel.sub ds).pd = .list ds := (rfl)
@[simp] theorem q_var {i : Nat} : xVar i v = (v[i]?).bind id := (rfl)
@[simp] theorem q_c {d : PD} : xC d v = some d := (rfl)
@[simp] theorem q_op {f : PD → PD → Option PD} {a b : XE} : xOp f a b v = (a v).bind fun x => (b v).bind fun y => f x y := (rfl)
@[simp] theorem q_un {f : PD → Option PD} {a : XE} : xUn f a v = (a v).bind f := (rfl)
@[simp] theorem q_nil : xNil v = some [] := (rfl)
@[simp] theorem q_cons {a : XE} {as : XA} : xCons a as v = (a v).bind fun x => (as v).bind fun xs => some (x :: xs) := (rfl)
@[simp] theorem q_tup {as : XA} : xTup as v = (as v).bind fun ds => grd (ds.length ≤ 100000) (some (.tuple ds)) := by
  unfold xTup
  simp only [grd_ite]
@[simp] theorem q_lst {as : XA} : xLst as v = (as v).bind fun ds => grd (ds.length ≤ 100000) (some (.list ds)) := by
  unfold xLst
  simp only [grd_ite]
@[simp] theorem q_cb {f : List PD → Option PD} {as : XA} : xCB f as v = (as v).bind f := (rfl)
@[simp] theorem q_isB {b : Bool} : isB (.bool b) = some b := (rfl)
@[simp] theorem q_B {a : XE} : xB a v = (a v).bind isB := (rfl)
@[simp] theorem q_tand {a b : XT} : xTAnd a b v = (a v).bind fun c => andO c (b v) := (rfl)
@[simp] theorem q_tor {a b : XT} : xTOr a b v = (a v).bind fun c => orO c (b v) := (rfl)
@[simp] theorem q_tnot {a : XT} : xTNot a v = (a v).bind fun c => some (!c) := (rfl)
@[simp] theorem q_yes : xYes v = some true := (rfl)
@[simp] theorem q_and {a b : XE} : xAnd a b v = ((a v).bind isB).bind fun c => andV c (b v) := (rfl)
@[simp] theorem q_not {a : XE} : xNot a v = ((a v).bind isB).bind fun c => some (.bool (!c)) := (rfl)
@[simp] theorem q_if {c : XT} {a b : XE} : xIf c a b v = (c v).bind fun k => alt k (tag (a v)) (tag (b v)) := (rfl)
@[simp] theorem q_chain {f g : PD → PD → Option PD} {a b c : XE} : xChain f g a b c v = (a v).bind fun x => (b v).bind fun y => ((f x y).bind isB).bind fun k => andV k ((c v).bind fun z => g y z) := (rfl)
@[simp] theorem q_isi {t : Ty} {a : XE} : xIsi t a v = (a v).bind fun d => grd (full d = false) (some (.bool (isTy t d))) := by
  unfold xIsi
  congr 1
  funext d
  rw [← grd_ite]
  cases full d <;> rfl
@[simp] theorem q_nop : xNoPart v = some none := (rfl)
@[simp] theorem q_part {a : XE} : xPart a v = (a v).bind fun d => match d with | .int i => some (some i) | _ => none := (rfl)
@[simp] theorem q_sl {a : XE} {lo hi : XO} : xSl a lo hi v = (a v).bind fun d => (lo v).bind fun l => (hi v).bind fun h => slP d l h := (rfl)
@[simp] theorem q_idx {a b : XE} : xIdx a b v = (a v).bind fun x => (b v).bind fun y => idxP x y := (rfl)
@[simp] theorem q_on1 {f : PD → Option PD} {x : PD} : on1 f [x] = f x := (rfl)
@[simp] theorem q_xiE {a : XE} : xiE a v = (a v).bind seqP := (rfl)
@[simp] theorem q_xiA {f : List PD → Option (List PD)} {as : XA} : xiA f as v = (as v).bind f := (rfl)
@[simp] theorem q_lc {src : XI} {g : XGV} {t : XT} {e : XE} {vs : List Nat} : xLc src g t e vs v = (src v).bind fun xs => grd (xs.length ≤ 40000) ((lcGo g t e (clear v vs) xs).bind fun ds => some (.list ds)) := by
  unfold xLc
  simp only [grd_ite]
@[simp] theorem q_clear_nil : clear v [] = v := (rfl)
@[simp] theorem q_clear_cons {i : Nat} {vs : List Nat} : clear v (i :: vs) = (clear v vs).set i none := (rfl)
@[simp] theorem q_gvName {i : Nat} {x : PD} : gvName i x v = some (v.set i (some x)) := (rfl)
@[simp] theorem q_add_i {i j : Int} : addP (.int i) (.int j) = some (.int (i + j)) := (rfl)
@[simp] theorem q_add_l {xs ys : List PD} : addP (.list xs) (.list ys) = grd (xs.length + ys.length ≤ 100000) (some (.list (xs ++ ys))) := by
  unfold addP
  simp only [grd_ite]
@[simp] theorem q_add_t {xs ys : List PD} : addP (.tuple xs) (.tuple ys) = grd (xs.length + ys.length ≤ 100000) (some (.tuple (xs ++ ys))) := by
  unfold addP
  simp only [grd_ite]
@[simp] theorem q_sub {i j : Int} : subP (.int i) (.int j) = some (.int (i - j)) := (rfl)
@[simp] theorem q_div {i j : Int} : divP (.int i) (.int j) = grd (Dvr j) (some (.int (i / j))) := by
  unfold divP
  simp only [grd_ite]
  exact grd_iff ⟨fun h => ⟨h.1, h.2⟩, fun h => ⟨h.lo, h.hi⟩⟩
@[simp] theorem q_mod {i j : Int} : modP (.int i) (.int j) = grd (0 < j) (some (.int (i % j))) := by
  unfold modP
  simp only [grd_ite]
  rfl
@[simp] theorem q_pow {i j : Int} : powP (.int i) (.int j) = grd (0 ≤ j ∧ j ≤ 1000 ∧ In63 i) (some (.int (i ^ j.toNat))) := by
  unfold powP
  simp only [grd_ite]
  exact grd_iff ⟨fun h => ⟨h.1, h.2.1, h.2.2.1, h.2.2.2⟩, fun h => ⟨h.1, h.2.1, h.2.2.lo, h.2.2.hi⟩⟩
@[simp] theorem q_mul {i j : Int} : mulP (.int i) (.int j) = grd (In64 i ∨ In64 j) (some (.int (i * j))) := by
  unfold mulP
  simp only [grd_ite]
  exact grd_iff ⟨fun h => h.elim (fun h => .inl ⟨h.1, h.2⟩) fun h => .inr ⟨h.1, h.2⟩, fun h => h.elim (fun h => .inl ⟨h.lo, h.hi⟩) fun h => .inr ⟨h.lo, h.hi⟩⟩
@[simp] theorem q_lt {i j : Int} : ltP (.int i) (.int j) = some (.bool (decide (i < j))) := (rfl)
@[simp] theorem q_le {i j : Int} : leP (.int i) (.int j) = some (.bool (decide (i ≤ j))) := (rfl)
@[simp] theorem q_gtU {i j : Int} : gtU (.int i) (.int j) = some (.bool (decide (j < i))) := (rfl)
@[simp] theorem q_ge {i j : Int} : geP (.int i) (.int j) = some (.bool (decide (j ≤ i))) := (rfl)
@[simp] theorem q_neg {i : Int} : negP (.int i) = some (.int (-i)) := (rfl)
@[simp] theorem q_eq_i {i j : Int} : eqP (.int i) (.int j) = some (.bool (i == j)) := (rfl)
@[simp] theorem q_ne_i {i j : Int} : neP (.int i) (.int j) = some (.bool (!(i == j))) := (rfl)
@[simp] theorem q_is {x : PD} : isU x .none = some (.bool (isNone x)) := by cases x <;> rfl
@[simp] theorem q_isb {b c : Bool} : isU (.bool b) (.bool c) = some (.bool (b == c)) := (rfl)
@[simp] theorem q_isNone_n : isNone .none = true := (rfl)
@[simp] theorem q_isNone_i {i : Int} : isNone (.int i) = false := (rfl)
@[simp] theorem q_isNone_t {ds : List PD} : isNone (.tuple ds) = false := (rfl)
@[simp] theorem q_ix_t {ds : List PD} {i : Int} : ixP (.tuple ds) (.int i) = atI ds i := (rfl)
@[simp] theorem q_ix_l {ds : List PD} {i : Int} : ixP (.list ds) (.int i) = atI ds i := (rfl)
@[simp] theorem q_ix_s {ds : List PD} {i : Int} : ixP (scrD ds) (.int i) = atI ds i := (rfl)
@[simp] theorem q_sl_t {ds : List PD} {lo hi : Option Int} : slP (.tuple ds) lo hi = some (.tuple (cutD ds lo hi)) := (rfl)
@[simp] theorem q_sl_l {ds : List PD} {lo hi : Option Int} : slP (.list ds) lo hi = some (.list (cutD ds lo hi)) := (rfl)
@[simp] theorem q_sl_s {ds : List PD} {lo hi : Option Int} : slP (scrD ds) lo hi = some (.list (cutD ds lo hi)) := (rfl)
@[simp] theorem q_seq_t {ds : List PD} : seqP (.tuple ds) = some ds := (rfl)
@[simp] theorem q_seq_l {ds : List PD} : seqP (.list ds) = some ds := (rfl)
@[simp] theorem q_seq_s {ds : List PD} : seqP (scrD ds) = some ds := (rfl)
@[simp] theorem q_len_t {ds : List PD} : lenP (.tuple ds) = some (natD ds.length) := (rfl)
@[simp] theorem q_len_l {ds : List PD} : lenP (.list ds) = some (natD ds.length) := (rfl)
@[simp] theorem q_len_s {ds : List PD} : lenP (scrD ds) = some (natD ds.length) := (rfl)
@[simp] theorem q_tupP_l {ds : List PD} : tupP (.list ds) = some (.tuple ds) := (rfl)
@[simp] theorem q_tupP_t {ds : List PD} : tupP (.tuple ds) = some (.tuple ds) := (rfl)
@[simp] theorem q_listP_l {ds : List PD} : listP (.list ds) = some (.list ds) := (rfl)
@[simp] theorem q_listP_t {ds : List PD} : listP (.tuple ds) = some (.list ds) := (rfl)
@[simp] theorem q_absP {i : Int} : absP (.int i) = some (.int (if i < 0 then -i else i)) := (rfl)
@[simp] theorem q_enum_t {ds : List PD} : enumP [.tuple ds] = some (pairsD ds) := (rfl)
@[simp] theorem q_enum_l {ds : List PD} : enumP [.list ds] = some (pairsD ds) := (rfl)
@[simp] theorem q_rng {j : Int} : rngP [.int j] = grd (In62 j) (some ((List.range j.toNat).map natD)) := by
  have e : (List.range j.toNat).map (fun k => PyData.int (0 + (k : Nat))) = (List.range j.toNat).map natD := by
    apply List.map_congr_left
    intro k _
    rw [Int.zero_add]
  unfold rngP
  dsimp only
  rw [e, grd_ite]
  exact grd_iff ⟨fun h => ⟨h.1, h.2⟩, fun h => ⟨h.lo, h.hi⟩⟩
@[simp] theorem q_full_n : full .none = false := (rfl)
@[simp] theorem q_full_b {b : Bool} : full (.bool b) = false := (rfl)
@[simp] theorem q_full_i {i : Int} : full (.int i) = false := (rfl)
@[simp] theorem q_full_s {x : Str} : full (.str x) = false := (rfl)
@[simp] theorem q_full_l {ds : List PD} : full (.list ds) = false := (rfl)
@[simp] theorem q_full_t {ds : List PD} : full (.tuple ds) = false := (rfl)
@[simp] theorem q_full_d : full (.dict []) = false := (rfl)
@[simp] theorem q_full_d1 {k : Str} {d : PD} {r : List (PD × PD)} : full (.dict ((.str k, d) :: r)) = false := (rfl)
@[simp] theorem q_xD1 {k : Str} {a : XE} {v : VE} : xD1 k a v = (a v).bind fun d => some (.dict [(.str k, d)]) := (rfl)
@[simp] theorem q_flat_n : flat .none = true := by simp [flat]
@[simp] theorem q_flat_b {b : Bool} : flat (.bool b) = true := by simp [flat]
@[simp] theorem q_flat_i {i : Int} : flat (.int i) = true := by simp [flat]
@[simp] theorem q_flat_s {x : Str} : flat (.str x) = true := by simp [flat]
@[simp] theorem q_flat_t {ds : List PD} : flat (.tuple ds) = flats ds := by simp [flat]
@[simp] theorem q_flats_nil : flats [] = true := by simp [flats]
@[simp] theorem q_flats_cons {d : PD} {ds : List PD} : flats (d :: ds) = (flat d && flats ds) := by simp [flats]
@[simp] theorem q_wM {x : XE} : wM x ρ = (x (mk ρ)).bind fun d => some (d, ρ) := (rfl)
@[simp] theorem q_wV {x : XE} : wV x ρ = (x (vw ρ)).bind fun d => grd (flat d = true) (some (d, ρ)) := by
  unfold wV
  simp only [grd_ite]
@[simp] theorem q_wMT {x : XT} : wMT x ρ = (x (mk ρ)).bind fun d => some (d, ρ) := (rfl)
@[simp] theorem q_wVT {x : XT} : wVT x ρ = (x (vw ρ)).bind fun d => some (d, ρ) := (rfl)
@[simp] theorem q_wNil : wNil ρ = some ([], ρ) := (rfl)
@[simp] theorem q_wCons {a : XW} {as : XWA} : wCons a as ρ = (a ρ).bind fun x => (as x.2).bind fun xs => some (x.1 :: xs.1, xs.2) := (rfl)
@[simp] theorem q_wOp {f : PD → PD → Option PD} {a b : XW} : wOp f a b ρ = (a ρ).bind fun x => (b x.2).bind fun y => (f x.1 y.1).bind fun z => some (z, y.2) := (rfl)
@[simp] theorem q_wTup {as : XWA} : wTup as ρ = (as ρ).bind fun x => grd (x.1.length ≤ 100000) (some (.tuple x.1, x.2)) := by
  unfold wTup
  simp only [grd_ite]
@[simp] theorem q_wLst {as : XWA} : wLst as ρ = (as ρ).bind fun x => grd (x.1.length ≤ 100000) (some (.list x.1, x.2)) := by
  unfold wLst
  simp only [grd_ite]
@[simp] theorem q_wCB {f : List PD → Option PD} {as : XWA} : wCB f as ρ = (as ρ).bind fun x => (f x.1).bind fun z => some (z, x.2) := (rfl)
@[simp] theorem q_wB {a : XW} : wB a ρ = (a ρ).bind fun x => (isB x.1).bind fun b => some (b, x.2) := (rfl)
@[simp] theorem q_wCallK {i : Nat} {g : List Cel → List PD → Option (PD × List Cel)} {as : XWA} : wCallK i g as ρ = (ownAt ρ i).bind fun _ => (as ρ).bind fun x => (ownAt x.2 i).bind fun cs => (g cs x.1).bind fun y => some (y.1, x.2.set i (.own y.2)) := (rfl)
@[simp] theorem q_ownAt0 {cs : List Cel} {r : Env} : ownAt (.own cs :: r) 0 = some cs := (rfl)
@[simp] theorem q_ownAtS {s : Sl} {r : Env} {i : Nat} : ownAt (s :: r) (i + 1) = ownAt r i := (rfl)
@[simp] theorem q_wFz {o : XWO} : wFz o ρ = (o ρ).bind fun x => some (.list (x.1.map Cel.pd), x.2) := (rfl)
@[simp] theorem q_wOM {x : XE} : wOM x ρ = ((x (mk ρ)).bind asList).bind fun ds => some (dats ds, ρ) := (rfl)
@[simp] theorem q_asList {ds : List PD} : asList (.list ds) = some ds := (rfl)
@[simp] theorem q_wOL {as : XWC} : wOL as ρ = (as ρ).bind fun x => grd (x.1.length ≤ 100000) (some x) := by
  unfold wOL
  simp only [grd_ite]
@[simp] theorem q_wcNil : wcNil ρ = some ([], ρ) := (rfl)
@[simp] theorem q_wcDat {a : XW} {as : XWC} : wcDat a as ρ = (a ρ).bind fun x => (as x.2).bind fun xs => some (.dat x.1 :: xs.1, xs.2) := (rfl)
@[simp] theorem q_wcSub {a : XWO} {as : XWC} : wcSub a as ρ = (a ρ).bind fun x => (allDat x.1).bind fun ds => (as x.2).bind fun xs => some (.sub ds :: xs.1, xs.2) := (rfl)
@[simp] theorem q_allDat {ds : List PD} : allDat (dats ds) = some ds := @allDat_map kk0 ds
@[simp] theorem q_allDat_nil : allDat [] = some [] := (rfl)
@[simp] theorem q_wCallD {f : List PD → Option (List Cel)} {as : XWA} : wCallD f as ρ = (as ρ).bind fun x => (f x.1).bind fun cs => some (cs, x.2) := (rfl)
@[simp] theorem q_wPop {i : Nat} {a : XW} : wPop i a ρ = (ownAt ρ i).bind fun _ => (a ρ).bind fun x => (isI x.1).bind fun k => (ownAt x.2 i).bind fun cs => grd (In63e k) ((ixN cs.length k).bind fun n => (datAt cs n).bind fun d => some (d, x.2.set i (.own (cs.eraseIdx n)))) := by
  unfold wPop
  simp only [grd_ite]
  congr 1; funext _; congr 1; funext x; congr 1; funext k; congr 1; funext cs
  exact grd_iff ⟨fun h => ⟨h.1, h.2⟩, fun h => ⟨h.lo, h.hi⟩⟩
@[simp] theorem q_isI {i : Int} : isI (.int i) = some i := (rfl)
@[simp] theorem q_wiE {a : XW} : wiE a ρ = (a ρ).bind fun x => (seqP x.1).bind fun xs => some (xs, x.2) := (rfl)
@[simp] theorem q_wiA {f : List PD → Option (List PD)} {as : XWA} : wiA f as ρ = (as ρ).bind fun x => (f x.1).bind fun xs => some (xs, x.2) := (rfl)
@[simp] theorem q_gName {i : Nat} {x : PD} : gName' i x ρ = some (ρ.set i (.dat x)) := (rfl)
@[simp] theorem q_gNil : gNil' [] ρ = some ρ := (rfl)
@[simp] theorem q_gCons {g : XG} {gs : XGs} {x : PD} {xs : List PD} : gCons' g gs (x :: xs) ρ = (g x ρ).bind fun v1 => gs xs v1 := (rfl)
@[simp] theorem q_gTup {n : Nat} {gs : XGs} {x : PD} : gTup' n gs x ρ = (seqP x).bind fun ds => grd (ds.length = n) (gs ds ρ) := by
  unfold gTup'
  simp only [grd_ite]
@[simp] theorem q_sNext : sNext ρ = some (.nxt ρ) := (rfl)
@[simp] theorem q_sRet {w : XW} : sRet w ρ = (w ρ).bind fun x => some (.ret x.1 x.2) := (rfl)
@[simp] theorem q_sRetO {w : XWO} : sRetO w ρ = (w ρ).bind fun x => some (.retO x.1 x.2) := (rfl)
@[simp] theorem q_sIf {c : XWT} {x y : XS} : sIf c x y ρ = (c ρ).bind fun k => alt k.1 (tag (x k.2)) (tag (y k.2)) := (rfl)
@[simp] theorem q_sAsg {g : XG} {w : XW} : sAsg g w ρ = (w ρ).bind fun x => (g x.1 x.2).bind fun ρ1 => some (.nxt ρ1) := (rfl)
@[simp] theorem q_sOwn {i : Nat} {w : XWO} : sOwn i w ρ = (w ρ).bind fun x => grd (i < x.2.length) (some (.nxt (x.2.set i (.own x.1)))) := by
  unfold sOwn
  simp only [grd_ite]
@[simp] theorem q_toSl_d {d : PD} : toSl (.dat d) = .dat d := (rfl)
@[simp] theorem q_toSl_s {ds : List PD} : toSl (.sub ds) = .own (dats ds) := (rfl)
@[simp] theorem q_two {c e : Cel} : two [c, e] = some (c, e) := (rfl)
@[simp] theorem q_sPar {i j : Nat} {as : XWC} : sPar i j as ρ = (as ρ).bind fun x => (two x.1).bind fun c => grd (i < x.2.length ∧ j < x.2.length) (some (.nxt ((x.2.set i (toSl c.1)).set j (toSl c.2)))) := by
  unfold sPar
  simp only [grd_ite]
@[simp] theorem q_sApp {i : Nat} {a : XW} : sApp i a ρ = (ownAt ρ i).bind fun _ => (a ρ).bind fun x => (ownAt x.2 i).bind fun cs => grd (cs.length < 100000) (some (.nxt (x.2.set i (.own (cs ++ [.dat x.1]))))) := by
  unfold sApp
  simp only [grd_ite]
@[simp] theorem q_sSet {i : Nat} {k : XE} {a : XW} : sSet i k a ρ = (a ρ).bind fun x => (ownAt x.2 i).bind fun cs => ((k (vw x.2)).bind isI).bind fun k => (ixN cs.length k).bind fun n => (datAt cs n).bind fun _ => some (.nxt (x.2.set i (.own (cs.set n (.dat x.1))))) := (rfl)
@[simp] theorem q_sFz {i : Nat} {y : XS} : sFz i y ρ = y (fzE ρ i) := (rfl)
@[simp] theorem q_fz0 {cs : List Cel} {r : Env} : fzE (.own cs :: r) 0 = .dat (.list (cs.map Cel.pd)) :: r := (rfl)
@[simp] theorem q_fzS {s : Sl} {r : Env} {i : Nat} : fzE (s :: r) (i + 1) = s :: fzE r i := by
  unfold fzE
  rw [List.getElem?_cons_succ]
  cases h : r[i]? with
  | none => rfl
  | some q => cases q <;> rfl
@[simp] theorem q_sFor {src : XWI} {g : XG} {b : XS} : sFor src g b ρ = (src ρ).bind fun x => forGo g b x.1 x.2 := (rfl)
end
end Uv

namespace Uv
open PySem PySem.Spec PyProof.Rows L2
section
variable {ρ : Env} {v : VE}
@[simp] theorem q_wTAnd {a b : XWT} : wTAnd a b ρ = (a ρ).bind fun c => alt c.1 (tag (b c.2)) (tag (some (false, c.2))) := (rfl)
@[simp] theorem q_wTOr {a b : XWT} : wTOr a b ρ = (a ρ).bind fun c => alt c.1 (tag (some (true, c.2))) (tag (b c.2)) := (rfl)
@[simp] theorem q_wTNot {a : XWT} : wTNot a ρ = (a ρ).bind fun c => some (!c.1, c.2) := (rfl)
@[simp] theorem q_sWhile {n : Nat} {c : XWT} {b : XS} : sWhile n c b ρ = whGo c b n ρ := (rfl)
@[simp] theorem q_wLc {src : XWI} {g : XG} {t : XWT} {e : XW} {vs : List Nat} : wLc src g t e vs ρ = (src ρ).bind fun x => grd (x.1.length ≤ 40000) ((wlGo g t e vs x.1 x.2).bind fun r => some (dats r.1, backE x.2 r.2 vs)) := by
  unfold wLc
  simp only [grd_ite]
  rfl
@[simp] theorem q_backE_nil {ρ1 : Env} : backE ρ1 ρ [] = ρ := (rfl)
@[simp] theorem q_backE_cons {ρ1 : Env} {i : Nat} {vs : List Nat} : backE ρ1 ρ (i :: vs) = (backE ρ1 ρ vs).set i (keepD ρ1[i]?) := (rfl)
@[simp] theorem q_keepD_d {d : PD} : keepD (some (.dat d)) = .dat d := (rfl)
@[simp] theorem q_keepD_u : keepD (some .un) = .un := (rfl)
@[simp] theorem q_keepD_o {cs : List Cel} : keepD (some (.own cs)) = .un := (rfl)
@[simp] theorem q_clearE_nil : clearE ρ [] = ρ := (rfl)
@[simp] theorem q_clearE_cons {i : Nat} {vs : List Nat} : clearE ρ (i :: vs) = (clearE ρ vs).set i .un := (rfl)
def endP {Q : PD → Prop} (_ : Tag Q) : Out → Prop
  | .ret d _ => Q d
  | .nxt _ => Q .none
  | _ => False
def endW {Q : PD × List Cel → Prop} (_ : Tag Q) : Out → Prop
  | .ret d ρ => wp (ownAt ρ 0) (tag fun cs => Q (d, cs))
  | .nxt ρ => wp (ownAt ρ 0) (tag fun cs => Q (.none, cs))
  | _ => False
def endD' {Q : List Cel → Prop} (_ : Tag Q) : Out → Prop
  | .retO cs _ => Q cs
  | _ => False
section
variable {QP : PD → Prop} {QW : PD × List Cel → Prop} {QD : List Cel → Prop} {d : PD} {cs : List Cel}
@[simp] theorem endP_ret : endP (tag QP) (.ret d ρ) = QP d := (rfl)
@[simp] theorem endP_nxt : endP (tag QP) (.nxt ρ) = QP .none := (rfl)
@[simp] theorem endW_ret : endW (tag QW) (.ret d ρ) = wp (ownAt ρ 0) (tag fun cs => QW (d, cs)) := (rfl)
@[simp] theorem endW_nxt : endW (tag QW) (.nxt ρ) = wp (ownAt ρ 0) (tag fun cs => QW (.none, cs)) := (rfl)
@[simp] theorem endD_ret : endD' (tag QD) (.retO cs ρ) = QD cs := (rfl)
end
theorem wp_runP {n k : Nat} {X : XS} {ds : List PD} {Q : PD → Prop} (hn : ds.length = n) (h : wp (X (ds.map Sl.dat ++ List.replicate k Sl.un)) (tag (endP (tag Q)))) : wp (runP n k X ds) (tag Q) := by
  obtain ⟨o, e, h⟩ := h
  unfold runP
  rw [if_pos hn, e]
  cases o with
  | ret d ρ => exact ⟨_, rfl, h⟩
  | nxt ρ => exact ⟨_, rfl, h⟩
  | _ => exact h.elim
theorem wp_runW {n k : Nat} {X : XS} {cs : List Cel} {ds : List PD} {Q : PD × List Cel → Prop} (hn : ds.length = n) (h : wp (X (.own cs :: (ds.map Sl.dat ++ List.replicate k Sl.un))) (tag (endW (tag Q)))) : wp (runW n k X cs ds) (tag Q) := by
  obtain ⟨o, e, h⟩ := h
  unfold runW
  rw [if_pos hn, e]
  cases o with
  | ret d ρ =>
    obtain ⟨cs', e2, h2⟩ := h
    exact ⟨(d, cs'), by rw [Option.bind_some]; show (ownAt ρ 0).bind _ = _; rw [e2]; rfl, h2⟩
  | nxt ρ =>
    obtain ⟨cs', e2, h2⟩ := h
    exact ⟨(.none, cs'), by rw [Option.bind_some]; show (ownAt ρ 0).bind _ = _; rw [e2]; rfl, h2⟩
  | _ => exact h.elim
theorem wp_runD {n k : Nat} {X : XS} {ds : List PD} {Q : List Cel → Prop} (hn : ds.length = n) (h : wp (X (ds.map Sl.dat ++ List.replicate k Sl.un)) (tag (endD' (tag Q)))) : wp (runD n k X ds) (tag Q) := by
  obtain ⟨o, e, h⟩ := h
  unfold runD
  rw [if_pos hn, e]
  cases o with
  | retO d ρ => exact ⟨_, rfl, h⟩
  | _ => exact h.elim
theorem eq_of_wp {α : Type} {o : Option α} {a : α} (h : wp o (tag fun x => x = a)) : o = some a := wp_eq.mp h
structure Inv {J : Env → Prop} (t : Tag J) (ρ : Env) : Prop where
  of ::
  to : J ρ
def forK {J : Env → Prop} {Q : Out → Prop} (_ : Tag J) (_ : Tag Q) : Out → Prop
  | .nxt ρ => Inv (tag J) ρ
  | .cnt ρ => Inv (tag J) ρ
  | .brk ρ => Q (.nxt ρ)
  | .ret d ρ => Q (.ret d ρ)
  | .retO d ρ => Q (.retO d ρ)
section
variable {J : Env → Prop} {Q : Out → Prop} {d : PD} {cs : List Cel}
@[simp] theorem forK_nxt : forK (tag J) (tag Q) (.nxt ρ) = Inv (tag J) ρ := (rfl)
@[simp] theorem forK_cnt : forK (tag J) (tag Q) (.cnt ρ) = Inv (tag J) ρ := (rfl)
@[simp] theorem forK_brk : forK (tag J) (tag Q) (.brk ρ) = Q (.nxt ρ) := (rfl)
@[simp] theorem forK_ret : forK (tag J) (tag Q) (.ret d ρ) = Q (.ret d ρ) := (rfl)
@[simp] theorem forK_retO : forK (tag J) (tag Q) (.retO cs ρ) = Q (.retO cs ρ) := (rfl)
end
theorem wp_for {g : XG} {b : XS} {xs : List PD} {Q : Out → Prop} (I : Nat → Env → Prop) (h0 : I 0 ρ) (hs : ∀ (i : Nat) (h : i < xs.length) (ρ : Env), I i ρ → wp (g xs[i] ρ) (tag fun ρ1 => wp (b ρ1) (tag (forK (tag (I (i + 1))) (tag Q))))) (hq : ∀ ρ, I xs.length ρ → Q (.nxt ρ)) : wp (forGo g b xs ρ) (tag Q) := by
  induction xs generalizing ρ I with
  | nil => exact ⟨_, rfl, hq ρ h0⟩
  | cons x xs ih =>
    obtain ⟨ρ1, e1, o, e2, h2⟩ := hs 0 (Nat.succ_pos _) ρ h0
    have go : ∀ ρ2, I 1 ρ2 → wp (forGo g b xs ρ2) (tag Q) := fun ρ2 h3 => ih (fun i => I (i + 1)) h3 (fun i hi ρ hI => hs (i + 1) (Nat.succ_lt_succ hi) ρ hI) hq
    have e1 : g x ρ = some ρ1 := e1
    unfold forGo
    rw [e1, Option.bind_some, e2, Option.bind_some]
    cases o with
    | nxt ρ2 => exact go ρ2 h2.to
    | cnt ρ2 => exact go ρ2 h2.to
    | brk ρ2 => exact ⟨_, rfl, h2⟩
    | ret d ρ2 => exact ⟨_, rfl, h2⟩
    | retO d ρ2 => exact ⟨_, rfl, h2⟩
@[simp] theorem Inv_wp {g : Env → Option Out} {Q : Out → Prop} : Inv (tag fun ρ2 => wp (g ρ2) (tag Q)) ρ = wp (g ρ) (tag Q) := propext ⟨fun h => h.to, fun h => ⟨h⟩⟩
theorem wp_for_nil {g : XG} {b : XS} {Q : Out → Prop} : wp (forGo g b [] ρ) (tag Q) = Q (.nxt ρ) := by unfold forGo; exact wp_some
theorem wp_for_cons {g : XG} {b : XS} {x : PD} {xs : List PD} {Q : Out → Prop} : wp (forGo g b (x :: xs) ρ) (tag Q) = wp (g x ρ) (tag fun ρ1 => wp (b ρ1) (tag (forK (tag fun ρ2 => wp (forGo g b xs ρ2) (tag Q)) (tag Q)))) := by
  have e : forGo g b (x :: xs) ρ = (g x ρ).bind fun ρ1 => (b ρ1).bind fun o => match o with
    | .nxt ρ2 => forGo g b xs ρ2
    | .cnt ρ2 => forGo g b xs ρ2
    | .brk ρ2 => some (.nxt ρ2)
    | .ret d ρ2 => some (.ret d ρ2)
    | .retO d ρ2 => some (.retO d ρ2) := rfl
  rw [e, wp_bind]
  apply propext
  have k : ∀ o : Out, wp (match o with
    | .nxt ρ2 => forGo g b xs ρ2
    | .cnt ρ2 => forGo g b xs ρ2
    | .brk ρ2 => some (.nxt ρ2)
    | .ret d ρ2 => some (.ret d ρ2)
    | .retO d ρ2 => some (.retO d ρ2)) (tag Q) ↔ forK (tag fun ρ2 => wp (forGo g b xs ρ2) (tag Q)) (tag Q) o := fun o => by cases o <;> simp
  constructor
  · exact fun h => wp_mono h fun ρ1 h1 => wp_mono (by rw [wp_bind] at h1; exact h1) fun o h2 => (k o).mp h2
  · exact fun h => wp_mono h fun ρ1 h1 => by rw [wp_bind]; exact wp_mono h1 fun o h2 => (k o).mpr h2
theorem wp_forM {α : Type} {g : XG} {b : XS} {l : List α} {enc : α → PD} {Q : Out → Prop} (I : Nat → Env → Prop) (h0 : I 0 ρ) (hs : ∀ (i : Nat) (h : i < l.length) (ρ : Env), I i ρ → wp (g (enc l[i]) ρ) (tag fun ρ1 => wp (b ρ1) (tag (forK (tag (I (i + 1))) (tag Q))))) (hq : ∀ ρ, I l.length ρ → Q (.nxt ρ)) : wp (forGo g b (l.map enc) ρ) (tag Q) :=
  wp_for I h0 (fun i h ρ hI => by
    rw [List.getElem_map]
    exact hs i (by simpa using h) ρ hI) (fun ρ h => hq ρ (by simpa using h))
theorem wp_forR {g : XG} {b : XS} {n : Nat} {Q : Out → Prop} (I : Nat → Env → Prop) (h0 : I 0 ρ) (hs : ∀ (i : Nat) (h : i < n) (ρ : Env), I i ρ → wp (g (natD i) ρ) (tag fun ρ1 => wp (b ρ1) (tag (forK (tag (I (i + 1))) (tag Q))))) (hq : ∀ ρ, I n ρ → Q (.nxt ρ)) : wp (forGo g b ((List.range n).map natD) ρ) (tag Q) :=
  wp_forM I h0 (fun i h ρ hI => by
    rw [List.getElem_range]
    exact hs i (by simpa using h) ρ hI) (fun ρ h => hq ρ (by simpa using h))
@[simp] theorem pairsD_len {xs : List PD} : (pairsD xs).length = xs.length := by unfold pairsD; simp
theorem wp_while {c : XWT} {b : XS} {n : Nat} {Q : Out → Prop} (I : Nat → Env → Prop) {k : Nat} (hk : k < n) (h0 : I k ρ) (hs : ∀ (k : Nat) (ρ : Env), I k ρ → wp (c ρ) (tag fun x => (x.1 = false → Q (.nxt x.2)) ∧ (x.1 = true → wp (b x.2) (tag (forK (tag fun ρ => ∃ j, j < k ∧ I j ρ) (tag Q)))))) : wp (whGo c b n ρ) (tag Q) := by
  induction n generalizing k ρ with
  | zero => omega
  | succ n ih =>
    obtain ⟨⟨t, ρ1⟩, e1, h1, h2⟩ := hs k ρ h0
    unfold whGo
    rw [e1, Option.bind_some]
    cases t with
    | false => exact ⟨_, rfl, h1 rfl⟩
    | true =>
      obtain ⟨o, e2, h3⟩ := h2 rfl
      have e2 : b ρ1 = some o := e2
      simp only [if_true, e2, Option.bind_some]
      cases o with
      | nxt ρ2 => obtain ⟨j, hj, hI⟩ := h3.to; exact ih (by omega) hI
      | cnt ρ2 => obtain ⟨j, hj, hI⟩ := h3.to; exact ih (by omega) hI
      | brk ρ2 => exact ⟨_, rfl, h3⟩
      | ret d ρ2 => exact ⟨_, rfl, h3⟩
      | retO d ρ2 => exact ⟨_, rfl, h3⟩
theorem wp_lc {α : Type} {g : XGV} {t : XT} {e : XE} {enc : α → PD} (p : α → Bool) (f : α → PD) {l : List α} {Q : List PD → Prop} (h : ∀ x ∈ l, wp (g (enc x) v) (tag fun v1 => wp (t v1) (tag fun b => b = p x ∧ (p x = true → wp (e v1) (tag fun d => d = f x))))) (hq : Q ((l.filter p).map f)) : wp (lcGo g t e v (l.map enc)) (tag Q) := by
  have main : ∀ l : List α, (∀ x ∈ l, wp (g (enc x) v) (tag fun v1 => wp (t v1) (tag fun b => b = p x ∧ (p x = true → wp (e v1) (tag fun d => d = f x))))) → lcGo g t e v (l.map enc) = some ((l.filter p).map f) := by
    intro l
    induction l with
    | nil => intro _; rfl
    | cons x xs ih =>
      intro h
      obtain ⟨v1, h1, b, h2, hb, h3⟩ := h x (List.mem_cons_self ..)
      subst hb
      have ih := ih fun y hy => h y (List.mem_cons_of_mem _ hy)
      rw [List.map_cons]
      unfold lcGo
      rw [h1, Option.bind_some, h2, Option.bind_some, ih]
      cases hp : p x with
      | true =>
        obtain ⟨d, h4, h5⟩ := h3 hp
        subst h5
        rw [if_pos rfl, h4, List.filter_cons, if_pos hp]
        rfl
      | false => rw [if_neg Bool.false_ne_true, List.filter_cons, if_neg (by rw [hp]; exact Bool.false_ne_true)]
  exact ⟨_, main l h, hq⟩
theorem wp_lcT {α : Type} {g : XGV} {e : XE} {enc : α → PD} (f : α → PD) {l : List α} {Q : List PD → Prop} (h : ∀ x ∈ l, wp (g (enc x) v) (tag fun v1 => wp (e v1) (tag fun d => d = f x))) (hq : Q (l.map f)) : wp (lcGo g xYes e v (l.map enc)) (tag Q) :=
  wp_lc (fun _ => true) f (fun x hx => wp_mono (h x hx) fun v1 h1 => ⟨true, rfl, rfl, fun _ => h1⟩) (by rw [List.filter_eq_self.mpr fun _ _ => rfl]; exact hq)
theorem wp_wl {g : XG} {t : XWT} {e : XW} {vs : List Nat} {xs : List PD} {Q : List PD × Env → Prop} (I : Nat → List PD → Env → Prop) (h0 : I 0 [] ρ) (hs : ∀ (i : Nat) (h : i < xs.length) (ds : List PD) (ρ : Env), I i ds ρ → wp (g xs[i] (clearE ρ vs)) (tag fun ρ1 => wp (t ρ1) (tag fun b => (b.1 = true → wp (e b.2) (tag fun d => Inv (tag (I (i + 1) (ds ++ [d.1]))) d.2)) ∧ (b.1 = false → Inv (tag (I (i + 1) ds)) b.2)))) (hq : ∀ ds ρ, I xs.length ds ρ → Q (ds, ρ)) : wp (wlGo g t e vs xs ρ) (tag Q) := by
  have main : ∀ (xs : List PD) (I : Nat → List PD → Env → Prop) (acc : List PD) (ρ : Env), I 0 acc ρ → (∀ (i : Nat) (h : i < xs.length) (ds : List PD) (ρ : Env), I i ds ρ → wp (g xs[i] (clearE ρ vs)) (tag fun ρ1 => wp (t ρ1) (tag fun b => (b.1 = true → wp (e b.2) (tag fun d => Inv (tag (I (i + 1) (ds ++ [d.1]))) d.2)) ∧ (b.1 = false → Inv (tag (I (i + 1) ds)) b.2)))) → ∃ ds ρ', wlGo g t e vs xs ρ = some (ds, ρ') ∧ I xs.length (acc ++ ds) ρ' := by
    intro xs
    induction xs with
    | nil => intro I acc ρ h0 _; exact ⟨[], ρ, rfl, by simpa using h0⟩
    | cons x xs ih =>
      intro I acc ρ h0 hs
      obtain ⟨ρ1, e1, ⟨b, ρ2⟩, e2, h1, h2⟩ := hs 0 (Nat.succ_pos _) acc ρ h0
      have e1 : g x (clearE ρ vs) = some ρ1 := e1
      unfold wlGo
      rw [e1, Option.bind_some, e2, Option.bind_some]
      cases b with
      | true =>
        obtain ⟨⟨d, ρ3⟩, e3, h3⟩ := h1 rfl
        obtain ⟨ds, ρ', e4, h4⟩ := ih (fun i => I (i + 1)) (acc ++ [d]) ρ3 h3.to fun i hi ds ρ hI => hs (i + 1) (Nat.succ_lt_succ hi) ds ρ hI
        refine ⟨d :: ds, ρ', ?_, by simpa using h4⟩
        have e3 : e ρ2 = some (d, ρ3) := e3
        simp only [if_true, e3, Option.bind_some, e4]
      | false =>
        obtain ⟨ds, ρ', e4, h4⟩ := ih (fun i => I (i + 1)) acc ρ2 (h2 rfl).to fun i hi ds ρ hI => hs (i + 1) (Nat.succ_lt_succ hi) ds ρ hI
        refine ⟨ds, ρ', ?_, by simpa using h4⟩
        simp [e4]
  obtain ⟨ds, ρ', e1, h1⟩ := main xs I [] ρ h0 hs
  exact ⟨_, e1, hq ds ρ' (by simpa using h1)⟩
theorem emod_nat {a b : Int} (hb : 0 < b) : ∃ j : Nat, (j : Int) < b ∧ a % b = (j : Int) := by
  have h1 := Int.emod_nonneg a (show b ≠ 0 by omega)
  have h2 := Int.emod_lt_of_pos a hb
  exact ⟨(a % b).toNat, by omega, by omega⟩
theorem atI_nat' {α : Type} {xs : List α} {k : Nat} : atI xs (k : Int) = xs[k]? := by
  unfold atI ixN
  by_cases h : k < xs.length
  · rw [if_pos (by omega), if_pos (by omega)]
    simp
  · rw [if_pos (by omega), if_neg (by omega)]
    simp
    omega
theorem atI_at {α : Type} {xs : List α} {k : Nat} (h : k < xs.length) : atI xs (k : Int) = some xs[k] := by rw [atI_nat', List.getElem?_eq_getElem h]
theorem atI_map {α β : Type} {f : α → β} {xs : List α} {k : Nat} (h : k < xs.length) : atI (xs.map f) (k : Int) = some (f xs[k]) := by rw [atI_nat', List.getElem?_map, List.getElem?_eq_getElem h]; rfl
theorem atI_int {α β : Type} {f : α → β} {xs : List α} {k : Int} (h0 : 0 ≤ k) (h : k.toNat < xs.length) : atI (xs.map f) k = some (f xs[k.toNat]) := by
  obtain ⟨j, rfl⟩ : ∃ j : Nat, k = (j : Int) := ⟨k.toNat, by omega⟩
  exact atI_map (by simpa using h)
@[simp] theorem atI_0 {α : Type} {x : α} {xs : List α} : atI (x :: xs) 0 = some x := by simpa using atI_nat' (xs := x :: xs) (k := 0)
@[simp] theorem atI_1 {α : Type} {x y : α} {xs : List α} : atI (x :: y :: xs) 1 = some y := by simpa using atI_nat' (xs := x :: y :: xs) (k := 1)
@[simp] theorem atI_2 {α : Type} {x y z : α} {xs : List α} : atI (x :: y :: z :: xs) 2 = some z := by simpa using atI_nat' (xs := x :: y :: z :: xs) (k := 2)
@[simp] theorem atI_3 {α : Type} {x y z u : α} {xs : List α} : atI (x :: y :: z :: u :: xs) 3 = some u := by simpa using atI_nat' (xs := x :: y :: z :: u :: xs) (k := 3)
@[simp] theorem ixN_20 : ixN 2 0 = some 0 := (rfl)
@[simp] theorem ixN_21 : ixN 2 1 = some 1 := (rfl)
@[simp] theorem ixN_30 : ixN 3 0 = some 0 := (rfl)
@[simp] theorem ixN_31 : ixN 3 1 = some 1 := (rfl)
@[simp] theorem ixN_32 : ixN 3 2 = some 2 := (rfl)
@[simp] theorem ixN_40 : ixN 4 0 = some 0 := (rfl)
@[simp] theorem ixN_41 : ixN 4 1 = some 1 := (rfl)
@[simp] theorem ixN_42 : ixN 4 2 = some 2 := (rfl)
@[simp] theorem ixN_43 : ixN 4 3 = some 3 := (rfl)
theorem ixN_nat' {n k : Nat} (h : k < n) : ixN n (k : Int) = some k := by
  unfold ixN
  rw [if_pos (by omega), if_pos (by omega)]
  simp
@[simp] theorem datAt_0 {d : PD} {r : List Cel} : datAt (.dat d :: r) 0 = some d := (rfl)
@[simp] theorem datAt_S {c : Cel} {r : List Cel} {i : Nat} : datAt (c :: r) (i + 1) = datAt r i := (rfl)
theorem wp_pick {α : Type} {l : List α} {r : Nat} {Q : α → Prop} (h : r < l.length) (hq : ∀ x ∈ l, Q x) : wp (atI l (r : Int)) (tag Q) := by
  rw [atI_at h]
  exact ⟨_, rfl, hq _ (List.getElem_mem h)⟩
theorem unI_nats (ns : List Nat) : unI (ns.map natD) = some (ns.map fun (n : Nat) => (n : Int)) := by
  have e : ns.map natD = (ns.map fun (n : Nat) => (n : Int)).map PyData.int := by rw [List.map_map]; rfl
  rw [e]
  exact @unI_map kk0 _
theorem unB_of {α : Type} (f : α → Bool) (l : List α) : unB (l.map fun x => PyData.bool (f x)) = some (l.map f) := by
  have e : (l.map fun x => PyData.bool (f x)) = (l.map f).map PyData.bool := by rw [List.map_map]; rfl
  rw [e]
  exact @unB_map kk0 _
end
end Uv
namespace Uv
theorem erase_perm {α : Type} : ∀ {l : List α} {j : Nat} (h : j < l.length), (l[j] :: l.eraseIdx j).Perm l
  | x :: xs, 0, _ => .refl _
  | x :: xs, j + 1, h => by
    have ih := erase_perm (l := xs) (j := j) (by simpa using h)
    simpa using (List.Perm.swap x (xs[j]'(by simpa using h)) (xs.eraseIdx j)).symm.symm.trans (ih.cons x)
theorem erase_map {α β : Type} (f : α → β) : ∀ (l : List α) (j : Nat), (l.map f).eraseIdx j = (l.eraseIdx j).map f
  | [], _ => rfl
  | x :: xs, 0 => rfl
  | x :: xs, j + 1 => by simp [erase_map f xs j]
end Uv

namespace Uv
open PySem PySem.Spec PyProof.Rows L2
structure Road where
  b : Option Nat
  e : Option Nat
  r : Int
structure Web where
  roads : List Road
  gives : List (List Nat)
  takes : List (List Nat)
def endD : Option Nat → PD
  | none => .none
  | some n => natD n
def roadD (x : Road) : PD := .tuple [endD x.b, endD x.e, .int x.r]
def natsD (l : List Nat) : PD := .tuple (l.map natD)
def webD (W : Web) : PD := .tuple [.tuple (W.roads.map roadD), .tuple (W.gives.map natsD), .tuple (W.takes.map natsD)]
def side (s : Nat) (x : Road) : Option Nat := if s = 0 then x.b else x.e
def atR (rs : List Road) (s h : Nat) : List Nat := (rs.zipIdx.filter fun p => side s p.1 == some h).map (·.2)
def OkRoad (n : Nat) (x : Road) : Prop := x.b ≠ x.e ∧ (∀ h, x.b = some h → h < n) ∧ (∀ h, x.e = some h → h < n) ∧ 0 ≤ x.r ∧ x.r ≤ 1000000000000
structure IsWeb (W : Web) : Prop where
  houses : 1 ≤ W.gives.length ∧ W.gives.length ≤ 8
  same : W.takes.length = W.gives.length
  count : 1 ≤ W.roads.length ∧ W.roads.length ≤ 20
  road : ∀ x ∈ W.roads, OkRoad W.gives.length x
  give : ∀ (h : Nat) (l : List Nat), W.gives[h]? = some l → l.Perm (atR W.roads 0 h)
  take : ∀ (h : Nat) (l : List Nat), W.takes[h]? = some l → l.Perm (atR W.roads 1 h)
theorem atR_lt {rs : List Road} {s h k : Nat} (hk : k ∈ atR rs s h) : k < rs.length := by
  unfold atR at hk
  obtain ⟨⟨x, j⟩, h1, rfl⟩ := List.mem_map.mp hk
  have h2 := (List.mem_filter.mp h1).1
  have h3 := List.mem_zipIdx h2
  simp at h3
  omega
theorem zip_sorted {α : Type} : ∀ (xs : List α) (n : Nat) (p : α × Nat → Bool), (((xs.zipIdx n).filter p).map (·.2)).Pairwise (· < ·) ∧ ∀ k ∈ ((xs.zipIdx n).filter p).map (·.2), n ≤ k
  | [], n, p => by simp
  | x :: xs, n, p => by
    obtain ⟨h1, h2⟩ := zip_sorted xs (n + 1) p
    rw [List.zipIdx_cons, List.filter_cons]
    by_cases c : p (x, n) = true
    · rw [if_pos c, List.map_cons]
      refine ⟨List.pairwise_cons.mpr ⟨fun k hk => by have := h2 k hk; show n < k; omega, h1⟩, fun k hk => ?_⟩
      rcases List.mem_cons.mp hk with e | e
      · rw [e]; exact Nat.le_refl _
      · have := h2 k e; omega
    · rw [if_neg c]
      exact ⟨h1, fun k hk => by have := h2 k hk; omega⟩
theorem atR_sorted (rs : List Road) (s h : Nat) : (atR rs s h).Pairwise (· < ·) := (zip_sorted rs 0 _).1
theorem sort_perm {l m : List Nat} (p : l.Perm m) (hm : m.Pairwise (· < ·)) : sortI (l.map fun (n : Nat) => (n : Int)) = m.map fun (n : Nat) => (n : Int) := by
  refine @sorted_eq kk0 _ _ ((@sortI_perm kk0 _).trans (p.map _)) (@sortI_sorted kk0 _) ?_
  rw [List.pairwise_map]
  exact hm.imp fun h => by omega
end Uv

namespace Uv
open PySem PySem.Spec PyProof.Rows L2
theorem ok_app {a b : Str} (ha : PyData.strOk a = true) (hb : PyData.strOk b = true) : PyData.strOk (a ++ b) = true := by
  show ((a.cps ++ b.cps).all _) = true
  rw [Array.all_append]
  exact Bool.and_eq_true_iff.mpr ⟨ha, hb⟩
theorem ok_ofS (x : String) : PyData.strOk (Str.ofString x) = true := by
  rw [Str.ofString_eq_toList]
  unfold PyData.strOk
  simp only [List.all_toArray, List.all_map, List.all_eq_true]
  intro c _
  have := c.valid
  simp only [Function.comp_apply, decide_eq_true_eq]
  have h : c.toNat = c.val.toNat := rfl
  rcases this with h1 | h1
  · omega
  · omega
theorem ok_join {sep : Str} (hs : PyData.strOk sep = true) : ∀ {ts : List Str}, (∀ t ∈ ts, PyData.strOk t = true) → PyData.strOk (Str.join sep ts) = true
  | [], _ => by simp [Str.join, Str.empty, PyData.strOk]
  | [t], h => h t (List.mem_cons_self ..)
  | t :: u :: r, h => by
    show PyData.strOk (t ++ sep ++ Str.join sep (u :: r)) = true
    exact ok_app (ok_app (h t (List.mem_cons_self ..)) hs) (ok_join hs fun x hx => h x (List.mem_cons_of_mem _ hx))
theorem ok_from : ∀ {ts : List Str} {k : Nat} {acc : Str}, PyData.strOk acc = true → (∀ t ∈ ts, PyData.strOk t = true) → PyData.strOk (textFrom k acc ts) = true
  | [], _, _, ha, _ => ha
  | t :: r, k, acc, ha, h => by
    show PyData.strOk (textFrom (k + 1) _ r) = true
    exact ok_from (ok_app (ok_app ha (ok_ofS _)) (h t (List.mem_cons_self ..))) fun x hx => h x (List.mem_cons_of_mem _ hx)
structure Sho (k n : Nat) (d : PD) : Prop where
  sh : d.showable = true
  nd : scrF d = true
  dp : d.depth ≤ k
  ln : d.shown.length ≤ n
  ok : PyData.strOk d.shown = true
section
variable {k n : Nat} {d : PD} {ds : List PD}
theorem Sho.mono {k' n' : Nat} (h : Sho k n d) (hk : k ≤ k') (hn : n ≤ n') : Sho k' n' d := ⟨h.sh, h.nd, Nat.le_trans h.dp hk, Nat.le_trans h.ln hn, h.ok⟩
theorem Sho.non : Sho k 5 .none := ⟨rfl, rfl, Nat.zero_le _, by decide, ok_ofS _⟩
theorem Sho.bool {b : Bool} : Sho k 5 (.bool b) := ⟨rfl, rfl, Nat.zero_le _, by cases b <;> decide, by cases b <;> exact ok_ofS _⟩
theorem Sho.int {i : Int} (h : i.natAbs < 10 ^ 40) : Sho k 41 (.int i) := by
  refine ⟨?_, rfl, Nat.zero_le _, ?_, ok_ofS _⟩
  · rw [PyData.showable, decide_eq_true_eq]
    by_cases c : i.natAbs = 0
    · rw [c]; decide
    · have : i.natAbs.log2 < 140 := (Nat.log2_lt c).mpr (Nat.lt_of_lt_of_le h (by decide))
      omega
  · show (Str.ofString (toString i)).length ≤ 41
    rw [PySem.ofString_length]
    exact int_text_length_le10 (k := 40) (by decide) h
theorem all_show (h : ∀ d ∈ ds, PyData.showable d = true) : PyData.showableAll ds = true := by
  induction ds with
  | nil => rfl
  | cons d ds ih => rw [PyData.showableAll, h d (List.mem_cons_self ..), ih fun x hx => h x (List.mem_cons_of_mem _ hx)]; rfl
theorem all_noD (h : ∀ d ∈ ds, scrF d = true) : scrFs ds = true := by
  induction ds with
  | nil => rfl
  | cons d ds ih => rw [scrFs, h d (List.mem_cons_self ..), ih fun x hx => h x (List.mem_cons_of_mem _ hx)]; rfl
theorem all_depth (h : ∀ d ∈ ds, PyData.depth d ≤ n) : PyData.depthAll ds ≤ n := by
  induction ds with
  | nil => exact Nat.zero_le _
  | cons d ds ih =>
    have h1 := h d (List.mem_cons_self ..)
    have h2 := ih fun x hx => h x (List.mem_cons_of_mem _ hx)
    rw [PyData.depthAll]
    omega
theorem all_shown (h : ∀ d ∈ ds, PyData.strOk d.shown = true) : ∀ t ∈ PyData.shownAll ds, PyData.strOk t = true := by
  induction ds with
  | nil => intro t ht; exact nomatch ht
  | cons d ds ih =>
    intro t ht
    rw [PyData.shownAll] at ht
    rcases List.mem_cons.mp ht with e | e
    · rw [e]; exact h d (List.mem_cons_self ..)
    · exact ih (fun x hx => h x (List.mem_cons_of_mem _ hx)) t e
theorem all_len (h : ∀ d ∈ ds, d.shown.length ≤ n) : ((PyData.shownAll ds).map (·.length)).sum + 2 * (PyData.shownAll ds).length ≤ ds.length * (n + 2) := by
  induction ds with
  | nil => exact Nat.zero_le _
  | cons d ds ih =>
    have h1 := h d (List.mem_cons_self ..)
    have h2 := ih fun x hx => h x (List.mem_cons_of_mem _ hx)
    rw [PyData.shownAll]
    simp only [List.map_cons, List.sum_cons, List.length_cons, Nat.succ_mul]
    omega
theorem Sho.tup {L : Nat} (h : ∀ d ∈ ds, Sho k n d) (hl : ds.length ≤ L) : Sho (k + 1) (L * (n + 2) + 3) (.tuple ds) := by
  refine ⟨all_show fun d hd => (h d hd).sh, all_noD fun d hd => (h d hd).nd, Nat.succ_le_succ (all_depth fun d hd => (h d hd).dp), ?_, ?_⟩
  · have h1 := tupleText_len_le (PyData.shownAll ds)
    have h2 := all_len fun d hd => (h d hd).ln
    have h3 := Nat.mul_le_mul_right (n + 2) hl
    show (tupleText (PyData.shownAll ds)).length ≤ _
    omega
  · exact ok_app (ok_app (ok_ofS _) (ok_join (ok_ofS _) (all_shown fun d hd => (h d hd).ok))) (ok_ofS _)
theorem Sho.lst {L : Nat} (h : ∀ d ∈ ds, Sho k n d) (hl : ds.length ≤ L) : Sho (k + 1) (L * (n + 2) + 3) (.list ds) := by
  refine ⟨all_show fun d hd => (h d hd).sh, all_noD fun d hd => (h d hd).nd, Nat.succ_le_succ (all_depth fun d hd => (h d hd).dp), ?_, ?_⟩
  · have h1 := listText_len_le (PyData.shownAll ds)
    have h2 := all_len fun d hd => (h d hd).ln
    have h3 := Nat.mul_le_mul_right (n + 2) hl
    show (listText (PyData.shownAll ds)).length ≤ _
    omega
  · exact ok_app (ok_from (ok_ofS _) (all_shown fun d hd => (h d hd).ok)) (ok_ofS _)
theorem Sho.nat {j : Nat} (h : j < 10 ^ 40) : Sho k 41 (natD j) := Sho.int (by show (j : Int).natAbs < _; omega)
theorem Sho.nats {l : List Nat} {L : Nat} (h : ∀ j ∈ l, j < 10 ^ 40) (hl : l.length ≤ L) : Sho (k + 1) (L * 43 + 3) (natsD l) := Sho.tup (fun d hd => by obtain ⟨j, hj, rfl⟩ := List.mem_map.mp hd; exact Sho.nat (h j hj)) (by simpa using hl)
theorem Sho.can (h : Sho 60 10000000 d) : CanShow d := ⟨h.sh, h.nd, h.dp, Nat.le_trans h.ln (by rw [sizeLine_eq]; decide)⟩
theorem rp_of (h : Sho 60 10000000 d) : reprP d = some (.str d.shown) := by
  unfold reprP
  rw [if_pos h.can]
theorem ne_str {x : Str} (h : PyData.strOk x = true) : neP (.str x) (.str x) = some (.bool false) := by
  have e : SeqAt.shaped (.str x) = true := by
    unfold SeqAt.shaped
    rw [show PyData.canLay0 (.str x) = PyData.strOk x by simp [PyData.canLay0], h]
    rfl
  unfold neP
  rw [if_pos ⟨e, e⟩]
  simp [PyData.eqv]
theorem ne_shown (h : Sho 60 10000000 d) : neP (.str d.shown) (.str d.shown) = some (.bool false) := ne_str h.ok
structure Lay (k : Nat) (d : PD) : Prop where
  cl : d.canLay0 = true
  dp : d.depth ≤ k
theorem all_lay (h : ∀ d ∈ ds, PyData.canLay0 d = true) : PyData.canLayAll0 ds = true := by
  induction ds with
  | nil => rfl
  | cons d ds ih => rw [PyData.canLayAll0, h d (List.mem_cons_self ..), ih fun x hx => h x (List.mem_cons_of_mem _ hx)]; rfl
theorem Lay.int {i : Int} : Lay k (.int i) := ⟨rfl, Nat.zero_le _⟩
theorem Lay.lst (h : ∀ d ∈ ds, Lay k d) : Lay (k + 1) (.list ds) := ⟨all_lay fun d hd => (h d hd).cl, Nat.succ_le_succ (all_depth fun d hd => (h d hd).dp)⟩
theorem Lay.mono {k' : Nat} (h : Lay k d) (hk : k ≤ k') : Lay k' d := ⟨h.cl, Nat.le_trans h.dp hk⟩
theorem Lay.sh (h : Lay 60 d) : SeqAt.shaped d = true := by
  unfold SeqAt.shaped
  rw [h.cl, Bool.true_and, decide_eq_true_eq]
  exact Nat.le_trans h.dp (by decide)
theorem Lay.map {α : Type} {f : α → PD} {l : List α} (h : ∀ x, Lay k (f x)) : ∀ d ∈ l.map f, Lay k d := fun d hd => by obtain ⟨x, _, rfl⟩ := List.mem_map.mp hd; exact h x
theorem Lay.natsL {l : List Nat} : Lay (k + 1) (.list (l.map natD)) := Lay.lst (Lay.map fun _ => Lay.int)
theorem eqP_lay {e : PD} (h : Lay 60 d) (h' : Lay 60 e) : eqP d e = some (.bool (PyData.eqv d e)) := by unfold eqP; rw [if_pos ⟨h.sh, h'.sh⟩]
theorem neP_lay {e : PD} (h : Lay 60 d) (h' : Lay 60 e) : neP d e = some (.bool (!PyData.eqv d e)) := by unfold neP; rw [if_pos ⟨h.sh, h'.sh⟩]
theorem eqv_nats {l m : List Nat} : PyData.eqvAll (l.map natD) (m.map natD) = (l == m) := by
  induction l generalizing m with
  | nil => cases m <;> rfl
  | cons x xs ih => cases m with
    | nil => rfl
    | cons y ys =>
      have e : ((x : Int) == (y : Int)) = (x == y) := Bool.eq_iff_iff.mpr (by simp; omega)
      simp [PyData.eqvAll, PyData.eqv, ih, e]
theorem eqv_ints {l m : List Int} : PyData.eqvAll (l.map PyData.int) (m.map PyData.int) = (l == m) := by
  induction l generalizing m with
  | nil => cases m <;> rfl
  | cons x xs ih => cases m with
    | nil => rfl
    | cons y ys => simp [PyData.eqvAll, PyData.eqv, ih]
end
end Uv

namespace Uv
open PySem PySem.Spec PyProof.Rows L2
structure Tie where
  g : Nat
  t : Nat
  r : Int
structure Seat where
  much : Int
  order : List Nat
structure Fair where
  ties : List Tie
  givers : List Seat
  takers : List Seat
def intsD (l : List Int) : PD := .tuple (l.map PyData.int)
section
variable {ρ : Env} {v : VE}
@[simp] theorem q_cat {xs ys : List PD} : catP (.list xs) (.list ys) = grd (xs.length + ys.length ≤ 100000) (some (.list (xs ++ ys))) := by unfold catP; simp only [grd_ite]
@[simp] theorem q_mul_l {xs : List PD} {j : Int} : mulP (.list xs) (.int j) = grd (0 ≤ j ∧ j ≤ 100000 ∧ xs.length * j.toNat ≤ 100000) (some (.list (List.replicate j.toNat xs).flatten)) := by unfold mulP; simp only [grd_ite]
@[simp] theorem q_mulU_i {i j : Int} : mulU (.int i) (.int j) = grd (In64 i ∨ In64 j) (some (.int (i * j))) := by show mulP (.int i) (.int j) = _; exact q_mul
@[simp] theorem q_mulU_l {xs : List PD} {j : Int} : mulU (.list xs) (.int j) = grd (0 ≤ j ∧ j ≤ 100000 ∧ xs.length * j.toNat ≤ 100000) (some (.list (List.replicate j.toNat xs).flatten)) := by show mulP (.list xs) (.int j) = _; exact q_mul_l
@[simp] theorem q_mulU_t {xs : List PD} {j : Int} : mulU (.tuple xs) (.int j) = grd (xs ≠ [] ∧ 0 ≤ j ∧ j ≤ 1000 ∧ xs.length ≤ 1000) (some (.tuple (List.replicate j.toNat xs).flatten)) := by unfold mulU; simp only [grd_ite]
@[simp] theorem q_maxP_2 {i j : Int} : maxP [.int i, .int j] = some (.int (if j > i then j else i)) := (rfl)
@[simp] theorem q_back_l {ds : List PD} : backP (.list ds) = some (.list ds.reverse) := (rfl)
@[simp] theorem q_back_t {ds : List PD} : backP (.tuple ds) = some (.tuple ds.reverse) := (rfl)
theorem q_rgP {n : Int} : rgP (.int n) = grd (-(2 ^ 62) ≤ n ∧ n ≤ 100000) (some ((List.range n.toNat).map natD)) := by unfold rgP; simp only [grd_ite]
structure Rg (n : Int) : Prop where
  lo : -(2 ^ 62) ≤ n
  hi : n ≤ 100000
theorem rg_nat {n : Nat} (h : n ≤ 100000) : Rg (n : Int) := ⟨by omega, by omega⟩
@[simp] theorem q_rgL {n : Int} : rgL (.int n) = grd (Rg n) (some (.list ((List.range n.toNat).map natD))) := by
  unfold rgL
  rw [q_rgP, grd_iff (c' := Rg n) ⟨fun h => ⟨h.1, h.2⟩, fun h => ⟨h.lo, h.hi⟩⟩]
  unfold grd
  split <;> rfl
@[simp] theorem q_three {a b c : Cel} : three [a, b, c] = some (a, b, c) := (rfl)
@[simp] theorem q_sPar3 {i j k : Nat} {as : XWC} : sPar3 i j k as ρ = (as ρ).bind fun x => (three x.1).bind fun c => grd (i < x.2.length ∧ j < x.2.length ∧ k < x.2.length) (some (.nxt (((x.2.set i (toSl c.1)).set j (toSl c.2.1)).set k (toSl c.2.2)))) := by unfold sPar3; simp only [grd_ite]
end
section
variable {l : List Nat} {m : List Int} {W : Web} {F : Fair} {x : Road} {t : Tie} {s : Seat} {i : Int} {k : Nat}
@[simp] theorem n_seq : seqP (natsD l) = some (l.map natD) := (rfl)
@[simp] theorem n_len : lenP (natsD l) = some (natD l.length) := by unfold natsD; simp
@[simp] theorem n_ix : ixP (natsD l) (.int i) = atI (l.map natD) i := (rfl)
@[simp] theorem n_tup : tupP (natsD l) = some (natsD l) := (rfl)
@[simp] theorem n_lst : listP (natsD l) = some (.list (l.map natD)) := (rfl)
@[simp] theorem n_full : full (natsD l) = false := (rfl)
@[simp] theorem n_isT : isTy .tuple (natsD l) = true := (rfl)
@[simp] theorem n_enum : enumP [natsD l] = some (pairsD (l.map natD)) := (rfl)
@[simp] theorem n_none : isNone (natsD l) = false := (rfl)
@[simp] theorem n_addR {ds : List PD} : addP (.tuple ds) (natsD l) = grd (ds.length + l.length ≤ 100000) (some (.tuple (ds ++ l.map natD))) := by
  unfold natsD
  rw [q_add_t, List.length_map]
theorem flats_of {ds : List PD} (h : ∀ d ∈ ds, flat d = true) : flats ds = true := by
  induction ds with
  | nil => rfl
  | cons d ds ih => rw [q_flats_cons, h d (List.mem_cons_self ..), ih fun x hx => h x (List.mem_cons_of_mem _ hx)]; rfl
theorem flats_map {α : Type} {f : α → PD} {l : List α} (h : ∀ x, flat (f x) = true) : flats (l.map f) = true := flats_of fun d hd => by obtain ⟨x, _, rfl⟩ := List.mem_map.mp hd; exact h x
@[simp] theorem n_flat : flat (natsD l) = true := by unfold natsD; rw [q_flat_t]; exact flats_map fun _ => q_flat_i
@[simp] theorem n_flats : flats (l.map natD) = true := flats_map fun _ => q_flat_i
@[simp] theorem i_flats : flats (m.map PyData.int) = true := flats_map fun _ => q_flat_i
@[simp] theorem i_seq : seqP (intsD m) = some (m.map PyData.int) := (rfl)
@[simp] theorem i_len : lenP (intsD m) = some (natD m.length) := by unfold intsD; simp
@[simp] theorem i_ix : ixP (intsD m) (.int i) = atI (m.map PyData.int) i := (rfl)
@[simp] theorem i_tup : tupP (intsD m) = some (intsD m) := (rfl)
@[simp] theorem i_lst : listP (intsD m) = some (.list (m.map PyData.int)) := (rfl)
@[simp] theorem i_full : full (intsD m) = false := (rfl)
@[simp] theorem i_isT : isTy .tuple (intsD m) = true := (rfl)
@[simp] theorem i_enum : enumP [intsD m] = some (pairsD (m.map PyData.int)) := (rfl)
@[simp] theorem i_none : isNone (intsD m) = false := (rfl)
@[simp] theorem i_flat : flat (intsD m) = true := by unfold intsD; rw [q_flat_t]; exact i_flats
@[simp] theorem w_seq : seqP (webD W) = some [.tuple (W.roads.map roadD), .tuple (W.gives.map natsD), .tuple (W.takes.map natsD)] := (rfl)
@[simp] theorem w_0 : ixP (webD W) (.int 0) = some (.tuple (W.roads.map roadD)) := (rfl)
@[simp] theorem w_1 : ixP (webD W) (.int 1) = some (.tuple (W.gives.map natsD)) := (rfl)
@[simp] theorem w_2 : ixP (webD W) (.int 2) = some (.tuple (W.takes.map natsD)) := (rfl)
@[simp] theorem w_full : full (webD W) = false := (rfl)
@[simp] theorem w_none : isNone (webD W) = false := (rfl)
@[simp] theorem r_seq : seqP (roadD x) = some [endD x.b, endD x.e, .int x.r] := (rfl)
@[simp] theorem r_0 : ixP (roadD x) (.int 0) = some (endD x.b) := (rfl)
@[simp] theorem r_1 : ixP (roadD x) (.int 1) = some (endD x.e) := (rfl)
@[simp] theorem r_2 : ixP (roadD x) (.int 2) = some (.int x.r) := (rfl)
@[simp] theorem e_none {o : Option Nat} : isNone (endD o) = o.isNone := by cases o <;> rfl
@[simp] theorem e_flat {o : Option Nat} : flat (endD o) = true := by cases o <;> simp [endD]
@[simp] theorem r_flat : flat (roadD x) = true := by simp [roadD]
theorem eq_end {o : Option Nat} {h : Nat} : eqP (endD o) (natD h) = some (.bool (o == some h)) := by
  cases o with
  | none => rfl
  | some n => simp [endD]; exact Bool.eq_iff_iff.mpr (by simp; omega)
end
section
variable {i : Int} {b : Bool} {x : Str} {ds : List PD}
@[simp] theorem ty_ii : isTy .int (.int i) = true := (rfl)
@[simp] theorem ty_bi : isTy .bool (.int i) = false := (rfl)
@[simp] theorem ty_ti : isTy .tuple (.int i) = false := (rfl)
@[simp] theorem ty_ib : isTy .int (.bool b) = true := (rfl)
@[simp] theorem ty_bb : isTy .bool (.bool b) = true := (rfl)
@[simp] theorem ty_tt : isTy .tuple (.tuple ds) = true := (rfl)
@[simp] theorem ty_it : isTy .int (.tuple ds) = false := (rfl)
@[simp] theorem ty_bt : isTy .bool (.tuple ds) = false := (rfl)
@[simp] theorem ty_st : isTy .str (.tuple ds) = false := (rfl)
@[simp] theorem ty_in : isTy .int .none = false := (rfl)
@[simp] theorem ty_bn : isTy .bool .none = false := (rfl)
@[simp] theorem ty_tn : isTy .tuple .none = false := (rfl)
@[simp] theorem ty_sn : isTy .str .none = false := (rfl)
@[simp] theorem ty_si : isTy .str (.int i) = false := (rfl)
@[simp] theorem ty_sb : isTy .str (.bool b) = false := (rfl)
@[simp] theorem ty_tb : isTy .tuple (.bool b) = false := (rfl)
theorem q_all {α : Type} {f : α → Bool} {l : List α} : allP (.list (l.map fun x => .bool (f x))) = some (.bool (l.all f)) := by
  unfold allP boolsP
  simp only [unB_of, Option.bind_some, List.all_map]
  rfl
@[simp] theorem all_tt {α : Type} {l : List α} : (l.all fun _ => true) = true := List.all_eq_true.mpr fun _ _ => rfl
theorem q_sort {l : List Nat} : sortP (natsD l) = some (.list ((sortI (l.map fun (n : Nat) => (n : Int))).map PyData.int)) := by
  unfold natsD sortP
  simp only [unI_nats, Option.bind_some]
end
end Uv

namespace Uv
open PySem PySem.Spec PyProof.Rows L2
variable {ρ : Env}
@[simp] theorem q_mk_dic {l : List (Int × PD)} : (Sl.dic l).mk = none := (rfl)
@[simp] theorem q_vw_dic {l : List (Int × PD)} : (Sl.dic l).vw = none := (rfl)
end Uv

namespace Fn
open PySem PySem.Spec PyProof.Rows L2 Uv
@[irreducible] def X__law_deck_f : XS :=
    sRetO (wOL (wcDat (wM (xLc (xiE (xSl (xVar 0) xNoPart (xPart (xC (.int 63))))) (gvName 1) xYes (xCB (on1 absP) (xCons (xVar 1) xNil)) [1])) (wcDat (wM (xC (.int 0))) (wcDat (wM (xC (.int 0))) (wcDat (wM (xC (.int 0))) wcNil)))))
@[irreducible] def F__law_deck_f : List PD → Option (List Cel) := runD 1 1 X__law_deck_f
@[irreducible] def X__law_mixed_b : XS :=
    sRet (wM (xOp divP (xOp modP (xOp powP (xOp addP (xOp addP (xOp modP (xVar 0) (xC (.int 2147483629))) (xOp mulU (xVar 1) (xC (.int 1000003)))) (xC (.int 17))) (xC (.int 5))) (xC (.int 2147483647))) (xC (.int 7))))
@[irreducible] def F__law_mixed_b : List PD → Option PD := runP 2 0 X__law_mixed_b
@[irreducible] def X__law_next_c : XS :=
    sSeq (sSet 0 (xC (.int 3)) (wV (xOp addP (xOp ixP (xVar 0) (xC (.int 3))) (xC (.int 1)))))
    (sSeq (sIf (wVT (xTAnd (xB (xOp eqP (xOp ixP (xVar 0) (xC (.int 2))) (xC (.int 0)))) (xB (xOp ltP (xOp ixP (xVar 0) (xC (.int 1))) (xCB (on1 lenP) (xCons (xOp ixP (xVar 0) (xC (.int 0))) xNil)))))) (sSeq (sAsg (gName' 2) (wV (xOp ixP (xOp ixP (xVar 0) (xC (.int 0))) (xOp ixP (xVar 0) (xC (.int 1))))))
    (sSeq (sSet 0 (xC (.int 1)) (wV (xOp addP (xOp ixP (xVar 0) (xC (.int 1))) (xC (.int 1)))))
    (sSeq (sIf (wMT (xB (xOp ltP (xVar 2) (xOp powP (xC (.int 10)) (xC (.int 18)))))) (sRet (wV (xOp modP (xCB F__law_mixed_b (xCons (xVar 2) (xCons (xOp ixP (xVar 0) (xC (.int 3))) xNil))) (xVar 1)))) sNext)
    (sSet 0 (xC (.int 2)) (wM (xVar 2)))))) sNext)
    (sSeq (sIf (wVT (xB (xOp gtU (xOp ixP (xVar 0) (xC (.int 2))) (xC (.int 0))))) (sSeq (sAsg (gName' 3) (wV (xOp modP (xOp ixP (xVar 0) (xC (.int 2))) (xVar 1))))
    (sSeq (sSet 0 (xC (.int 2)) (wV (xOp divP (xOp ixP (xVar 0) (xC (.int 2))) (xVar 1))))
    (sRet (wM (xVar 3))))) sNext)
    (sSeq (sAsg (gName' 4) (wV (xOp mulU (xOp ixP (xVar 0) (xC (.int 3))) (xC (.int 48271)))))
    (sSeq (sIf (wVT (xB (xOp neP (xOp ixP (xVar 0) (xC (.int 0))) (xLst xNil)))) (sAsg (gName' 4) (wV (xOp addP (xVar 4) (xOp ixP (xOp ixP (xVar 0) (xC (.int 0))) (xOp modP (xOp mulU (xOp ixP (xVar 0) (xC (.int 3))) (xC (.int 7))) (xCB (on1 lenP) (xCons (xOp ixP (xVar 0) (xC (.int 0))) xNil))))))) sNext)
    (sRet (wV (xOp modP (xCB F__law_mixed_b (xCons (xVar 4) (xCons (xOp ixP (xVar 0) (xC (.int 3))) xNil))) (xVar 1))))))))
@[irreducible] def F__law_next_c : List Cel → List PD → Option (PD × List Cel) := runW 1 3 X__law_next_c
@[irreducible] def X__law_odd_e : XS :=
    sSeq (sAsg (gName' 1) (wM (xLst (xCons (xC .none) (xCons (xC (.bool true)) (xCons (xC (.bool false)) (xCons (xC (.int 0)) (xCons (xC (.int 1)) (xCons (xUn negP (xC (.int 1))) (xCons (xC (.int 2)) (xCons (xOp powP (xC (.int 10)) (xC (.int 12))) (xCons (xOp powP (xC (.int 10)) (xC (.int 29))) (xCons (xC (.str "")) (xCons (xC (.str "a")) (xCons (xTup xNil) (xCons (xLst xNil) (xCons (xC (.dict [])) (xCons (xTup (xCons (xC (.int 0)) xNil)) (xCons (xLst (xCons (xC (.int 0)) xNil)) (xCons (xTup (xCons (xC (.int 0)) (xCons (xC (.int 0)) xNil))) (xCons (xTup (xCons (xC (.int 1)) (xCons (xC (.int 0)) xNil))) (xCons (xTup (xCons (xC (.bool true)) xNil)) xNil))))))))))))))))))))))
    (sRet (wOp ixP (wM (xOp addP (xVar 1) (xLst (xCons (xTup (xCons (xC .none) xNil)) (xCons (xTup (xCons (xTup xNil) (xCons (xTup xNil) xNil))) (xCons (xTup (xCons (xTup (xCons (xC (.int 0)) xNil)) (xCons (xTup xNil) xNil))) (xCons (xTup (xCons (xTup (xCons (xC (.int 0)) xNil)) (xCons (xTup (xCons (xC (.int 0)) xNil)) xNil))) (xCons (xD1 "a" (xC (.int 0))) (xCons (xTup (xCons (xTup xNil) xNil)) xNil))))))))) (wCallK 0 F__law_next_c (wCons (wM (xC (.int 25))) wNil))))
@[irreducible] def F__law_odd_e : List Cel → List PD → Option (PD × List Cel) := runW 0 1 X__law_odd_e
@[irreducible] def X__law_bent_e (self : List Cel → List PD → Option (PD × List Cel)) : XS :=
    sSeq (sIf (wTOr (wMT (xB (xOp eqP (xVar 2) (xC (.int 0))))) (wTOr (wMT (xTNot (xB (xIsi .tuple (xVar 1))))) (wTOr (wMT (xB (xOp eqP (xVar 1) (xTup xNil)))) (wB (wOp eqP (wCallK 0 F__law_next_c (wCons (wM (xC (.int 5))) wNil)) (wM (xC (.int 0)))))))) (sSeq (sIf (wTAnd (wMT (xB (xIsi .tuple (xVar 1)))) (wB (wOp gtU (wCallK 0 F__law_next_c (wCons (wM (xC (.int 3))) wNil)) (wM (xC (.int 0)))))) (sRet (wOp ixP (wM (xLst (xCons (xUn listP (xVar 1)) (xCons (xUn backP (xVar 1)) (xCons (xOp addB (xVar 1) (xSl (xVar 1) (xPart (xUn negP (xC (.int 1)))) xNoPart)) (xCons (xSl (xVar 1) (xPart (xC (.int 1))) xNoPart) xNil)))))) (wCallK 0 F__law_next_c (wCons (wM (xC (.int 4))) wNil)))) sNext)
    (sSeq (sIf (wTAnd (wMT (xB (xIsi .int (xVar 1)))) (wB (wOp gtU (wCallK 0 F__law_next_c (wCons (wM (xC (.int 3))) wNil)) (wM (xC (.int 0)))))) (sRet (wOp ixP (wM (xLst (xCons (xOp addB (xVar 1) (xC (.int 1))) (xCons (xOp subB (xVar 1) (xC (.int 1))) (xCons (xOp eqP (xVar 1) (xC (.int 1))) xNil))))) (wCallK 0 F__law_next_c (wCons (wM (xC (.int 3))) wNil)))) sNext)
    (sRet (wCallK 0 F__law_odd_e wNil)))) sNext)
    (sSeq (sAsg (gName' 3) (wCallK 0 F__law_next_c (wCons (wM (xCB (on1 lenP) (xCons (xVar 1) xNil))) wNil)))
    (sRet (wOp addB (wOp addB (wM (xSl (xVar 1) xNoPart (xPart (xVar 3)))) (wTup (wCons (wCallK 0 self (wCons (wM (xOp ixP (xVar 1) (xVar 3))) (wCons (wM (xOp subB (xVar 2) (xC (.int 1)))) wNil))) wNil))) (wM (xSl (xVar 1) (xPart (xOp addB (xVar 3) (xC (.int 1)))) xNoPart)))))
def F__law_bent_e : Nat → List Cel → List PD → Option (PD × List Cel)
  | 0 => fun _ _ => none
  | n + 1 => runW 2 1 (X__law_bent_e (F__law_bent_e n))
@[irreducible] def X__law_ordered_b : XS :=
    sSeq (sAsg (gName' 4) (wM (xOp addP (xOp addP (xSl (xOp ixP (xVar 0) (xVar 3)) xNoPart (xPart (xVar 1))) (xTup (xCons (xVar 2) xNil))) (xSl (xOp ixP (xVar 0) (xVar 3)) (xPart (xOp addP (xVar 1) (xC (.int 1)))) xNoPart))))
    (sRet (wM (xTup (xCons (xOp ixP (xVar 0) (xC (.int 0))) (xCons (xOp ixP (xLst (xCons (xVar 4) (xCons (xOp ixP (xVar 0) (xC (.int 1))) xNil))) (xOp subP (xVar 3) (xC (.int 1)))) (xCons (xOp ixP (xLst (xCons (xOp ixP (xVar 0) (xC (.int 2))) (xCons (xVar 4) xNil))) (xOp subP (xVar 3) (xC (.int 1)))) xNil))))))
@[irreducible] def F__law_ordered_b : List PD → Option PD := runP 4 1 X__law_ordered_b
@[irreducible] def X__law_whole_b : XS :=
    sRet (wM (xAnd (xIsi .int (xVar 0)) (xAnd (xNot (xIsi .bool (xVar 0))) (xChain leP leP (xC (.int 0)) (xVar 0) (xVar 1)))))
@[irreducible] def F__law_whole_b : List PD → Option PD := runP 2 0 X__law_whole_b
@[irreducible] def X__law_liking_b : XS :=
    sSeq (sIf (wMT (xTOr (xTNot (xB (xIsi .tuple (xVar 2)))) (xB (xOp neX (xLc (xiE (xVar 2)) (gvName 4) (xTNot (xB (xCB F__law_whole_b (xCons (xVar 4) (xCons (xC (.int 20)) xNil))))) (xVar 4) [4]) (xLst xNil))))) (sRet (wM (xLst (xCons (xC (.str "bad order")) xNil)))) sNext)
    (sSeq (sIf (wMT (xB (xOp neX (xCB (on1 sortP) (xCons (xVar 2) xNil)) (xCB (on1 sortP) (xCons (xOp ixP (xOp ixP (xVar 0) (xVar 3)) (xVar 1)) xNil))))) (sRet (wM (xLst (xCons (xC (.str "bad order")) xNil)))) sNext)
    (sRet (wM (xCB F__law_ordered_b (xCons (xVar 0) (xCons (xVar 1) (xCons (xVar 2) (xCons (xVar 3) xNil))))))))
@[irreducible] def F__law_liking_b : List PD → Option PD := runP 4 1 X__law_liking_b
@[irreducible] def X__law_one_b : XS :=
    sRet (wOp ixP (wM (xVar 1)) (wCallK 0 F__law_next_c (wCons (wM (xCB (on1 lenP) (xCons (xVar 1) xNil))) wNil)))
@[irreducible] def F__law_one_b : List Cel → List PD → Option (PD × List Cel) := runW 1 0 X__law_one_b
@[irreducible] def X__law_order_d_b1 : XS :=
    sApp 3 (wPop 2 (wCallK 0 F__law_next_c (wCons (wV (xCB (on1 lenP) (xCons (xVar 2) xNil))) wNil)))
@[irreducible] def X__law_order_d : XS :=
    sSeq (sPar 2 3 (wcSub (wOM (xUn listP (xVar 1))) (wcSub (wOL wcNil) wcNil)))
    (sSeq (sWhile fuel (wVT (xB (xOp neP (xVar 2) (xLst xNil)))) X__law_order_d_b1)
    (sFz 2 (sFz 3 (sRet (wM (xCB (on1 tupP) (xCons (xVar 3) xNil)))))))
@[irreducible] def F__law_order_d : List Cel → List PD → Option (PD × List Cel) := runW 1 2 X__law_order_d
def tab_k61 : Nat → Option Str
  | 4 => some "no roads"
  | 5 => some "bad order"
  | _ => none
def it_k61_BadOrder : Nat → Option Bool
  | 4 => some false
  | 5 => some true
  | _ => none
def it_k61_Full : Nat → Option Bool
  | 4 => some false
  | 5 => some false
  | _ => none
def it_k61_NoRoads : Nat → Option Bool
  | 4 => some true
  | 5 => some false
  | _ => none
def it_k61_TooGreat : Nat → Option Bool
  | 4 => some false
  | 5 => some false
  | _ => none
def it_k61_ValueError : Nat → Option Bool
  | 4 => some true
  | 5 => some true
  | _ => none
@[irreducible] def X_order_place : XS :=
    sRet (wM (xIf (xB (xVar 0)) (xC (.int 1)) (xC (.int 2))))
@[irreducible] def F_order_place : List PD → Option PD := runP 1 0 X_order_place
@[irreducible] def X_exchanged : XS :=
    sRet (wM (xOp addP (xOp addP (xSl (xVar 0) xNoPart (xPart (xVar 1))) (xTup (xCons (xVar 2) xNil))) (xSl (xVar 0) (xPart (xOp addP (xVar 1) (xC (.int 1)))) xNoPart)))
@[irreducible] def F_exchanged : List PD → Option PD := runP 3 0 X_exchanged
@[irreducible] def X_is_number : XS :=
    sRet (wM (xAnd (xIsi .int (xVar 0)) (xNot (xIsi .bool (xVar 0)))))
@[irreducible] def F_is_number : List PD → Option PD := runP 1 0 X_is_number
@[irreducible] def X_is_order : XS :=
    sRet (wM (xAnd (xIsi .tuple (xVar 0)) (xAnd (xCB (on1 allP) (xCons (xLc (xiE (xVar 0)) (gvName 2) xYes (xCB F_is_number (xCons (xVar 2) xNil)) [2]) xNil)) (xOp eqP (xCB (on1 sortP) (xCons (xVar 0) xNil)) (xVar 1)))))
@[irreducible] def F_is_order : List PD → Option PD := runP 2 1 X_is_order
@[irreducible] def X_with_like_c : XS :=
    sSeq (sAsg (gName' 4) (wM (xCB F_order_place (xCons (xVar 3) xNil))))
    (sSeq (sAsg (gName' 5) (wM (xOp ixP (xVar 0) (xVar 4))))
    (sSeq (sIf (wMT (xTNot (xB (xCB F_is_order (xCons (xVar 2) (xCons (xCB (on1 sortP) (xCons (xOp ixP (xVar 5) (xVar 1)) xNil)) xNil)))))) (sRz 5 xNil) sNext)
    (sRet (wM (xCB F_exchanged (xCons (xVar 0) (xCons (xVar 4) (xCons (xCB F_exchanged (xCons (xVar 5) (xCons (xVar 1) (xCons (xVar 2) xNil)))) xNil))))))))
@[irreducible] def F_with_like_c : List PD → Option PD := runP 4 2 X_with_like_c
@[irreducible] def X_liked_less_c : XS :=
    sSeq (sAsg (gName' 3) (wM (xOp ixP (xOp ixP (xOp ixP (xVar 0) (xC (.int 0))) (xVar 1)) (xIf (xB (xVar 2)) (xC (.int 0)) (xC (.int 1))))))
    (sSeq (sIf (wMT (xB (xOp isU (xVar 3) (xC .none)))) (sRet (wM (xVar 0))) sNext)
    (sSeq (sAsg (gName' 4) (wM (xOp ixP (xOp ixP (xVar 0) (xCB F_order_place (xCons (xVar 2) xNil))) (xVar 3))))
    (sSeq (sAsg (gName' 5) (wM (xOp addP (xCB (on1 tupP) (xCons (xLc (xiE (xVar 4)) (gvName 6) (xB (xOp neP (xVar 6) (xVar 1))) (xVar 6) [6]) xNil)) (xTup (xCons (xVar 1) xNil)))))
    (sRetZ (wZM (xCB F_with_like_c (xApp1 (xCons (xVar 0) (xCons (xVar 3) (xCons (xVar 5) xNil))) (xVar 2))))))))
@[irreducible] def F_liked_less_c : List PD → Option PD := runP 3 4 X_liked_less_c
@[irreducible] def X_orders_without : XS :=
    sRet (wM (xCB (on1 tupP) (xCons (xLc (xiE (xVar 0)) (gvName 2) xYes (xCB (on1 tupP) (xCons (xLc (xiE (xVar 2)) (gvName 3) (xB (xOp neP (xVar 3) (xVar 1))) (xIf (xB (xOp gtU (xVar 3) (xVar 1))) (xOp subP (xVar 3) (xC (.int 1))) (xVar 3)) [3]) xNil)) [2]) xNil)))
@[irreducible] def F_orders_without : List PD → Option PD := runP 2 2 X_orders_without
@[irreducible] def X_without_d : XS :=
    sSeq (sAsg (gTup' 3 (gCons' (gName' 2) (gCons' (gName' 3) (gCons' (gName' 4) gNil')))) (wM (xVar 0)))
    (sSeq (sIf (wMT (xB (xOp eqP (xCB (on1 lenP) (xCons (xVar 2) xNil)) (xC (.int 1))))) (sRz 4 xNil) sNext)
    (sRet (wM (xTup (xCons (xOp addP (xSl (xVar 2) xNoPart (xPart (xVar 1))) (xSl (xVar 2) (xPart (xOp addP (xVar 1) (xC (.int 1)))) xNoPart)) (xCons (xCB F_orders_without (xCons (xVar 3) (xCons (xVar 1) xNil))) (xCons (xCB F_orders_without (xCons (xVar 4) (xCons (xVar 1) xNil))) xNil)))))))
@[irreducible] def F_without_d : List PD → Option PD := runP 2 3 X_without_d
def em_k61_WebError : Nat → Option Bool
  | 4 => some true
  | 5 => some true
  | _ => none
@[irreducible] def X__law_told_v : XS :=
    sSeq (sAsg (gName' 2) (wM (xC .none)))
    (sSeq (sNoZ (sTryAl em_k61_WebError 3 2 tab_k61 (sIf (wMT (xB (xOp eqP (xOp ixP (xVar 1) (xC (.int 0))) (xC (.str "without"))))) (sAsgZ 2 (wZM (xCB F_without_d (xCons (xVar 0) (xCons (xOp ixP (xVar 1) (xC (.int 1))) xNil))))) (sIf (wMT (xB (xOp eqP (xOp ixP (xVar 1) (xC (.int 0))) (xC (.str "less"))))) (sAsgZ 2 (wZM (xCB F_liked_less_c (xApp1 (xCons (xVar 0) (xCons (xOp ixP (xVar 1) (xC (.int 1))) xNil)) (xC (.bool true)))))) (sIf (wMT (xB (xOp eqP (xOp ixP (xVar 1) (xC (.int 0))) (xC (.str "less at"))))) (sAsgZ 2 (wZM (xCB F_liked_less_c (xApp1 (xCons (xVar 0) (xCons (xOp ixP (xVar 1) (xC (.int 1))) xNil)) (xOp eqP (xOp ixP (xVar 1) (xC (.int 2))) (xC (.int 1))))))) (sIf (wMT (xB (xOp eqP (xOp ixP (xVar 1) (xC (.int 0))) (xC (.str "like"))))) (sAsgZ 2 (wZM (xCB F_with_like_c (xApp1 (xCons (xVar 0) (xCons (xOp ixP (xVar 1) (xC (.int 1))) (xCons (xOp ixP (xVar 1) (xC (.int 2))) xNil))) (xC (.bool true)))))) (sAsgZ 2 (wZM (xCB F_with_like_c (xApp1 (xCons (xVar 0) (xCons (xOp ixP (xVar 1) (xC (.int 1))) (xCons (xOp ixP (xVar 1) (xC (.int 2))) xNil))) (xOp eqP (xOp ixP (xVar 1) (xC (.int 3))) (xC (.int 1)))))))))))))
    (sRet (wM (xVar 2))))
@[irreducible] def F__law_told_v : List PD → Option PD := runP 2 2 X__law_told_v
@[irreducible] def X__law_right_z43_b1 : XS :=
    sIf (wMT (xTOr (xB (xOp neP (xCB (on1 reprP) (xCons (xCB F__law_told_v (xCons (xVar 0) (xCons (xVar 1) xNil))) xNil)) (xCB (on1 reprP) (xCons (xVar 2) xNil)))) (xB (xOp neP (xCB (on1 reprP) (xCons (xLst (xCons (xVar 0) (xCons (xVar 1) xNil))) xNil)) (xVar 3))))) (sRet (wM (xC (.bool false)))) sNext
@[irreducible] def X__law_right_z43 : XS :=
    sSeq (sAsg (gName' 3) (wM (xCB (on1 reprP) (xCons (xLst (xCons (xVar 0) (xCons (xVar 1) xNil))) xNil))))
    (sSeq (sFor (wiA rngP (wCons (wM (xC (.int 2))) wNil)) (gName' 4) X__law_right_z43_b1)
    (sRet (wM (xC (.bool true)))))
@[irreducible] def F__law_right_z43 : List PD → Option PD := runP 3 2 X__law_right_z43
@[irreducible] def X__law_house_right_d_b1 : XS :=
    sIf (wMT (xTNot (xB (xCB F__law_right_z43 (xCons (xVar 1) (xCons (xTup (xCons (xC (.str "like at")) (xCons (xVar 2) (xCons (xVar 5) (xCons (xVar 3) xNil))))) (xCons (xCB F__law_liking_b (xCons (xVar 1) (xCons (xVar 2) (xCons (xVar 5) (xCons (xVar 3) xNil))))) xNil))))))) (sRet (wM (xC (.bool false)))) sNext
@[irreducible] def X__law_house_right_d : XS :=
    sSeq (sAsg (gName' 3) (wOp addP (wM (xC (.int 1))) (wCallK 0 F__law_next_c (wCons (wM (xC (.int 2))) wNil))))
    (sSeq (sOwn 4 (wOL (wcDat (wCallK 0 F__law_order_d (wCons (wM (xOp ixP (xOp ixP (xVar 1) (xVar 3)) (xVar 2))) wNil)) (wcDat (wCallK 0 F__law_one_b (wCons (wM (xOp ixP (xVar 1) (xVar 3))) wNil)) (wcDat (wCallK 0 F__law_odd_e wNil) wcNil)))))
    (sSeq (sApp 4 (wCallK 0 (F__law_bent_e 9) (wCons (wIxO 4 (wM (xC (.int 0)))) (wCons (wM (xC (.int 1))) wNil))))
    (sSeq (sApp 4 (wCallK 0 (F__law_bent_e 9) (wCons (wIxO 4 (wM (xC (.int 3)))) (wCons (wM (xC (.int 1))) wNil))))
    (sFz 4 (sSeq (sFor (wiE (wM (xVar 4))) (gName' 5) X__law_house_right_d_b1)
    (sRet (wM (xCB F__law_right_z43 (xCons (xVar 1) (xCons (xTup (xCons (xC (.str "like")) (xCons (xVar 2) (xCons (xOp ixP (xVar 4) (xC (.int 0))) xNil)))) (xCons (xCB F__law_liking_b (xCons (xVar 1) (xCons (xVar 2) (xCons (xOp ixP (xVar 4) (xC (.int 0))) (xCons (xC (.int 1)) xNil))))) xNil)))))))))))
@[irreducible] def F__law_house_right_d : List Cel → List PD → Option (PD × List Cel) := runW 2 3 X__law_house_right_d
@[irreducible] def X__law_least_b : XS :=
    sSeq (sAsg (gName' 3) (wM (xOp ixP (xOp ixP (xOp ixP (xVar 0) (xC (.int 0))) (xVar 1)) (xOp subP (xVar 2) (xC (.int 1))))))
    (sSeq (sIf (wMT (xB (xOp isU (xVar 3) (xC .none)))) (sRet (wM (xVar 0))) sNext)
    (sRet (wM (xCB F__law_ordered_b (xCons (xVar 0) (xCons (xVar 3) (xCons (xOp addP (xCB (on1 tupP) (xCons (xLc (xiE (xOp ixP (xOp ixP (xVar 0) (xVar 2)) (xVar 3))) (gvName 4) (xB (xOp neP (xVar 4) (xVar 1))) (xVar 4) [4]) xNil)) (xTup (xCons (xVar 1) xNil))) (xCons (xVar 2) xNil))))))))
@[irreducible] def F__law_least_b : List PD → Option PD := runP 3 2 X__law_least_b
@[irreducible] def X__law_without_b_b1 : XS :=
    sApp 2 (wM (xCB (on1 tupP) (xCons (xLc (xiE (xOp ixP (xVar 0) (xVar 3))) (gvName 4) xYes (xCB (on1 tupP) (xCons (xLc (xiE (xVar 4)) (gvName 5) (xB (xOp neP (xVar 5) (xVar 1))) (xOp subP (xVar 5) (xCB (on1 toIntP) (xCons (xOp gtU (xVar 5) (xVar 1)) xNil))) [5]) xNil)) [4]) xNil)))
@[irreducible] def X__law_without_b : XS :=
    sSeq (sIf (wMT (xB (xOp eqP (xCB (on1 lenP) (xCons (xOp ixP (xVar 0) (xC (.int 0))) xNil)) (xC (.int 1))))) (sRet (wM (xLst (xCons (xC (.str "no roads")) xNil)))) sNext)
    (sSeq (sOwn 2 (wOL wcNil))
    (sSeq (sFor (wiE (wM (xLst (xCons (xC (.int 1)) (xCons (xC (.int 2)) xNil))))) (gName' 3) X__law_without_b_b1)
    (sFz 2 (sRet (wM (xTup (xCons (xOp addP (xSl (xOp ixP (xVar 0) (xC (.int 0))) xNoPart (xPart (xVar 1))) (xSl (xOp ixP (xVar 0) (xC (.int 0))) (xPart (xOp addP (xVar 1) (xC (.int 1)))) xNoPart)) (xCons (xOp ixP (xVar 2) (xC (.int 0))) (xCons (xOp ixP (xVar 2) (xC (.int 1))) xNil)))))))))
@[irreducible] def F__law_without_b : List PD → Option PD := runP 2 4 X__law_without_b
@[irreducible] def X__law_road_right_c : XS :=
    sSeq (sAsg (gName' 3) (wOp addP (wM (xC (.int 1))) (wCallK 0 F__law_next_c (wCons (wM (xC (.int 2))) wNil))))
    (sSeq (sIf (wMT (xTNot (xB (xCB F__law_right_z43 (xCons (xVar 1) (xCons (xTup (xCons (xC (.str "without")) (xCons (xVar 2) xNil))) (xCons (xCB F__law_without_b (xCons (xVar 1) (xCons (xVar 2) xNil))) xNil))))))) (sRet (wM (xC (.bool false)))) sNext)
    (sSeq (sIf (wMT (xTNot (xB (xCB F__law_right_z43 (xCons (xVar 1) (xCons (xTup (xCons (xC (.str "less")) (xCons (xVar 2) xNil))) (xCons (xCB F__law_least_b (xCons (xVar 1) (xCons (xVar 2) (xCons (xC (.int 1)) xNil)))) xNil))))))) (sRet (wM (xC (.bool false)))) sNext)
    (sRet (wM (xCB F__law_right_z43 (xCons (xVar 1) (xCons (xTup (xCons (xC (.str "less at")) (xCons (xVar 2) (xCons (xVar 3) xNil)))) (xCons (xCB F__law_least_b (xCons (xVar 1) (xCons (xVar 2) (xCons (xVar 3) xNil)))) xNil))))))))
@[irreducible] def F__law_road_right_c : List Cel → List PD → Option (PD × List Cel) := runW 2 1 X__law_road_right_c
@[irreducible] def X__law_web_f_b1 : XS :=
    sSeq (sOwn 7 (wOM (xOp catP (xLst (xCons (xC .none) xNil)) (xUn rgL (xVar 4)))))
    (sSeq (sAsg (gName' 8) (wPop 7 (wCallK 0 F__law_next_c (wCons (wV (xCB (on1 lenP) (xCons (xVar 7) xNil))) wNil))))
    (sFz 7 (sApp 5 (wTup (wCons (wM (xVar 8)) (wCons (wCallK 0 F__law_one_b (wCons (wM (xVar 7)) wNil)) (wCons (wOp ixP (wM (xLst (xCons (xC (.int 1)) (xCons (xC (.int 2)) (xCons (xC (.int 1)) (xCons (xC (.int 0)) (xCons (xC (.int 2)) (xCons (xC (.int 1)) xNil)))))))) (wCallK 0 F__law_next_c (wCons (wM (xC (.int 6))) wNil))) wNil)))))))
@[irreducible] def X__law_web_f : XS :=
    sSeq (sPar3 3 4 5 (wcDat (wCallK 0 F__law_next_c (wCons (wM (xC (.int 4))) wNil)) (wcDat (wOp addP (wM (xC (.int 1))) (wCallK 0 F__law_next_c (wCons (wM (xVar 1)) wNil))) (wcSub (wOL wcNil) wcNil))))
    (sSeq (sIf (wMT (xTAnd (xB (xOp eqP (xVar 3) (xC (.int 0)))) (xB (xOp gtU (xVar 2) (xC (.int 4)))))) (sFz 5 (sSeq (sAsg (gName' 4) (wM (xCB maxP (xCons (xC (.int 2)) (xCons (xVar 4) xNil)))))
    (sOwn 5 (wOL (wcDat (wM (xTup (xCons (xC .none) (xCons (xC (.int 0)) (xCons (xC (.int 1)) xNil))))) (wcDat (wTup (wCons (wM (xC (.int 0))) (wCons (wM (xC (.int 1))) (wCons (wOp addP (wM (xC (.int 1))) (wCallK 0 F__law_next_c (wCons (wM (xC (.int 2))) wNil))) wNil)))) (wcDat (wTup (wCons (wM (xC (.int 0))) (wCons (wM (xC (.int 1))) (wCons (wOp addP (wM (xC (.int 1))) (wCallK 0 F__law_next_c (wCons (wM (xC (.int 2))) wNil))) wNil)))) (wcDat (wM (xTup (xCons (xC (.int 1)) (xCons (xC .none) (xCons (xC (.int 1)) xNil))))) wcNil)))))))) sNext)
    (sSeq (sFor (wiA rngP (wCons (wOp subP (wOp addP (wM (xC (.int 1))) (wCallK 0 F__law_next_c (wCons (wM (xVar 2)) wNil))) (wV (xCB (on1 lenP) (xCons (xVar 5) xNil)))) wNil)) (gName' 6) X__law_web_f_b1)
    (sFz 5 (sSeq (sAsg (gName' 9) (wM (xLc (xiA rngP (xCons (xVar 4) xNil)) (gvName 11) xYes (xLc (xiA rngP (xCons (xCB (on1 lenP) (xCons (xVar 5) xNil)) xNil)) (gvName 6) (xB (xOp eqP (xOp ixP (xOp ixP (xVar 5) (xVar 6)) (xC (.int 0))) (xVar 11))) (xVar 6) [6]) [11])))
    (sSeq (sAsg (gName' 10) (wM (xLc (xiA rngP (xCons (xVar 4) xNil)) (gvName 11) xYes (xLc (xiA rngP (xCons (xCB (on1 lenP) (xCons (xVar 5) xNil)) xNil)) (gvName 6) (xB (xOp eqP (xOp ixP (xOp ixP (xVar 5) (xVar 6)) (xC (.int 1))) (xVar 11))) (xVar 6) [6]) [11])))
    (sSeq (sIf (wMT (xB (xOp ltP (xVar 3) (xC (.int 2))))) (sRet (wM (xTup (xCons (xCB (on1 tupP) (xCons (xVar 5) xNil)) (xCons (xCB (on1 tupP) (xCons (xLc (xiE (xVar 9)) (gvName 12) xYes (xCB (on1 tupP) (xCons (xVar 12) xNil)) [12]) xNil)) (xCons (xCB (on1 tupP) (xCons (xLc (xiE (xVar 10)) (gvName 12) xYes (xCB (on1 tupP) (xCons (xUn backP (xVar 12)) xNil)) [12]) xNil)) xNil)))))) sNext)
    (sSeq (sAsg (gName' 9) (wCB (on1 tupP) (wCons (wFz (wLc (wiE (wM (xVar 9))) (gName' 12) (wMT xYes) (wCallK 0 F__law_order_d (wCons (wM (xVar 12)) wNil)) [12])) wNil)))
    (sRet (wTup (wCons (wM (xCB (on1 tupP) (xCons (xVar 5) xNil))) (wCons (wM (xVar 9)) (wCons (wCB (on1 tupP) (wCons (wFz (wLc (wiE (wM (xVar 10))) (gName' 12) (wMT xYes) (wCallK 0 F__law_order_d (wCons (wM (xVar 12)) wNil)) [12])) wNil)) wNil))))))))))))
@[irreducible] def F__law_web_f : List Cel → List PD → Option (PD × List Cel) := runW 2 10 X__law_web_f
@[irreducible] def X__law_wide_d_b1 : XS :=
    sSeq (sOwn 4 (wOM (xOp catP (xLst (xCons (xC .none) xNil)) (xUn rgL (xVar 1)))))
    (sSeq (sAsg (gName' 5) (wPop 4 (wCallK 0 F__law_next_c (wCons (wV (xCB (on1 lenP) (xCons (xVar 4) xNil))) wNil))))
    (sFz 4 (sSeq (sAsg (gName' 6) (wOp ixP (wLst (wCons (wM (xC (.int 0))) (wCons (wM (xC (.int 1))) (wCons (wM (xC (.int 2))) (wCons (wCallK 0 F__law_next_c (wCons (wM (xOp powP (xC (.int 10)) (xC (.int 6)))) wNil)) (wCons (wOp subP (wM (xOp powP (xC (.int 10)) (xC (.int 12)))) (wCallK 0 F__law_next_c (wCons (wM (xC (.int 3))) wNil))) wNil)))))) (wCallK 0 F__law_next_c (wCons (wM (xC (.int 5))) wNil))))
    (sApp 2 (wTup (wCons (wM (xVar 5)) (wCons (wCallK 0 F__law_one_b (wCons (wM (xVar 4)) wNil)) (wCons (wM (xVar 6)) wNil))))))))
@[irreducible] def X__law_wide_d_b2 : XS :=
    sSeq (sApp 7 (wCallK 0 F__law_order_d (wCons (wM (xLc (xiA rngP (xCons (xCB (on1 lenP) (xCons (xVar 2) xNil)) xNil)) (gvName 3) (xB (xOp eqP (xOp ixP (xOp ixP (xVar 2) (xVar 3)) (xC (.int 0))) (xVar 9))) (xVar 3) [3])) wNil)))
    (sApp 8 (wCallK 0 F__law_order_d (wCons (wM (xLc (xiA rngP (xCons (xCB (on1 lenP) (xCons (xVar 2) xNil)) xNil)) (gvName 3) (xB (xOp eqP (xOp ixP (xOp ixP (xVar 2) (xVar 3)) (xC (.int 1))) (xVar 9))) (xVar 3) [3])) wNil)))
@[irreducible] def X__law_wide_d : XS :=
    sSeq (sAsg (gName' 1) (wOp addP (wM (xC (.int 1))) (wCallK 0 F__law_next_c (wCons (wM (xC (.int 8))) wNil))))
    (sSeq (sOwn 2 (wOL wcNil))
    (sSeq (sFor (wiA rngP (wCons (wOp addP (wM (xC (.int 1))) (wCallK 0 F__law_next_c (wCons (wM (xC (.int 20))) wNil))) wNil)) (gName' 3) X__law_wide_d_b1)
    (sFz 2 (sSeq (sPar 7 8 (wcSub (wOL wcNil) (wcSub (wOL wcNil) wcNil)))
    (sSeq (sFor (wiA rngP (wCons (wM (xVar 1)) wNil)) (gName' 9) X__law_wide_d_b2)
    (sFz 8 (sFz 7 (sRet (wM (xTup (xCons (xCB (on1 tupP) (xCons (xVar 2) xNil)) (xCons (xCB (on1 tupP) (xCons (xVar 7) xNil)) (xCons (xCB (on1 tupP) (xCons (xVar 8) xNil)) xNil)))))))))))))
@[irreducible] def F__law_wide_d : List Cel → List PD → Option (PD × List Cel) := runW 0 9 X__law_wide_d
@[irreducible] def X_law_z199_b1 : XS :=
    sSeq (sIf (wTNot (wB (wCallK 1 F__law_road_right_c (wCons (wM (xVar 3)) (wCons (wCallK 1 F__law_next_c (wCons (wM (xCB (on1 lenP) (xCons (xOp ixP (xVar 3) (xC (.int 0))) xNil))) wNil)) wNil))))) (sFz 1 (sRet (wM (xC (.bool false))))) sNext)
    (sIf (wTNot (wB (wCallK 1 F__law_house_right_d (wCons (wM (xVar 3)) (wCons (wCallK 1 F__law_next_c (wCons (wM (xCB (on1 lenP) (xCons (xOp ixP (xVar 3) (xC (.int 1))) xNil))) wNil)) wNil))))) (sFz 1 (sRet (wM (xC (.bool false))))) sNext)
@[irreducible] def X_law_z199_b2 : XS :=
    sSeq (sAsg (gName' 3) (wOp ixP (wLst (wCons (wCallK 1 F__law_web_f (wCons (wM (xC (.int 3))) (wCons (wM (xC (.int 6))) wNil))) (wCons (wCallK 1 F__law_wide_d wNil) (wCons (wCallK 1 F__law_web_f (wCons (wM (xC (.int 2))) (wCons (wM (xC (.int 1))) wNil))) wNil)))) (wCallK 1 F__law_next_c (wCons (wM (xC (.int 3))) wNil))))
    (sFor (wiA rngP (wCons (wM (xC (.int 4))) wNil)) (gName' 4) X_law_z199_b1)
@[irreducible] def X_law_z199 : XS :=
    sSeq (sOwn 1 (wCallD F__law_deck_f (wCons (wM (xVar 0)) wNil)))
    (sSeq (sFor (wiA rngP (wCons (wM (xC (.int 3))) wNil)) (gName' 2) X_law_z199_b2)
    (sFz 1 (sRet (wM (xC (.bool true))))))
@[irreducible] def F_law_z199 : List PD → Option PD := runP 1 4 X_law_z199
@[irreducible] def X_is_tuple_of : XS :=
    sRet (wM (xAnd (xIsi .tuple (xVar 0)) (xChain leP leP (xVar 1) (xCB (on1 lenP) (xCons (xVar 0) xNil)) (xVar 2))))
@[irreducible] def F_is_tuple_of : List PD → Option PD := runP 3 0 X_is_tuple_of
section
variable [kk : KK]
structure HF (mg : Str → Option Value) (w : World) (cA : Nat → Addr) (dA : Addr) : Prop where
  cl : ∀ n, n ∈ ([4, 5] : List Nat) → kk.cl n = some (cA n)
  ex : ∀ n C, kk.cl n = some C → ExcC K C
  g_BadOrder : mg "BadOrder" = some (.ref (cA 5))
  g_Full : mg "Full" = some (.ref (cA 3))
  g_NoRoads : mg "NoRoads" = some (.ref (cA 4))
  g_TooGreat : mg "TooGreat" = some (.ref (cA 2))
  g_WebError : mg "WebError" = some (.ref (cA 0))
  it_BadOrder : ∀ n C b, kk.cl n = some C → it_k61_BadOrder n = some b → PySem.W.kitOne K (.ref C) (.ref (cA 5)) = some b
  it_Full : ∀ n C b, kk.cl n = some C → it_k61_Full n = some b → PySem.W.kitOne K (.ref C) (.ref (cA 3)) = some b
  it_NoRoads : ∀ n C b, kk.cl n = some C → it_k61_NoRoads n = some b → PySem.W.kitOne K (.ref C) (.ref (cA 4)) = some b
  it_TooGreat : ∀ n C b, kk.cl n = some C → it_k61_TooGreat n = some b → PySem.W.kitOne K (.ref C) (.ref (cA 2)) = some b
  it_ValueError : ∀ n C b, kk.cl n = some C → it_k61_ValueError n = some b → PySem.W.kitOne K (.ref C) (.type "ValueError") = some b
  em_k61_WebError : ∀ n C b, kk.cl n = some C → em_k61_WebError n = some b → PySem.W.exmOne K (.ref C) (.ref (cA 0)) = some b
  x_BadOrder : PySem.W.excIn K (cA 5) [.type "ValueError", .type "Exception", .type "BaseException", .type "object"] "ValueError.__new__" = true
  k_BadOrder : PySem.W.keepIn K (.ref (cA 5)) = true
  b_BadOrder : PySem.W.subIn K (.ref (cA 5)) (.type "BaseException") = some true
  t_BadOrder : PySem.W.typeIn K (.ref (cA 5)) = some (.type "type")
  x_NoRoads : PySem.W.excIn K (cA 4) [.type "ValueError", .type "Exception", .type "BaseException", .type "object"] "ValueError.__new__" = true
  k_NoRoads : PySem.W.keepIn K (.ref (cA 4)) = true
  b_NoRoads : PySem.W.subIn K (.ref (cA 4)) (.type "BaseException") = some true
  t_NoRoads : PySem.W.typeIn K (.ref (cA 4)) = some (.type "type")
def T__law_deck_f : TS :=
    tRet (tLst (tCons (tLc (iSeq K (tSl (rSlU K) (tVar 0) tNoPart (tPart (tC (.int 63))))) (gName 1) tYes (tCB rAbsQ (tCons (tVar 1) tNil)) [1]) (tCons (tC (.int 0)) (tCons (tC (.int 0)) (tCons (tC (.int 0)) tNil)))))
theorem ss__law_deck_f : SS T__law_deck_f X__law_deck_f := by
  unfold X__law_deck_f T__law_deck_f
  exact ss_retO (swo_lst (swc_dat (sw_M (SEF.se (sef_lc (si_seq (se_sl se_var sp_none (sp_some se_int))) sgv_name (by decide) st_yes (se_cb sc_abs (sa_cons se_var sa_nil))))) (swc_dat (sw_M se_int) (swc_dat (sw_M se_int) (swc_dat (sw_M se_int) swc_nil)))))
def T__law_mixed_b : TS :=
    tRet (tOp oDivW (tOp oMod (tOp oPow (tOp (rAddU K) (tOp (rAddU K) (tOp oMod (tVar 0) (tC (.int 2147483629))) (tOp (rMulV K) (tVar 1) (tC (.int 1000003)))) (tC (.int 17))) (tC (.int 5))) (tC (.int 2147483647))) (tC (.int 7)))
theorem ss__law_mixed_b : SS T__law_mixed_b X__law_mixed_b := by
  unfold X__law_mixed_b T__law_mixed_b
  exact ss_ret (sw_M (se_op so_div (se_op so_mod (se_op so_pow (se_op so_add (se_op so_add (se_op so_mod se_var se_int) (se_op so_mulV se_var se_int)) se_int) se_int) se_int) se_int))
def T__law_next_c : TS :=
    tSeq (tAsg (tOp (rAddU K) (tOp (rIx K) (tVar 0) (tC (.int 3))) (tC (.int 1))) (gSub (tVar 0) (tC (.int 3)) rSetL))
    (tSeq (tIfS (tAnd (tTest (tOp (rEqX K) (tOp (rIx K) (tVar 0) (tC (.int 2))) (tC (.int 0)))) (tTest (tOp oLt (tOp (rIx K) (tVar 0) (tC (.int 1))) (tCB (rLenQ K) (tCons (tOp (rIx K) (tVar 0) (tC (.int 0))) tNil))))) (tSeq (tAsg (tOp (rIx K) (tOp (rIx K) (tVar 0) (tC (.int 0))) (tOp (rIx K) (tVar 0) (tC (.int 1)))) (gName 2))
    (tSeq (tAsg (tOp (rAddU K) (tOp (rIx K) (tVar 0) (tC (.int 1))) (tC (.int 1))) (gSub (tVar 0) (tC (.int 1)) rSetL))
    (tSeq (tIfS (tTest (tOp oLt (tVar 2) (tOp oPow (tC (.int 10)) (tC (.int 18))))) (tRet (tOp oMod (tCall (spF F__law_mixed_b) [] E0 (tCons (tVar 2) (tCons (tOp (rIx K) (tVar 0) (tC (.int 3))) tNil))) (tVar 1))) tNext)
    (tAsg (tVar 2) (gSub (tVar 0) (tC (.int 2)) rSetL))))) tNext)
    (tSeq (tIfS (tTest (tOp (rGtU K) (tOp (rIx K) (tVar 0) (tC (.int 2))) (tC (.int 0)))) (tSeq (tAsg (tOp oMod (tOp (rIx K) (tVar 0) (tC (.int 2))) (tVar 1)) (gName 3))
    (tSeq (tAsg (tOp oDivW (tOp (rIx K) (tVar 0) (tC (.int 2))) (tVar 1)) (gSub (tVar 0) (tC (.int 2)) rSetL))
    (tRet (tVar 3)))) tNext)
    (tSeq (tAsg (tOp (rMulV K) (tOp (rIx K) (tVar 0) (tC (.int 3))) (tC (.int 48271))) (gName 4))
    (tSeq (tIfS (tTest (tOp (rNeD K) (tOp (rIx K) (tVar 0) (tC (.int 0))) (tLst tNil))) (tAsg (tOp (rAddU K) (tVar 4) (tOp (rIx K) (tOp (rIx K) (tVar 0) (tC (.int 0))) (tOp oMod (tOp (rMulV K) (tOp (rIx K) (tVar 0) (tC (.int 3))) (tC (.int 7))) (tCB (rLenQ K) (tCons (tOp (rIx K) (tVar 0) (tC (.int 0))) tNil))))) (gName 4)) tNext)
    (tRet (tOp oMod (tCall (spF F__law_mixed_b) [] E0 (tCons (tVar 4) (tCons (tOp (rIx K) (tVar 0) (tC (.int 3))) tNil))) (tVar 1)))))))
theorem ss__law_next_c : SS T__law_next_c X__law_next_c := by
  unfold X__law_next_c T__law_next_c
  exact ss_seq (ss_set se_int (sw_V (se_op so_add (se_op so_ix se_var se_int) se_int)))
    (ss_seq (ss_if (swt_V (st_and (st_test (se_op so_eq (se_op so_ix se_var se_int) se_int)) (st_test (se_op so_lt (se_op so_ix se_var se_int) (se_cb sc_len (sa_cons (se_op so_ix se_var se_int) sa_nil)))))) (ss_seq (ss_asg (sg_name (by decide)) (sw_V (se_op so_ix (se_op so_ix se_var se_int) (se_op so_ix se_var se_int))))
    (ss_seq (ss_set se_int (sw_V (se_op so_add (se_op so_ix se_var se_int) se_int)))
    (ss_seq (ss_if (swt_M (st_test (se_op so_lt se_var (se_op so_pow se_int se_int)))) (ss_ret (sw_V (se_op so_mod (se_call (sa_cons se_var (sa_cons (se_op so_ix se_var se_int) sa_nil))) se_var))) ss_next)
    (ss_set se_int (sw_M se_var))))) ss_next)
    (ss_seq (ss_if (swt_V (st_test (se_op so_gtU (se_op so_ix se_var se_int) se_int))) (ss_seq (ss_asg (sg_name (by decide)) (sw_V (se_op so_mod (se_op so_ix se_var se_int) se_var)))
    (ss_seq (ss_set se_int (sw_V (se_op so_div (se_op so_ix se_var se_int) se_var)))
    (ss_ret (sw_M se_var)))) ss_next)
    (ss_seq (ss_asg (sg_name (by decide)) (sw_V (se_op so_mulV (se_op so_ix se_var se_int) se_int)))
    (ss_seq (ss_if (swt_V (st_test (se_op so_ne (se_op so_ix se_var se_int) (SEF.se (sef_lst sa_nil))))) (ss_asg (sg_name (by decide)) (sw_V (se_op so_add se_var (se_op so_ix (se_op so_ix se_var se_int) (se_op so_mod (se_op so_mulV (se_op so_ix se_var se_int) se_int) (se_cb sc_len (sa_cons (se_op so_ix se_var se_int) sa_nil))))))) ss_next)
    (ss_ret (sw_V (se_op so_mod (se_call (sa_cons se_var (sa_cons (se_op so_ix se_var se_int) sa_nil))) se_var)))))))
def T__law_odd_e : TS :=
    tSeq (tAsg (tLst (tCons (tC .non) (tCons (tC (.bl true)) (tCons (tC (.bl false)) (tCons (tC (.int 0)) (tCons (tC (.int 1)) (tCons (tUn oNeg (tC (.int 1))) (tCons (tC (.int 2)) (tCons (tOp oPow (tC (.int 10)) (tC (.int 12))) (tCons (tOp oPow (tC (.int 10)) (tC (.int 29))) (tCons (tC (.str "")) (tCons (tC (.str "a")) (tCons (tTupF tNil) (tCons (tLst tNil) (tCons tDNewK (tCons (tTupF (tCons (tC (.int 0)) tNil)) (tCons (tLst (tCons (tC (.int 0)) tNil)) (tCons (tTupF (tCons (tC (.int 0)) (tCons (tC (.int 0)) tNil))) (tCons (tTupF (tCons (tC (.int 1)) (tCons (tC (.int 0)) tNil))) (tCons (tTupF (tCons (tC (.bl true)) tNil)) tNil)))))))))))))))))))) (gName 1))
    (tRet (tOp (rIx K) (tOp (rAddU K) (tVar 1) (tLst (tCons (tTupF (tCons (tC .non) tNil)) (tCons (tTupF (tCons (tTupF tNil) (tCons (tTupF tNil) tNil))) (tCons (tTupF (tCons (tTupF (tCons (tC (.int 0)) tNil)) (tCons (tTupF tNil) tNil))) (tCons (tTupF (tCons (tTupF (tCons (tC (.int 0)) tNil)) (tCons (tTupF (tCons (tC (.int 0)) tNil)) tNil))) (tCons (tDisp [(tC (.str "a"), (tC (.int 0)))]) (tCons (tTupF (tCons (tTupF tNil) tNil)) tNil)))))))) (tCall (spW F__law_next_c) [] E0 (tCons (tVar 0) (tCons (tC (.int 25)) tNil)))))
theorem ss__law_odd_e : SS T__law_odd_e X__law_odd_e := by
  unfold X__law_odd_e T__law_odd_e
  exact ss_seq (ss_asg (sg_name (by decide)) (sw_M (SEF.se (sef_lst (sa_cons se_non (sa_cons se_bl (sa_cons se_bl (sa_cons se_int (sa_cons se_int (sa_cons (se_un su_neg se_int) (sa_cons se_int (sa_cons (se_op so_pow se_int se_int) (sa_cons (se_op so_pow se_int se_int) (sa_cons se_str (sa_cons se_str (sa_cons (se_tup sa_nil) (sa_cons (SEF.se (sef_lst sa_nil)) (sa_cons se_d0 (sa_cons (se_tup (sa_cons se_int sa_nil)) (sa_cons (SEF.se (sef_lst (sa_cons se_int sa_nil))) (sa_cons (se_tup (sa_cons se_int (sa_cons se_int sa_nil))) (sa_cons (se_tup (sa_cons se_int (sa_cons se_int sa_nil))) (sa_cons (se_tup (sa_cons se_bl sa_nil)) sa_nil)))))))))))))))))))))))
    (ss_ret (sw_op so_ix (sw_M (se_op so_add se_var (SEF.se (sef_lst (sa_cons (se_tup (sa_cons se_non sa_nil)) (sa_cons (se_tup (sa_cons (se_tup sa_nil) (sa_cons (se_tup sa_nil) sa_nil))) (sa_cons (se_tup (sa_cons (se_tup (sa_cons se_int sa_nil)) (sa_cons (se_tup sa_nil) sa_nil))) (sa_cons (se_tup (sa_cons (se_tup (sa_cons se_int sa_nil)) (sa_cons (se_tup (sa_cons se_int sa_nil)) sa_nil))) (sa_cons (se_d1 se_int) (sa_cons (se_tup (sa_cons (se_tup sa_nil) sa_nil)) sa_nil)))))))))) (sw_callK (swa_cons (sw_M se_int) swa_nil))))
def T__law_bent_e (self : List Cel → List PD → Option (PD × List Cel)) : TS :=
    tSeq (tIfS (tOr (tTest (tOp (rEqX K) (tVar 2) (tC (.int 0)))) (tOr (tNot (tB (tCB (rIsi K) (tCons (tVar 1) (tCons (tC (.ty "tuple")) tNil))))) (tOr (tTest (tOp (rEqX K) (tVar 1) (tTupF tNil))) (tTest (tOp (rEqX K) (tCall (spW F__law_next_c) [] E0 (tCons (tVar 0) (tCons (tC (.int 5)) tNil))) (tC (.int 0))))))) (tSeq (tIfS (tAnd (tB (tCB (rIsi K) (tCons (tVar 1) (tCons (tC (.ty "tuple")) tNil)))) (tTest (tOp (rGtU K) (tCall (spW F__law_next_c) [] E0 (tCons (tVar 0) (tCons (tC (.int 3)) tNil))) (tC (.int 0))))) (tRet (tOp (rIx K) (tLst (tCons (tCB (rListQ K) (tCons (tVar 1) tNil)) (tCons (tBack K (tVar 1)) (tCons (tOp (rAddB K) (tVar 1) (tSl (rSlU K) (tVar 1) (tPart (tUn oNeg (tC (.int 1)))) tNoPart)) (tCons (tSl (rSlU K) (tVar 1) (tPart (tC (.int 1))) tNoPart) tNil))))) (tCall (spW F__law_next_c) [] E0 (tCons (tVar 0) (tCons (tC (.int 4)) tNil))))) tNext)
    (tSeq (tIfS (tAnd (tB (tCB (rIsi K) (tCons (tVar 1) (tCons (tC (.ty "int")) tNil)))) (tTest (tOp (rGtU K) (tCall (spW F__law_next_c) [] E0 (tCons (tVar 0) (tCons (tC (.int 3)) tNil))) (tC (.int 0))))) (tRet (tOp (rIx K) (tLst (tCons (tOp (rAddB K) (tVar 1) (tC (.int 1))) (tCons (tOp rSubB (tVar 1) (tC (.int 1))) (tCons (tOp (rEqX K) (tVar 1) (tC (.int 1))) tNil)))) (tCall (spW F__law_next_c) [] E0 (tCons (tVar 0) (tCons (tC (.int 3)) tNil))))) tNext)
    (tRet (tCall (spW F__law_odd_e) [] E0 (tCons (tVar 0) tNil))))) tNext)
    (tSeq (tAsg (tCall (spW F__law_next_c) [] E0 (tCons (tVar 0) (tCons (tCB (rLenQ K) (tCons (tVar 1) tNil)) tNil))) (gName 3))
    (tRet (tOp (rAddB K) (tOp (rAddB K) (tSl (rSlU K) (tVar 1) tNoPart (tPart (tVar 3))) (tTupF (tCons (tCall (spW self) [] E0 (tCons (tVar 0) (tCons (tOp (rIx K) (tVar 1) (tVar 3)) (tCons (tOp rSubB (tVar 2) (tC (.int 1))) tNil)))) tNil))) (tSl (rSlU K) (tVar 1) (tPart (tOp (rAddB K) (tVar 3) (tC (.int 1)))) tNoPart))))
theorem ss__law_bent_e (self : List Cel → List PD → Option (PD × List Cel)) : SS (T__law_bent_e self) (X__law_bent_e self) := by
  unfold X__law_bent_e T__law_bent_e
  exact ss_seq (ss_if (swt_or (swt_M (st_test (se_op so_eq se_var se_int))) (swt_or (swt_M (st_not (st_B (se_isi .tuple rfl se_var)))) (swt_or (swt_M (st_test (se_op so_eq se_var (se_tup sa_nil)))) (swt_test (sw_op so_eq (sw_callK (swa_cons (sw_M se_int) swa_nil)) (sw_M se_int)))))) (ss_seq (ss_if (swt_and (swt_M (st_B (se_isi .tuple rfl se_var))) (swt_test (sw_op so_gtU (sw_callK (swa_cons (sw_M se_int) swa_nil)) (sw_M se_int)))) (ss_ret (sw_op so_ix (sw_M (SEF.se (sef_lst (sa_cons (SEF.se (sef_list se_var)) (sa_cons (se_back se_var) (sa_cons (se_op so_addB se_var (se_sl se_var (sp_some (se_un su_neg se_int)) sp_none)) (sa_cons (se_sl se_var (sp_some se_int) sp_none) sa_nil))))))) (sw_callK (swa_cons (sw_M se_int) swa_nil)))) ss_next)
    (ss_seq (ss_if (swt_and (swt_M (st_B (se_isi .int rfl se_var))) (swt_test (sw_op so_gtU (sw_callK (swa_cons (sw_M se_int) swa_nil)) (sw_M se_int)))) (ss_ret (sw_op so_ix (sw_M (SEF.se (sef_lst (sa_cons (se_op so_addB se_var se_int) (sa_cons (se_op so_subB se_var se_int) (sa_cons (se_op so_eq se_var se_int) sa_nil)))))) (sw_callK (swa_cons (sw_M se_int) swa_nil)))) ss_next)
    (ss_ret (sw_callK swa_nil)))) ss_next)
    (ss_seq (ss_asg (sg_name (by decide)) (sw_callK (swa_cons (sw_M (se_cb sc_len (sa_cons se_var sa_nil))) swa_nil)))
    (ss_ret (sw_op so_addB (sw_op so_addB (sw_M (se_sl se_var sp_none (sp_some se_var))) (sw_tup (swa_cons (sw_callK (swa_cons (sw_M (se_op so_ix se_var se_var)) (swa_cons (sw_M (se_op so_subB se_var se_int)) swa_nil))) swa_nil))) (sw_M (se_sl se_var (sp_some (se_op so_addB se_var se_int)) sp_none)))))
def T__law_ordered_b : TS :=
    tSeq (tAsg (tOp (rAddU K) (tOp (rAddU K) (tSl (rSlU K) (tOp (rIx K) (tVar 0) (tVar 3)) tNoPart (tPart (tVar 1))) (tTupF (tCons (tVar 2) tNil))) (tSl (rSlU K) (tOp (rIx K) (tVar 0) (tVar 3)) (tPart (tOp (rAddU K) (tVar 1) (tC (.int 1)))) tNoPart)) (gName 4))
    (tRet (tTupF (tCons (tOp (rIx K) (tVar 0) (tC (.int 0))) (tCons (tOp (rIx K) (tLst (tCons (tVar 4) (tCons (tOp (rIx K) (tVar 0) (tC (.int 1))) tNil))) (tOp oSub (tVar 3) (tC (.int 1)))) (tCons (tOp (rIx K) (tLst (tCons (tOp (rIx K) (tVar 0) (tC (.int 2))) (tCons (tVar 4) tNil))) (tOp oSub (tVar 3) (tC (.int 1)))) tNil)))))
theorem ss__law_ordered_b : SS T__law_ordered_b X__law_ordered_b := by
  unfold X__law_ordered_b T__law_ordered_b
  exact ss_seq (ss_asg (sg_name (by decide)) (sw_M (se_op so_add (se_op so_add (se_sl (se_op so_ix se_var se_var) sp_none (sp_some se_var)) (se_tup (sa_cons se_var sa_nil))) (se_sl (se_op so_ix se_var se_var) (sp_some (se_op so_add se_var se_int)) sp_none))))
    (ss_ret (sw_M (se_tup (sa_cons (se_op so_ix se_var se_int) (sa_cons (se_op so_ix (SEF.se (sef_lst (sa_cons se_var (sa_cons (se_op so_ix se_var se_int) sa_nil)))) (se_op so_sub se_var se_int)) (sa_cons (se_op so_ix (SEF.se (sef_lst (sa_cons (se_op so_ix se_var se_int) (sa_cons se_var sa_nil)))) (se_op so_sub se_var se_int)) sa_nil))))))
def T__law_whole_b : TS :=
    tRet (tAndV (tCB (rIsi K) (tCons (tVar 0) (tCons (tC (.ty "int")) tNil))) (tAndV (tNotV (tCB (rIsi K) (tCons (tVar 0) (tCons (tC (.ty "bool")) tNil)))) (tChain oLe oLe (tC (.int 0)) (tVar 0) (tVar 1))))
theorem ss__law_whole_b : SS T__law_whole_b X__law_whole_b := by
  unfold X__law_whole_b T__law_whole_b
  exact ss_ret (sw_M (se_and (se_isi .int rfl se_var) (se_and (se_not (se_isi .bool rfl se_var)) (se_chain so_le so_le se_int se_var se_var))))
def T__law_liking_b : TS :=
    tSeq (tIfS (tOr (tNot (tB (tCB (rIsi K) (tCons (tVar 2) (tCons (tC (.ty "tuple")) tNil))))) (tTest (tOp (rNeX K) (tLc (iSeq K (tVar 2)) (gName 4) (tNot (tB (tCall (spF F__law_whole_b) [] E0 (tCons (tVar 4) (tCons (tC (.int 20)) tNil))))) (tVar 4) [4]) (tLst tNil)))) (tRet (tLst (tCons (tC (.str "bad order")) tNil))) tNext)
    (tSeq (tIfS (tTest (tOp (rNeX K) (tCB (rSortedU K) (tCons (tVar 2) tNil)) (tCB (rSortedU K) (tCons (tOp (rIx K) (tOp (rIx K) (tVar 0) (tVar 3)) (tVar 1)) tNil)))) (tRet (tLst (tCons (tC (.str "bad order")) tNil))) tNext)
    (tRet (tCall (spF F__law_ordered_b) [] E0 (tCons (tVar 0) (tCons (tVar 1) (tCons (tVar 2) (tCons (tVar 3) tNil)))))))
theorem ss__law_liking_b : SS T__law_liking_b X__law_liking_b := by
  unfold X__law_liking_b T__law_liking_b
  exact ss_seq (ss_if (swt_M (st_or (st_not (st_B (se_isi .tuple rfl se_var))) (st_test (se_op so_neX (SEF.se (sef_lc (si_seq se_var) sgv_name (by decide) (st_not (st_B (se_call (sa_cons se_var (sa_cons se_int sa_nil))))) se_var)) (SEF.se (sef_lst sa_nil)))))) (ss_ret (sw_M (SEF.se (sef_lst (sa_cons se_str sa_nil))))) ss_next)
    (ss_seq (ss_if (swt_M (st_test (se_op so_neX (se_cb sc_sort (sa_cons se_var sa_nil)) (se_cb sc_sort (sa_cons (se_op so_ix (se_op so_ix se_var se_var) se_var) sa_nil))))) (ss_ret (sw_M (SEF.se (sef_lst (sa_cons se_str sa_nil))))) ss_next)
    (ss_ret (sw_M (se_call (sa_cons se_var (sa_cons se_var (sa_cons se_var (sa_cons se_var sa_nil))))))))
def T__law_one_b : TS :=
    tRet (tOp (rIx K) (tVar 1) (tCall (spW F__law_next_c) [] E0 (tCons (tVar 0) (tCons (tCB (rLenQ K) (tCons (tVar 1) tNil)) tNil))))
theorem ss__law_one_b : SS T__law_one_b X__law_one_b := by
  unfold X__law_one_b T__law_one_b
  exact ss_ret (sw_op so_ix (sw_M se_var) (sw_callK (swa_cons (sw_M (se_cb sc_len (sa_cons se_var sa_nil))) swa_nil)))
theorem ss_X__law_order_d_b1 : SS (tDrop (tBM K "list" rAppend (tVar 3) (tCons (tBM K "list" rPopAt (tVar 2) (tCons (tCall (spW F__law_next_c) [] E0 (tCons (tVar 0) (tCons (tCB (rLenQ K) (tCons (tVar 2) tNil)) tNil))) tNil)) tNil))) X__law_order_d_b1 := by
  unfold X__law_order_d_b1
  exact ss_app (sw_pop (sw_callK (swa_cons (sw_V (se_cb sc_len (sa_cons se_var sa_nil))) swa_nil)))
def T__law_order_d : TS :=
    tSeq (tPar 2 3 (tCons (tCB (rListQ K) (tCons (tVar 1) tNil)) (tCons (tLst tNil) tNil)))
    (tSeq (tWhile (tTest (tOp (rNeD K) (tVar 2) (tLst tNil))) (tDrop (tBM K "list" rAppend (tVar 3) (tCons (tBM K "list" rPopAt (tVar 2) (tCons (tCall (spW F__law_next_c) [] E0 (tCons (tVar 0) (tCons (tCB (rLenQ K) (tCons (tVar 2) tNil)) tNil))) tNil)) tNil))))
    (tRet (tCB (rTupF K) (tCons (tVar 3) tNil))))
theorem ss__law_order_d : SS T__law_order_d X__law_order_d := by
  unfold X__law_order_d T__law_order_d
  exact ss_seq (ss_par (by decide) (by decide) (swc_sub (swo_M (sef_list se_var)) (swc_sub (swo_lst swc_nil) swc_nil)))
    (ss_seq (ss_while (swt_V (st_test (se_op so_ne se_var (SEF.se (sef_lst sa_nil))))) ss_X__law_order_d_b1)
    (ss_fz (ss_fz (ss_ret (sw_M (se_cb sc_tup (sa_cons se_var sa_nil)))))))
def T_order_place : TS :=
    tRet (tIf (tB (tVar 0)) (tC (.int 1)) (tC (.int 2)))
theorem ss_order_place : SS T_order_place X_order_place := by
  unfold X_order_place T_order_place
  exact ss_ret (sw_M (se_if (st_B se_var) se_int se_int))
def T_exchanged : TS :=
    tRet (tOp (rAddU K) (tOp (rAddU K) (tSl (rSlU K) (tVar 0) tNoPart (tPart (tVar 1))) (tTupF (tCons (tVar 2) tNil))) (tSl (rSlU K) (tVar 0) (tPart (tOp (rAddU K) (tVar 1) (tC (.int 1)))) tNoPart))
theorem ss_exchanged : SS T_exchanged X_exchanged := by
  unfold X_exchanged T_exchanged
  exact ss_ret (sw_M (se_op so_add (se_op so_add (se_sl se_var sp_none (sp_some se_var)) (se_tup (sa_cons se_var sa_nil))) (se_sl se_var (sp_some (se_op so_add se_var se_int)) sp_none)))
def T_is_number : TS :=
    tRet (tAndV (tCB (rIsi K) (tCons (tVar 0) (tCons (tC (.ty "int")) tNil))) (tNotV (tCB (rIsi K) (tCons (tVar 0) (tCons (tC (.ty "bool")) tNil)))))
theorem ss_is_number : SS T_is_number X_is_number := by
  unfold X_is_number T_is_number
  exact ss_ret (sw_M (se_and (se_isi .int rfl se_var) (se_not (se_isi .bool rfl se_var))))
def T_is_order : TS :=
    tRet (tAndV (tCB (rIsi K) (tCons (tVar 0) (tCons (tC (.ty "tuple")) tNil))) (tAndV (tCB (rAll K) (tCons (tLc (iSeq K (tVar 0)) (gName 2) tYes (tCall (spF F_is_number) [] E0 (tCons (tVar 2) tNil)) [2]) tNil)) (tOp (rEqX K) (tCB (rSortedU K) (tCons (tVar 0) tNil)) (tVar 1))))
theorem ss_is_order : SS T_is_order X_is_order := by
  unfold X_is_order T_is_order
  exact ss_ret (sw_M (se_and (se_isi .tuple rfl se_var) (se_and (se_cb sc_all (sa_cons (SEF.se (sef_lc (si_seq se_var) sgv_name (by decide) st_yes (se_call (sa_cons se_var sa_nil)))) sa_nil)) (se_op so_eq (se_cb sc_sort (sa_cons se_var sa_nil)) se_var))))
def T_with_like_c (W : WX) (w : World) (cA : Nat → Addr) (dA : Addr) : TS :=
    tSeq (tAsg (tCall (spF F_order_place) [] E0 (tCons (tVar 3) tNil)) (gName 4))
    (tSeq (tAsg (tOp (rIx K) (tVar 0) (tVar 4)) (gName 5))
    (tSeq (tIfS (tNot (tB (tCall (spF F_is_order) [] E0 (tCons (tVar 2) (tCons (tCB (rSortedU K) (tCons (tOp (rIx K) (tVar 5) (tVar 1)) tNil)) tNil))))) (fun _ σ H => W (.ref (cA 5)) none σ H) tNext)
    (tRet (tCall (spF F_exchanged) [] E0 (tCons (tVar 0) (tCons (tVar 4) (tCons (tCall (spF F_exchanged) [] E0 (tCons (tVar 5) (tCons (tVar 1) (tCons (tVar 2) tNil)))) tNil)))))))
theorem ss_with_like_c {W : WX} {mg : Str → Option Value} {w : World} {cA : Nat → Addr} {dA : Addr} (Z : HF mg w cA dA) : SSZ W (T_with_like_c W w cA dA) X_with_like_c := by
  unfold X_with_like_c T_with_like_c
  exact ssz_seq (ssz_of (ss_asg (sg_name (by decide)) (sw_M (se_call (sa_cons se_var sa_nil)))))
    (ssz_seq (ssz_of (ss_asg (sg_name (by decide)) (sw_M (se_op so_ix se_var se_var))))
    (ssz_seq (ssz_if (swt_M (st_not (st_B (se_call (sa_cons se_var (sa_cons (se_cb sc_sort (sa_cons (se_op so_ix se_var se_var) sa_nil)) sa_nil)))))) (ssz_rz0 (Z.cl 5 (by decide)) rfl) (ssz_of ss_next))
    (ssz_of (ss_ret (sw_M (se_call (sa_cons se_var (sa_cons se_var (sa_cons (se_call (sa_cons se_var (sa_cons se_var (sa_cons se_var sa_nil)))) sa_nil)))))))))
def T_liked_less_c (W : WX) (w : World) (cA : Nat → Addr) (dA : Addr) : TS :=
    tSeq (tAsg (tOp (rIx K) (tOp (rIx K) (tOp (rIx K) (tVar 0) (tC (.int 0))) (tVar 1)) (tIf (tB (tVar 2)) (tC (.int 0)) (tC (.int 1)))) (gName 3))
    (tSeq (tIfS (tTest (tOp oIsU (tVar 3) (tC .non))) (tRet (tVar 0)) tNext)
    (tSeq (tAsg (tOp (rIx K) (tOp (rIx K) (tVar 0) (tCall (spF F_order_place) [] E0 (tCons (tVar 2) tNil))) (tVar 3)) (gName 4))
    (tSeq (tAsg (tOp (rAddU K) (tCB (rTupF K) (tCons (tLc (iSeq K (tVar 4)) (gName 6) (tTest (tOp (rNeD K) (tVar 6) (tVar 1))) (tVar 6) [6]) tNil)) (tTupF (tCons (tVar 1) tNil))) (gName 5))
    (tRet (tCallS (spZ F_with_like_c) (WE W) (tApp1 (tCons (tVar 0) (tCons (tVar 3) (tCons (tVar 5) tNil))) (tVar 2)))))))
theorem ss_liked_less_c {W : WX} {mg : Str → Option Value} {w : World} {cA : Nat → Addr} {dA : Addr} (Z : HF mg w cA dA) : SSZ W (T_liked_less_c W w cA dA) X_liked_less_c := by
  unfold X_liked_less_c T_liked_less_c
  exact ssz_seq (ssz_of (ss_asg (sg_name (by decide)) (sw_M (se_op so_ix (se_op so_ix (se_op so_ix se_var se_int) se_var) (se_if (st_B se_var) se_int se_int)))))
    (ssz_seq (ssz_of (ss_if (swt_M (st_test (se_op so_isU se_var se_non))) (ss_ret (sw_M se_var)) ss_next))
    (ssz_seq (ssz_of (ss_asg (sg_name (by decide)) (sw_M (se_op so_ix (se_op so_ix se_var (se_call (sa_cons se_var sa_nil))) se_var))))
    (ssz_seq (ssz_of (ss_asg (sg_name (by decide)) (sw_M (se_op so_add (se_cb sc_tup (sa_cons (SEF.se (sef_lc (si_seq se_var) sgv_name (by decide) (st_test (se_op so_ne se_var se_var)) se_var)) sa_nil)) (se_tup (sa_cons se_var sa_nil))))))
    (ssz_ret (swz_M (sez_call (sa_app1 (sa_cons se_var (sa_cons se_var (sa_cons se_var sa_nil))) se_var)))))))
def T_orders_without : TS :=
    tRet (tCB (rTupF K) (tCons (tLc (iSeq K (tVar 0)) (gName 2) tYes (tCB (rTupF K) (tCons (tLc (iSeq K (tVar 2)) (gName 3) (tTest (tOp (rNeD K) (tVar 3) (tVar 1))) (tIf (tTest (tOp (rGtU K) (tVar 3) (tVar 1))) (tOp oSub (tVar 3) (tC (.int 1))) (tVar 3)) [3]) tNil)) [2]) tNil))
theorem ss_orders_without : SS T_orders_without X_orders_without := by
  unfold X_orders_without T_orders_without
  exact ss_ret (sw_M (se_cb sc_tup (sa_cons (SEF.se (sef_lc (si_seq se_var) sgv_name (by decide) st_yes (se_cb sc_tup (sa_cons (SEF.se (sef_lc (si_seq se_var) sgv_name (by decide) (st_test (se_op so_ne se_var se_var)) (se_if (st_test (se_op so_gtU se_var se_var)) (se_op so_sub se_var se_int) se_var))) sa_nil)))) sa_nil)))
def T_without_d (W : WX) (w : World) (cA : Nat → Addr) (dA : Addr) : TS :=
    tSeq (tAsg (tVar 0) (gTU K 3 (gCons (gName 2) (gCons (gName 3) (gCons (gName 4) gNil)))))
    (tSeq (tIfS (tTest (tOp (rEqX K) (tCB (rLenQ K) (tCons (tVar 2) tNil)) (tC (.int 1)))) (fun _ σ H => W (.ref (cA 4)) none σ H) tNext)
    (tRet (tTupF (tCons (tOp (rAddU K) (tSl (rSlU K) (tVar 2) tNoPart (tPart (tVar 1))) (tSl (rSlU K) (tVar 2) (tPart (tOp (rAddU K) (tVar 1) (tC (.int 1)))) tNoPart)) (tCons (tCall (spF F_orders_without) [] E0 (tCons (tVar 3) (tCons (tVar 1) tNil))) (tCons (tCall (spF F_orders_without) [] E0 (tCons (tVar 4) (tCons (tVar 1) tNil))) tNil))))))
theorem ss_without_d {W : WX} {mg : Str → Option Value} {w : World} {cA : Nat → Addr} {dA : Addr} (Z : HF mg w cA dA) : SSZ W (T_without_d W w cA dA) X_without_d := by
  unfold X_without_d T_without_d
  exact ssz_seq (ssz_of (ss_asg (sg_tup (sg_cons (sg_name (by decide)) (sg_cons (sg_name (by decide)) (sg_cons (sg_name (by decide)) sg_nil)))) (sw_M se_var)))
    (ssz_seq (ssz_if (swt_M (st_test (se_op so_eq (se_cb sc_len (sa_cons se_var sa_nil)) se_int))) (ssz_rz0 (Z.cl 4 (by decide)) rfl) (ssz_of ss_next))
    (ssz_of (ss_ret (sw_M (se_tup (sa_cons (se_op so_add (se_sl se_var sp_none (sp_some se_var)) (se_sl se_var (sp_some (se_op so_add se_var se_int)) sp_none)) (sa_cons (se_call (sa_cons se_var (sa_cons se_var sa_nil))) (sa_cons (se_call (sa_cons se_var (sa_cons se_var sa_nil))) sa_nil))))))))
def T__law_told_v (w : World) (cA : Nat → Addr) (dA : Addr) : TS :=
    tSeq (tAsg (tC .non) (gName 2))
    (tSeq (tTryAl K (fun cls => PySem.W.exmOne K cls (.ref (cA 0))) 3 (fun a D => tAsg (tLst (tCons (tCallP (spAl tab_k61) 3 a D) tNil)) (gName 2)) (fun W => tIfS (tTest (tOp (rEqX K) (tOp (rIx K) (tVar 1) (tC (.int 0))) (tC (.str "without")))) (tAsg (tCallS (spZ F_without_d) (WE W) (tCons (tVar 0) (tCons (tOp (rIx K) (tVar 1) (tC (.int 1))) tNil))) (gName 2)) (tIfS (tTest (tOp (rEqX K) (tOp (rIx K) (tVar 1) (tC (.int 0))) (tC (.str "less")))) (tAsg (tCallS (spZ F_liked_less_c) (WE W) (tApp1 (tCons (tVar 0) (tCons (tOp (rIx K) (tVar 1) (tC (.int 1))) tNil)) (tC (.bl true)))) (gName 2)) (tIfS (tTest (tOp (rEqX K) (tOp (rIx K) (tVar 1) (tC (.int 0))) (tC (.str "less at")))) (tAsg (tCallS (spZ F_liked_less_c) (WE W) (tApp1 (tCons (tVar 0) (tCons (tOp (rIx K) (tVar 1) (tC (.int 1))) tNil)) (tOp (rEqX K) (tOp (rIx K) (tVar 1) (tC (.int 2))) (tC (.int 1))))) (gName 2)) (tIfS (tTest (tOp (rEqX K) (tOp (rIx K) (tVar 1) (tC (.int 0))) (tC (.str "like")))) (tAsg (tCallS (spZ F_with_like_c) (WE W) (tApp1 (tCons (tVar 0) (tCons (tOp (rIx K) (tVar 1) (tC (.int 1))) (tCons (tOp (rIx K) (tVar 1) (tC (.int 2))) tNil))) (tC (.bl true)))) (gName 2)) (tAsg (tCallS (spZ F_with_like_c) (WE W) (tApp1 (tCons (tVar 0) (tCons (tOp (rIx K) (tVar 1) (tC (.int 1))) (tCons (tOp (rIx K) (tVar 1) (tC (.int 2))) tNil))) (tOp (rEqX K) (tOp (rIx K) (tVar 1) (tC (.int 3))) (tC (.int 1))))) (gName 2)))))))
    (tRet (tVar 2)))
theorem ss__law_told_v {mg : Str → Option Value} {w : World} {cA : Nat → Addr} {dA : Addr} (Z : HF mg w cA dA) : SS (T__law_told_v w cA dA) X__law_told_v := by
  unfold X__law_told_v T__law_told_v
  exact ss_seq (ss_asg (sg_name (by decide)) (sw_M se_non))
    (ss_seq (ss_noZ (ssz_tryAl (fun W => ssz_if (swt_M (st_test (se_op so_eq (se_op so_ix se_var se_int) se_str))) (ssz_asg (by decide) (swz_M (sez_call (sa_cons se_var (sa_cons (se_op so_ix se_var se_int) sa_nil))))) (ssz_if (swt_M (st_test (se_op so_eq (se_op so_ix se_var se_int) se_str))) (ssz_asg (by decide) (swz_M (sez_call (sa_app1 (sa_cons se_var (sa_cons (se_op so_ix se_var se_int) sa_nil)) se_bl)))) (ssz_if (swt_M (st_test (se_op so_eq (se_op so_ix se_var se_int) se_str))) (ssz_asg (by decide) (swz_M (sez_call (sa_app1 (sa_cons se_var (sa_cons (se_op so_ix se_var se_int) sa_nil)) (se_op so_eq (se_op so_ix se_var se_int) se_int))))) (ssz_if (swt_M (st_test (se_op so_eq (se_op so_ix se_var se_int) se_str))) (ssz_asg (by decide) (swz_M (sez_call (sa_app1 (sa_cons se_var (sa_cons (se_op so_ix se_var se_int) (sa_cons (se_op so_ix se_var se_int) sa_nil))) se_bl)))) (ssz_asg (by decide) (swz_M (sez_call (sa_app1 (sa_cons se_var (sa_cons (se_op so_ix se_var se_int) (sa_cons (se_op so_ix se_var se_int) sa_nil))) (se_op so_eq (se_op so_ix se_var se_int) se_int))))))))) Z.em_k61_WebError Z.ex (by decide) (by decide) (by decide)))
    (ss_ret (sw_M se_var)))
theorem ss_X__law_right_z43_b1 : SS (tIfS (tOr (tTest (tOp (rNeD K) (tCB (rRepr K) (tCons (tCall (spF F__law_told_v) [] E0 (tCons (tVar 0) (tCons (tVar 1) tNil))) tNil)) (tCB (rRepr K) (tCons (tVar 2) tNil)))) (tTest (tOp (rNeD K) (tCB (rRepr K) (tCons (tLst (tCons (tVar 0) (tCons (tVar 1) tNil))) tNil)) (tVar 3)))) (tRet (tC (.bl false))) tNext) X__law_right_z43_b1 := by
  unfold X__law_right_z43_b1
  exact ss_if (swt_M (st_or (st_test (se_op so_ne (se_cb sc_repr (sa_cons (se_call (sa_cons se_var (sa_cons se_var sa_nil))) sa_nil)) (se_cb sc_repr (sa_cons se_var sa_nil)))) (st_test (se_op so_ne (se_cb sc_repr (sa_cons (SEF.se (sef_lst (sa_cons se_var (sa_cons se_var sa_nil)))) sa_nil)) se_var)))) (ss_ret (sw_M se_bl)) ss_next
def T__law_right_z43 : TS :=
    tSeq (tAsg (tCB (rRepr K) (tCons (tLst (tCons (tVar 0) (tCons (tVar 1) tNil))) tNil)) (gName 3))
    (tSeq (tFor (iRng1 (tCons (tC (.int 2)) tNil)) (gName 4) (tIfS (tOr (tTest (tOp (rNeD K) (tCB (rRepr K) (tCons (tCall (spF F__law_told_v) [] E0 (tCons (tVar 0) (tCons (tVar 1) tNil))) tNil)) (tCB (rRepr K) (tCons (tVar 2) tNil)))) (tTest (tOp (rNeD K) (tCB (rRepr K) (tCons (tLst (tCons (tVar 0) (tCons (tVar 1) tNil))) tNil)) (tVar 3)))) (tRet (tC (.bl false))) tNext))
    (tRet (tC (.bl true))))
theorem ss__law_right_z43 : SS T__law_right_z43 X__law_right_z43 := by
  unfold X__law_right_z43 T__law_right_z43
  exact ss_seq (ss_asg (sg_name (by decide)) (sw_M (se_cb sc_repr (sa_cons (SEF.se (sef_lst (sa_cons se_var (sa_cons se_var sa_nil)))) sa_nil))))
    (ss_seq (ss_for (swi_rng (swa_cons (sw_M se_int) swa_nil)) (sg_name (by decide)) ss_X__law_right_z43_b1)
    (ss_ret (sw_M se_bl)))
theorem ss_X__law_house_right_d_b1 : SS (tIfS (tNot (tB (tCall (spF F__law_right_z43) [] E0 (tCons (tVar 1) (tCons (tTupF (tCons (tC (.str "like at")) (tCons (tVar 2) (tCons (tVar 5) (tCons (tVar 3) tNil))))) (tCons (tCall (spF F__law_liking_b) [] E0 (tCons (tVar 1) (tCons (tVar 2) (tCons (tVar 5) (tCons (tVar 3) tNil))))) tNil)))))) (tRet (tC (.bl false))) tNext) X__law_house_right_d_b1 := by
  unfold X__law_house_right_d_b1
  exact ss_if (swt_M (st_not (st_B (se_call (sa_cons se_var (sa_cons (se_tup (sa_cons se_str (sa_cons se_var (sa_cons se_var (sa_cons se_var sa_nil))))) (sa_cons (se_call (sa_cons se_var (sa_cons se_var (sa_cons se_var (sa_cons se_var sa_nil))))) sa_nil))))))) (ss_ret (sw_M se_bl)) ss_next
def T__law_house_right_d : TS :=
    tSeq (tAsg (tOp (rAddU K) (tC (.int 1)) (tCall (spW F__law_next_c) [] E0 (tCons (tVar 0) (tCons (tC (.int 2)) tNil)))) (gName 3))
    (tSeq (tAsg (tLst (tCons (tCall (spW F__law_order_d) [] E0 (tCons (tVar 0) (tCons (tOp (rIx K) (tOp (rIx K) (tVar 1) (tVar 3)) (tVar 2)) tNil))) (tCons (tCall (spW F__law_one_b) [] E0 (tCons (tVar 0) (tCons (tOp (rIx K) (tVar 1) (tVar 3)) tNil))) (tCons (tCall (spW F__law_odd_e) [] E0 (tCons (tVar 0) tNil)) tNil)))) (gName 4))
    (tSeq (tDrop (tBM K "list" rAppend (tVar 4) (tCons (tCall (spW (F__law_bent_e 9)) [] E0 (tCons (tVar 0) (tCons (tOp (rIx K) (tVar 4) (tC (.int 0))) (tCons (tC (.int 1)) tNil)))) tNil)))
    (tSeq (tDrop (tBM K "list" rAppend (tVar 4) (tCons (tCall (spW (F__law_bent_e 9)) [] E0 (tCons (tVar 0) (tCons (tOp (rIx K) (tVar 4) (tC (.int 3))) (tCons (tC (.int 1)) tNil)))) tNil)))
    (tSeq (tFor (iSeq K (tVar 4)) (gName 5) (tIfS (tNot (tB (tCall (spF F__law_right_z43) [] E0 (tCons (tVar 1) (tCons (tTupF (tCons (tC (.str "like at")) (tCons (tVar 2) (tCons (tVar 5) (tCons (tVar 3) tNil))))) (tCons (tCall (spF F__law_liking_b) [] E0 (tCons (tVar 1) (tCons (tVar 2) (tCons (tVar 5) (tCons (tVar 3) tNil))))) tNil)))))) (tRet (tC (.bl false))) tNext))
    (tRet (tCall (spF F__law_right_z43) [] E0 (tCons (tVar 1) (tCons (tTupF (tCons (tC (.str "like")) (tCons (tVar 2) (tCons (tOp (rIx K) (tVar 4) (tC (.int 0))) tNil)))) (tCons (tCall (spF F__law_liking_b) [] E0 (tCons (tVar 1) (tCons (tVar 2) (tCons (tOp (rIx K) (tVar 4) (tC (.int 0))) (tCons (tC (.int 1)) tNil))))) tNil)))))))))
theorem ss__law_house_right_d : SS T__law_house_right_d X__law_house_right_d := by
  unfold X__law_house_right_d T__law_house_right_d
  exact ss_seq (ss_asg (sg_name (by decide)) (sw_op so_add (sw_M se_int) (sw_callK (swa_cons (sw_M se_int) swa_nil))))
    (ss_seq (ss_own (by decide) (swo_lst (swc_dat (sw_callK (swa_cons (sw_M (se_op so_ix (se_op so_ix se_var se_var) se_var)) swa_nil)) (swc_dat (sw_callK (swa_cons (sw_M (se_op so_ix se_var se_var)) swa_nil)) (swc_dat (sw_callK swa_nil) swc_nil)))))
    (ss_seq (ss_app (sw_callK (swa_cons (sw_ixO (sw_M se_int)) (swa_cons (sw_M se_int) swa_nil))))
    (ss_seq (ss_app (sw_callK (swa_cons (sw_ixO (sw_M se_int)) (swa_cons (sw_M se_int) swa_nil))))
    (ss_fz (ss_seq (ss_for (swi_seq (sw_M se_var)) (sg_name (by decide)) ss_X__law_house_right_d_b1)
    (ss_ret (sw_M (se_call (sa_cons se_var (sa_cons (se_tup (sa_cons se_str (sa_cons se_var (sa_cons (se_op so_ix se_var se_int) sa_nil)))) (sa_cons (se_call (sa_cons se_var (sa_cons se_var (sa_cons (se_op so_ix se_var se_int) (sa_cons se_int sa_nil))))) sa_nil)))))))))))
def T__law_least_b : TS :=
    tSeq (tAsg (tOp (rIx K) (tOp (rIx K) (tOp (rIx K) (tVar 0) (tC (.int 0))) (tVar 1)) (tOp oSub (tVar 2) (tC (.int 1)))) (gName 3))
    (tSeq (tIfS (tTest (tOp oIsU (tVar 3) (tC .non))) (tRet (tVar 0)) tNext)
    (tRet (tCall (spF F__law_ordered_b) [] E0 (tCons (tVar 0) (tCons (tVar 3) (tCons (tOp (rAddU K) (tCB (rTupF K) (tCons (tLc (iSeq K (tOp (rIx K) (tOp (rIx K) (tVar 0) (tVar 2)) (tVar 3))) (gName 4) (tTest (tOp (rNeD K) (tVar 4) (tVar 1))) (tVar 4) [4]) tNil)) (tTupF (tCons (tVar 1) tNil))) (tCons (tVar 2) tNil)))))))
theorem ss__law_least_b : SS T__law_least_b X__law_least_b := by
  unfold X__law_least_b T__law_least_b
  exact ss_seq (ss_asg (sg_name (by decide)) (sw_M (se_op so_ix (se_op so_ix (se_op so_ix se_var se_int) se_var) (se_op so_sub se_var se_int))))
    (ss_seq (ss_if (swt_M (st_test (se_op so_isU se_var se_non))) (ss_ret (sw_M se_var)) ss_next)
    (ss_ret (sw_M (se_call (sa_cons se_var (sa_cons se_var (sa_cons (se_op so_add (se_cb sc_tup (sa_cons (SEF.se (sef_lc (si_seq (se_op so_ix (se_op so_ix se_var se_var) se_var)) sgv_name (by decide) (st_test (se_op so_ne se_var se_var)) se_var)) sa_nil)) (se_tup (sa_cons se_var sa_nil))) (sa_cons se_var sa_nil))))))))
theorem ss_X__law_without_b_b1 : SS (tDrop (tBM K "list" rAppend (tVar 2) (tCons (tCB (rTupF K) (tCons (tLc (iSeq K (tOp (rIx K) (tVar 0) (tVar 3))) (gName 4) tYes (tCB (rTupF K) (tCons (tLc (iSeq K (tVar 4)) (gName 5) (tTest (tOp (rNeD K) (tVar 5) (tVar 1))) (tOp oSub (tVar 5) (tCB rIntQ (tCons (tOp (rGtU K) (tVar 5) (tVar 1)) tNil))) [5]) tNil)) [4]) tNil)) tNil))) X__law_without_b_b1 := by
  unfold X__law_without_b_b1
  exact ss_app (sw_M (se_cb sc_tup (sa_cons (SEF.se (sef_lc (si_seq (se_op so_ix se_var se_var)) sgv_name (by decide) st_yes (se_cb sc_tup (sa_cons (SEF.se (sef_lc (si_seq se_var) sgv_name (by decide) (st_test (se_op so_ne se_var se_var)) (se_op so_sub se_var (se_cb sc_int (sa_cons (se_op so_gtU se_var se_var) sa_nil))))) sa_nil)))) sa_nil)))
def T__law_without_b : TS :=
    tSeq (tIfS (tTest (tOp (rEqX K) (tCB (rLenQ K) (tCons (tOp (rIx K) (tVar 0) (tC (.int 0))) tNil)) (tC (.int 1)))) (tRet (tLst (tCons (tC (.str "no roads")) tNil))) tNext)
    (tSeq (tAsg (tLst tNil) (gName 2))
    (tSeq (tFor (iSeq K (tLst (tCons (tC (.int 1)) (tCons (tC (.int 2)) tNil)))) (gName 3) (tDrop (tBM K "list" rAppend (tVar 2) (tCons (tCB (rTupF K) (tCons (tLc (iSeq K (tOp (rIx K) (tVar 0) (tVar 3))) (gName 4) tYes (tCB (rTupF K) (tCons (tLc (iSeq K (tVar 4)) (gName 5) (tTest (tOp (rNeD K) (tVar 5) (tVar 1))) (tOp oSub (tVar 5) (tCB rIntQ (tCons (tOp (rGtU K) (tVar 5) (tVar 1)) tNil))) [5]) tNil)) [4]) tNil)) tNil))))
    (tRet (tTupF (tCons (tOp (rAddU K) (tSl (rSlU K) (tOp (rIx K) (tVar 0) (tC (.int 0))) tNoPart (tPart (tVar 1))) (tSl (rSlU K) (tOp (rIx K) (tVar 0) (tC (.int 0))) (tPart (tOp (rAddU K) (tVar 1) (tC (.int 1)))) tNoPart)) (tCons (tOp (rIx K) (tVar 2) (tC (.int 0))) (tCons (tOp (rIx K) (tVar 2) (tC (.int 1))) tNil)))))))
theorem ss__law_without_b : SS T__law_without_b X__law_without_b := by
  unfold X__law_without_b T__law_without_b
  exact ss_seq (ss_if (swt_M (st_test (se_op so_eq (se_cb sc_len (sa_cons (se_op so_ix se_var se_int) sa_nil)) se_int))) (ss_ret (sw_M (SEF.se (sef_lst (sa_cons se_str sa_nil))))) ss_next)
    (ss_seq (ss_own (by decide) (swo_lst swc_nil))
    (ss_seq (ss_for (swi_seq (sw_M (SEF.se (sef_lst (sa_cons se_int (sa_cons se_int sa_nil)))))) (sg_name (by decide)) ss_X__law_without_b_b1)
    (ss_fz (ss_ret (sw_M (se_tup (sa_cons (se_op so_add (se_sl (se_op so_ix se_var se_int) sp_none (sp_some se_var)) (se_sl (se_op so_ix se_var se_int) (sp_some (se_op so_add se_var se_int)) sp_none)) (sa_cons (se_op so_ix se_var se_int) (sa_cons (se_op so_ix se_var se_int) sa_nil)))))))))
def T__law_road_right_c : TS :=
    tSeq (tAsg (tOp (rAddU K) (tC (.int 1)) (tCall (spW F__law_next_c) [] E0 (tCons (tVar 0) (tCons (tC (.int 2)) tNil)))) (gName 3))
    (tSeq (tIfS (tNot (tB (tCall (spF F__law_right_z43) [] E0 (tCons (tVar 1) (tCons (tTupF (tCons (tC (.str "without")) (tCons (tVar 2) tNil))) (tCons (tCall (spF F__law_without_b) [] E0 (tCons (tVar 1) (tCons (tVar 2) tNil))) tNil)))))) (tRet (tC (.bl false))) tNext)
    (tSeq (tIfS (tNot (tB (tCall (spF F__law_right_z43) [] E0 (tCons (tVar 1) (tCons (tTupF (tCons (tC (.str "less")) (tCons (tVar 2) tNil))) (tCons (tCall (spF F__law_least_b) [] E0 (tCons (tVar 1) (tCons (tVar 2) (tCons (tC (.int 1)) tNil)))) tNil)))))) (tRet (tC (.bl false))) tNext)
    (tRet (tCall (spF F__law_right_z43) [] E0 (tCons (tVar 1) (tCons (tTupF (tCons (tC (.str "less at")) (tCons (tVar 2) (tCons (tVar 3) tNil)))) (tCons (tCall (spF F__law_least_b) [] E0 (tCons (tVar 1) (tCons (tVar 2) (tCons (tVar 3) tNil)))) tNil)))))))
theorem ss__law_road_right_c : SS T__law_road_right_c X__law_road_right_c := by
  unfold X__law_road_right_c T__law_road_right_c
  exact ss_seq (ss_asg (sg_name (by decide)) (sw_op so_add (sw_M se_int) (sw_callK (swa_cons (sw_M se_int) swa_nil))))
    (ss_seq (ss_if (swt_M (st_not (st_B (se_call (sa_cons se_var (sa_cons (se_tup (sa_cons se_str (sa_cons se_var sa_nil))) (sa_cons (se_call (sa_cons se_var (sa_cons se_var sa_nil))) sa_nil))))))) (ss_ret (sw_M se_bl)) ss_next)
    (ss_seq (ss_if (swt_M (st_not (st_B (se_call (sa_cons se_var (sa_cons (se_tup (sa_cons se_str (sa_cons se_var sa_nil))) (sa_cons (se_call (sa_cons se_var (sa_cons se_var (sa_cons se_int sa_nil)))) sa_nil))))))) (ss_ret (sw_M se_bl)) ss_next)
    (ss_ret (sw_M (se_call (sa_cons se_var (sa_cons (se_tup (sa_cons se_str (sa_cons se_var (sa_cons se_var sa_nil)))) (sa_cons (se_call (sa_cons se_var (sa_cons se_var (sa_cons se_var sa_nil)))) sa_nil))))))))
theorem ss_X__law_web_f_b1 : SS (tSeq (tAsg (tOp (rAddU K) (tLst (tCons (tC .non) tNil)) (tLstRg (tRg1 (tVar 4)))) (gName 7))
    (tSeq (tAsg (tBM K "list" rPopAt (tVar 7) (tCons (tCall (spW F__law_next_c) [] E0 (tCons (tVar 0) (tCons (tCB (rLenQ K) (tCons (tVar 7) tNil)) tNil))) tNil)) (gName 8))
    (tDrop (tBM K "list" rAppend (tVar 5) (tCons (tTupF (tCons (tVar 8) (tCons (tCall (spW F__law_one_b) [] E0 (tCons (tVar 0) (tCons (tVar 7) tNil))) (tCons (tOp (rIx K) (tLst (tCons (tC (.int 1)) (tCons (tC (.int 2)) (tCons (tC (.int 1)) (tCons (tC (.int 0)) (tCons (tC (.int 2)) (tCons (tC (.int 1)) tNil))))))) (tCall (spW F__law_next_c) [] E0 (tCons (tVar 0) (tCons (tC (.int 6)) tNil)))) tNil)))) tNil))))) X__law_web_f_b1 := by
  unfold X__law_web_f_b1
  exact ss_seq (ss_own (by decide) (swo_M (sef_op sof_cat (SEF.se (sef_lst (sa_cons se_non sa_nil))) (SEF.se (sef_rgL se_var)))))
    (ss_seq (ss_asg (sg_name (by decide)) (sw_pop (sw_callK (swa_cons (sw_V (se_cb sc_len (sa_cons se_var sa_nil))) swa_nil))))
    (ss_fz (ss_app (sw_tup (swa_cons (sw_M se_var) (swa_cons (sw_callK (swa_cons (sw_M se_var) swa_nil)) (swa_cons (sw_op so_ix (sw_M (SEF.se (sef_lst (sa_cons se_int (sa_cons se_int (sa_cons se_int (sa_cons se_int (sa_cons se_int (sa_cons se_int sa_nil))))))))) (sw_callK (swa_cons (sw_M se_int) swa_nil))) swa_nil)))))))
def T__law_web_f : TS :=
    tSeq (tAsg (tTupF (tCons (tCall (spW F__law_next_c) [] E0 (tCons (tVar 0) (tCons (tC (.int 4)) tNil))) (tCons (tOp (rAddU K) (tC (.int 1)) (tCall (spW F__law_next_c) [] E0 (tCons (tVar 0) (tCons (tVar 1) tNil)))) (tCons (tLst tNil) tNil)))) (gTU K 3 (gCons (gName 3) (gCons (gName 4) (gCons (gName 5) gNil)))))
    (tSeq (tIfS (tAnd (tTest (tOp (rEqX K) (tVar 3) (tC (.int 0)))) (tTest (tOp (rGtU K) (tVar 2) (tC (.int 4))))) (tSeq (tAsg (tCB (rMaxU K) (tCons (tC (.int 2)) (tCons (tVar 4) tNil))) (gName 4))
    (tAsg (tLst (tCons (tTupF (tCons (tC .non) (tCons (tC (.int 0)) (tCons (tC (.int 1)) tNil)))) (tCons (tTupF (tCons (tC (.int 0)) (tCons (tC (.int 1)) (tCons (tOp (rAddU K) (tC (.int 1)) (tCall (spW F__law_next_c) [] E0 (tCons (tVar 0) (tCons (tC (.int 2)) tNil)))) tNil)))) (tCons (tTupF (tCons (tC (.int 0)) (tCons (tC (.int 1)) (tCons (tOp (rAddU K) (tC (.int 1)) (tCall (spW F__law_next_c) [] E0 (tCons (tVar 0) (tCons (tC (.int 2)) tNil)))) tNil)))) (tCons (tTupF (tCons (tC (.int 1)) (tCons (tC .non) (tCons (tC (.int 1)) tNil)))) tNil))))) (gName 5))) tNext)
    (tSeq (tFor (iRng1 (tCons (tOp oSub (tOp (rAddU K) (tC (.int 1)) (tCall (spW F__law_next_c) [] E0 (tCons (tVar 0) (tCons (tVar 2) tNil)))) (tCB (rLenQ K) (tCons (tVar 5) tNil))) tNil)) (gName 6) (tSeq (tAsg (tOp (rAddU K) (tLst (tCons (tC .non) tNil)) (tLstRg (tRg1 (tVar 4)))) (gName 7))
    (tSeq (tAsg (tBM K "list" rPopAt (tVar 7) (tCons (tCall (spW F__law_next_c) [] E0 (tCons (tVar 0) (tCons (tCB (rLenQ K) (tCons (tVar 7) tNil)) tNil))) tNil)) (gName 8))
    (tDrop (tBM K "list" rAppend (tVar 5) (tCons (tTupF (tCons (tVar 8) (tCons (tCall (spW F__law_one_b) [] E0 (tCons (tVar 0) (tCons (tVar 7) tNil))) (tCons (tOp (rIx K) (tLst (tCons (tC (.int 1)) (tCons (tC (.int 2)) (tCons (tC (.int 1)) (tCons (tC (.int 0)) (tCons (tC (.int 2)) (tCons (tC (.int 1)) tNil))))))) (tCall (spW F__law_next_c) [] E0 (tCons (tVar 0) (tCons (tC (.int 6)) tNil)))) tNil)))) tNil))))))
    (tSeq (tAsg (tLc (iRng1 (tCons (tVar 4) tNil)) (gName 11) tYes (tLc (iRng1 (tCons (tCB (rLenQ K) (tCons (tVar 5) tNil)) tNil)) (gName 6) (tTest (tOp (rEqX K) (tOp (rIx K) (tOp (rIx K) (tVar 5) (tVar 6)) (tC (.int 0))) (tVar 11))) (tVar 6) [6]) [11]) (gName 9))
    (tSeq (tAsg (tLc (iRng1 (tCons (tVar 4) tNil)) (gName 11) tYes (tLc (iRng1 (tCons (tCB (rLenQ K) (tCons (tVar 5) tNil)) tNil)) (gName 6) (tTest (tOp (rEqX K) (tOp (rIx K) (tOp (rIx K) (tVar 5) (tVar 6)) (tC (.int 1))) (tVar 11))) (tVar 6) [6]) [11]) (gName 10))
    (tSeq (tIfS (tTest (tOp oLt (tVar 3) (tC (.int 2)))) (tRet (tTupF (tCons (tCB (rTupF K) (tCons (tVar 5) tNil)) (tCons (tCB (rTupF K) (tCons (tLc (iSeq K (tVar 9)) (gName 12) tYes (tCB (rTupF K) (tCons (tVar 12) tNil)) [12]) tNil)) (tCons (tCB (rTupF K) (tCons (tLc (iSeq K (tVar 10)) (gName 12) tYes (tCB (rTupF K) (tCons (tBack K (tVar 12)) tNil)) [12]) tNil)) tNil))))) tNext)
    (tSeq (tAsg (tCB (rTupF K) (tCons (tLc (iSeq K (tVar 9)) (gName 12) tYes (tCall (spW F__law_order_d) [] E0 (tCons (tVar 0) (tCons (tVar 12) tNil))) [12]) tNil)) (gName 9))
    (tRet (tTupF (tCons (tCB (rTupF K) (tCons (tVar 5) tNil)) (tCons (tVar 9) (tCons (tCB (rTupF K) (tCons (tLc (iSeq K (tVar 10)) (gName 12) tYes (tCall (spW F__law_order_d) [] E0 (tCons (tVar 0) (tCons (tVar 12) tNil))) [12]) tNil)) tNil)))))))))))
theorem ss__law_web_f : SS T__law_web_f X__law_web_f := by
  unfold X__law_web_f T__law_web_f
  exact ss_seq (ss_unp3 (by decide) (by decide) (by decide) (swc_dat (sw_callK (swa_cons (sw_M se_int) swa_nil)) (swc_dat (sw_op so_add (sw_M se_int) (sw_callK (swa_cons (sw_M se_var) swa_nil))) (swc_sub (swo_lst swc_nil) swc_nil))))
    (ss_seq (ss_if (swt_M (st_and (st_test (se_op so_eq se_var se_int)) (st_test (se_op so_gtU se_var se_int)))) (ss_fz (ss_seq (ss_asg (sg_name (by decide)) (sw_M (se_cb sc_max (sa_cons se_int (sa_cons se_var sa_nil)))))
    (ss_own (by decide) (swo_lst (swc_dat (sw_M (se_tup (sa_cons se_non (sa_cons se_int (sa_cons se_int sa_nil))))) (swc_dat (sw_tup (swa_cons (sw_M se_int) (swa_cons (sw_M se_int) (swa_cons (sw_op so_add (sw_M se_int) (sw_callK (swa_cons (sw_M se_int) swa_nil))) swa_nil)))) (swc_dat (sw_tup (swa_cons (sw_M se_int) (swa_cons (sw_M se_int) (swa_cons (sw_op so_add (sw_M se_int) (sw_callK (swa_cons (sw_M se_int) swa_nil))) swa_nil)))) (swc_dat (sw_M (se_tup (sa_cons se_int (sa_cons se_non (sa_cons se_int sa_nil))))) swc_nil)))))))) ss_next)
    (ss_seq (ss_for (swi_rng (swa_cons (sw_op so_sub (sw_op so_add (sw_M se_int) (sw_callK (swa_cons (sw_M se_var) swa_nil))) (sw_V (se_cb sc_len (sa_cons se_var sa_nil)))) swa_nil)) (sg_name (by decide)) ss_X__law_web_f_b1)
    (ss_fz (ss_seq (ss_asg (sg_name (by decide)) (sw_M (SEF.se (sef_lc (si_rng (sa_cons se_var sa_nil)) sgv_name (by decide) st_yes (SEF.se (sef_lc (si_rng (sa_cons (se_cb sc_len (sa_cons se_var sa_nil)) sa_nil)) sgv_name (by decide) (st_test (se_op so_eq (se_op so_ix (se_op so_ix se_var se_var) se_int) se_var)) se_var))))))
    (ss_seq (ss_asg (sg_name (by decide)) (sw_M (SEF.se (sef_lc (si_rng (sa_cons se_var sa_nil)) sgv_name (by decide) st_yes (SEF.se (sef_lc (si_rng (sa_cons (se_cb sc_len (sa_cons se_var sa_nil)) sa_nil)) sgv_name (by decide) (st_test (se_op so_eq (se_op so_ix (se_op so_ix se_var se_var) se_int) se_var)) se_var))))))
    (ss_seq (ss_if (swt_M (st_test (se_op so_lt se_var se_int))) (ss_ret (sw_M (se_tup (sa_cons (se_cb sc_tup (sa_cons se_var sa_nil)) (sa_cons (se_cb sc_tup (sa_cons (SEF.se (sef_lc (si_seq se_var) sgv_name (by decide) st_yes (se_cb sc_tup (sa_cons se_var sa_nil)))) sa_nil)) (sa_cons (se_cb sc_tup (sa_cons (SEF.se (sef_lc (si_seq se_var) sgv_name (by decide) st_yes (se_cb sc_tup (sa_cons (se_back se_var) sa_nil)))) sa_nil)) sa_nil)))))) ss_next)
    (ss_seq (ss_asg (sg_name (by decide)) (sw_cb sc_tup (swa_cons (sw_fz (swo_lc (swi_seq (sw_M se_var)) (sg_name (by decide)) (by decide) (by decide) (swt_M st_yes) (sw_callK (swa_cons (sw_M se_var) swa_nil)))) swa_nil)))
    (ss_ret (sw_tup (swa_cons (sw_M (se_cb sc_tup (sa_cons se_var sa_nil))) (swa_cons (sw_M se_var) (swa_cons (sw_cb sc_tup (swa_cons (sw_fz (swo_lc (swi_seq (sw_M se_var)) (sg_name (by decide)) (by decide) (by decide) (swt_M st_yes) (sw_callK (swa_cons (sw_M se_var) swa_nil)))) swa_nil)) swa_nil))))))))))))
theorem ss_X__law_wide_d_b1 : SS (tSeq (tAsg (tOp (rAddU K) (tLst (tCons (tC .non) tNil)) (tLstRg (tRg1 (tVar 1)))) (gName 4))
    (tSeq (tAsg (tBM K "list" rPopAt (tVar 4) (tCons (tCall (spW F__law_next_c) [] E0 (tCons (tVar 0) (tCons (tCB (rLenQ K) (tCons (tVar 4) tNil)) tNil))) tNil)) (gName 5))
    (tSeq (tAsg (tOp (rIx K) (tLst (tCons (tC (.int 0)) (tCons (tC (.int 1)) (tCons (tC (.int 2)) (tCons (tCall (spW F__law_next_c) [] E0 (tCons (tVar 0) (tCons (tOp oPow (tC (.int 10)) (tC (.int 6))) tNil))) (tCons (tOp oSub (tOp oPow (tC (.int 10)) (tC (.int 12))) (tCall (spW F__law_next_c) [] E0 (tCons (tVar 0) (tCons (tC (.int 3)) tNil)))) tNil)))))) (tCall (spW F__law_next_c) [] E0 (tCons (tVar 0) (tCons (tC (.int 5)) tNil)))) (gName 6))
    (tDrop (tBM K "list" rAppend (tVar 2) (tCons (tTupF (tCons (tVar 5) (tCons (tCall (spW F__law_one_b) [] E0 (tCons (tVar 0) (tCons (tVar 4) tNil))) (tCons (tVar 6) tNil)))) tNil)))))) X__law_wide_d_b1 := by
  unfold X__law_wide_d_b1
  exact ss_seq (ss_own (by decide) (swo_M (sef_op sof_cat (SEF.se (sef_lst (sa_cons se_non sa_nil))) (SEF.se (sef_rgL se_var)))))
    (ss_seq (ss_asg (sg_name (by decide)) (sw_pop (sw_callK (swa_cons (sw_V (se_cb sc_len (sa_cons se_var sa_nil))) swa_nil))))
    (ss_fz (ss_seq (ss_asg (sg_name (by decide)) (sw_op so_ix (sw_lst (swa_cons (sw_M se_int) (swa_cons (sw_M se_int) (swa_cons (sw_M se_int) (swa_cons (sw_callK (swa_cons (sw_M (se_op so_pow se_int se_int)) swa_nil)) (swa_cons (sw_op so_sub (sw_M (se_op so_pow se_int se_int)) (sw_callK (swa_cons (sw_M se_int) swa_nil))) swa_nil)))))) (sw_callK (swa_cons (sw_M se_int) swa_nil))))
    (ss_app (sw_tup (swa_cons (sw_M se_var) (swa_cons (sw_callK (swa_cons (sw_M se_var) swa_nil)) (swa_cons (sw_M se_var) swa_nil))))))))
theorem ss_X__law_wide_d_b2 : SS (tSeq (tDrop (tBM K "list" rAppend (tVar 7) (tCons (tCall (spW F__law_order_d) [] E0 (tCons (tVar 0) (tCons (tLc (iRng1 (tCons (tCB (rLenQ K) (tCons (tVar 2) tNil)) tNil)) (gName 3) (tTest (tOp (rEqX K) (tOp (rIx K) (tOp (rIx K) (tVar 2) (tVar 3)) (tC (.int 0))) (tVar 9))) (tVar 3) [3]) tNil))) tNil)))
    (tDrop (tBM K "list" rAppend (tVar 8) (tCons (tCall (spW F__law_order_d) [] E0 (tCons (tVar 0) (tCons (tLc (iRng1 (tCons (tCB (rLenQ K) (tCons (tVar 2) tNil)) tNil)) (gName 3) (tTest (tOp (rEqX K) (tOp (rIx K) (tOp (rIx K) (tVar 2) (tVar 3)) (tC (.int 1))) (tVar 9))) (tVar 3) [3]) tNil))) tNil)))) X__law_wide_d_b2 := by
  unfold X__law_wide_d_b2
  exact ss_seq (ss_app (sw_callK (swa_cons (sw_M (SEF.se (sef_lc (si_rng (sa_cons (se_cb sc_len (sa_cons se_var sa_nil)) sa_nil)) sgv_name (by decide) (st_test (se_op so_eq (se_op so_ix (se_op so_ix se_var se_var) se_int) se_var)) se_var))) swa_nil)))
    (ss_app (sw_callK (swa_cons (sw_M (SEF.se (sef_lc (si_rng (sa_cons (se_cb sc_len (sa_cons se_var sa_nil)) sa_nil)) sgv_name (by decide) (st_test (se_op so_eq (se_op so_ix (se_op so_ix se_var se_var) se_int) se_var)) se_var))) swa_nil)))
def T__law_wide_d : TS :=
    tSeq (tAsg (tOp (rAddU K) (tC (.int 1)) (tCall (spW F__law_next_c) [] E0 (tCons (tVar 0) (tCons (tC (.int 8)) tNil)))) (gName 1))
    (tSeq (tAsg (tLst tNil) (gName 2))
    (tSeq (tFor (iRng1 (tCons (tOp (rAddU K) (tC (.int 1)) (tCall (spW F__law_next_c) [] E0 (tCons (tVar 0) (tCons (tC (.int 20)) tNil)))) tNil)) (gName 3) (tSeq (tAsg (tOp (rAddU K) (tLst (tCons (tC .non) tNil)) (tLstRg (tRg1 (tVar 1)))) (gName 4))
    (tSeq (tAsg (tBM K "list" rPopAt (tVar 4) (tCons (tCall (spW F__law_next_c) [] E0 (tCons (tVar 0) (tCons (tCB (rLenQ K) (tCons (tVar 4) tNil)) tNil))) tNil)) (gName 5))
    (tSeq (tAsg (tOp (rIx K) (tLst (tCons (tC (.int 0)) (tCons (tC (.int 1)) (tCons (tC (.int 2)) (tCons (tCall (spW F__law_next_c) [] E0 (tCons (tVar 0) (tCons (tOp oPow (tC (.int 10)) (tC (.int 6))) tNil))) (tCons (tOp oSub (tOp oPow (tC (.int 10)) (tC (.int 12))) (tCall (spW F__law_next_c) [] E0 (tCons (tVar 0) (tCons (tC (.int 3)) tNil)))) tNil)))))) (tCall (spW F__law_next_c) [] E0 (tCons (tVar 0) (tCons (tC (.int 5)) tNil)))) (gName 6))
    (tDrop (tBM K "list" rAppend (tVar 2) (tCons (tTupF (tCons (tVar 5) (tCons (tCall (spW F__law_one_b) [] E0 (tCons (tVar 0) (tCons (tVar 4) tNil))) (tCons (tVar 6) tNil)))) tNil)))))))
    (tSeq (tPar 7 8 (tCons (tLst tNil) (tCons (tLst tNil) tNil)))
    (tSeq (tFor (iRng1 (tCons (tVar 1) tNil)) (gName 9) (tSeq (tDrop (tBM K "list" rAppend (tVar 7) (tCons (tCall (spW F__law_order_d) [] E0 (tCons (tVar 0) (tCons (tLc (iRng1 (tCons (tCB (rLenQ K) (tCons (tVar 2) tNil)) tNil)) (gName 3) (tTest (tOp (rEqX K) (tOp (rIx K) (tOp (rIx K) (tVar 2) (tVar 3)) (tC (.int 0))) (tVar 9))) (tVar 3) [3]) tNil))) tNil)))
    (tDrop (tBM K "list" rAppend (tVar 8) (tCons (tCall (spW F__law_order_d) [] E0 (tCons (tVar 0) (tCons (tLc (iRng1 (tCons (tCB (rLenQ K) (tCons (tVar 2) tNil)) tNil)) (gName 3) (tTest (tOp (rEqX K) (tOp (rIx K) (tOp (rIx K) (tVar 2) (tVar 3)) (tC (.int 1))) (tVar 9))) (tVar 3) [3]) tNil))) tNil)))))
    (tRet (tTupF (tCons (tCB (rTupF K) (tCons (tVar 2) tNil)) (tCons (tCB (rTupF K) (tCons (tVar 7) tNil)) (tCons (tCB (rTupF K) (tCons (tVar 8) tNil)) tNil)))))))))
theorem ss__law_wide_d : SS T__law_wide_d X__law_wide_d := by
  unfold X__law_wide_d T__law_wide_d
  exact ss_seq (ss_asg (sg_name (by decide)) (sw_op so_add (sw_M se_int) (sw_callK (swa_cons (sw_M se_int) swa_nil))))
    (ss_seq (ss_own (by decide) (swo_lst swc_nil))
    (ss_seq (ss_for (swi_rng (swa_cons (sw_op so_add (sw_M se_int) (sw_callK (swa_cons (sw_M se_int) swa_nil))) swa_nil)) (sg_name (by decide)) ss_X__law_wide_d_b1)
    (ss_fz (ss_seq (ss_par (by decide) (by decide) (swc_sub (swo_lst swc_nil) (swc_sub (swo_lst swc_nil) swc_nil)))
    (ss_seq (ss_for (swi_rng (swa_cons (sw_M se_var) swa_nil)) (sg_name (by decide)) ss_X__law_wide_d_b2)
    (ss_fz (ss_fz (ss_ret (sw_M (se_tup (sa_cons (se_cb sc_tup (sa_cons se_var sa_nil)) (sa_cons (se_cb sc_tup (sa_cons se_var sa_nil)) (sa_cons (se_cb sc_tup (sa_cons se_var sa_nil)) sa_nil)))))))))))))
theorem ss_X_law_z199_b1 : SS (tSeq (tIfS (tNot (tB (tCall (spW F__law_road_right_c) [] E0 (tCons (tVar 1) (tCons (tVar 3) (tCons (tCall (spW F__law_next_c) [] E0 (tCons (tVar 1) (tCons (tCB (rLenQ K) (tCons (tOp (rIx K) (tVar 3) (tC (.int 0))) tNil)) tNil))) tNil)))))) (tRet (tC (.bl false))) tNext)
    (tIfS (tNot (tB (tCall (spW F__law_house_right_d) [] E0 (tCons (tVar 1) (tCons (tVar 3) (tCons (tCall (spW F__law_next_c) [] E0 (tCons (tVar 1) (tCons (tCB (rLenQ K) (tCons (tOp (rIx K) (tVar 3) (tC (.int 1))) tNil)) tNil))) tNil)))))) (tRet (tC (.bl false))) tNext)) X_law_z199_b1 := by
  unfold X_law_z199_b1
  exact ss_seq (ss_if (swt_not (swt_B (sw_callK (swa_cons (sw_M se_var) (swa_cons (sw_callK (swa_cons (sw_M (se_cb sc_len (sa_cons (se_op so_ix se_var se_int) sa_nil))) swa_nil)) swa_nil))))) (ss_fz (ss_ret (sw_M se_bl))) ss_next)
    (ss_if (swt_not (swt_B (sw_callK (swa_cons (sw_M se_var) (swa_cons (sw_callK (swa_cons (sw_M (se_cb sc_len (sa_cons (se_op so_ix se_var se_int) sa_nil))) swa_nil)) swa_nil))))) (ss_fz (ss_ret (sw_M se_bl))) ss_next)
theorem ss_X_law_z199_b2 : SS (tSeq (tAsg (tOp (rIx K) (tLst (tCons (tCall (spW F__law_web_f) [] E0 (tCons (tVar 1) (tCons (tC (.int 3)) (tCons (tC (.int 6)) tNil)))) (tCons (tCall (spW F__law_wide_d) [] E0 (tCons (tVar 1) tNil)) (tCons (tCall (spW F__law_web_f) [] E0 (tCons (tVar 1) (tCons (tC (.int 2)) (tCons (tC (.int 1)) tNil)))) tNil)))) (tCall (spW F__law_next_c) [] E0 (tCons (tVar 1) (tCons (tC (.int 3)) tNil)))) (gName 3))
    (tFor (iRng1 (tCons (tC (.int 4)) tNil)) (gName 4) (tSeq (tIfS (tNot (tB (tCall (spW F__law_road_right_c) [] E0 (tCons (tVar 1) (tCons (tVar 3) (tCons (tCall (spW F__law_next_c) [] E0 (tCons (tVar 1) (tCons (tCB (rLenQ K) (tCons (tOp (rIx K) (tVar 3) (tC (.int 0))) tNil)) tNil))) tNil)))))) (tRet (tC (.bl false))) tNext)
    (tIfS (tNot (tB (tCall (spW F__law_house_right_d) [] E0 (tCons (tVar 1) (tCons (tVar 3) (tCons (tCall (spW F__law_next_c) [] E0 (tCons (tVar 1) (tCons (tCB (rLenQ K) (tCons (tOp (rIx K) (tVar 3) (tC (.int 1))) tNil)) tNil))) tNil)))))) (tRet (tC (.bl false))) tNext)))) X_law_z199_b2 := by
  unfold X_law_z199_b2
  exact ss_seq (ss_asg (sg_name (by decide)) (sw_op so_ix (sw_lst (swa_cons (sw_callK (swa_cons (sw_M se_int) (swa_cons (sw_M se_int) swa_nil))) (swa_cons (sw_callK swa_nil) (swa_cons (sw_callK (swa_cons (sw_M se_int) (swa_cons (sw_M se_int) swa_nil))) swa_nil)))) (sw_callK (swa_cons (sw_M se_int) swa_nil))))
    (ss_for (swi_rng (swa_cons (sw_M se_int) swa_nil)) (sg_name (by decide)) ss_X_law_z199_b1)
def T_law_z199 : TS :=
    tSeq (tAsg (tCall (spD F__law_deck_f) [] E0 (tCons (tVar 0) tNil)) (gName 1))
    (tSeq (tFor (iRng1 (tCons (tC (.int 3)) tNil)) (gName 2) (tSeq (tAsg (tOp (rIx K) (tLst (tCons (tCall (spW F__law_web_f) [] E0 (tCons (tVar 1) (tCons (tC (.int 3)) (tCons (tC (.int 6)) tNil)))) (tCons (tCall (spW F__law_wide_d) [] E0 (tCons (tVar 1) tNil)) (tCons (tCall (spW F__law_web_f) [] E0 (tCons (tVar 1) (tCons (tC (.int 2)) (tCons (tC (.int 1)) tNil)))) tNil)))) (tCall (spW F__law_next_c) [] E0 (tCons (tVar 1) (tCons (tC (.int 3)) tNil)))) (gName 3))
    (tFor (iRng1 (tCons (tC (.int 4)) tNil)) (gName 4) (tSeq (tIfS (tNot (tB (tCall (spW F__law_road_right_c) [] E0 (tCons (tVar 1) (tCons (tVar 3) (tCons (tCall (spW F__law_next_c) [] E0 (tCons (tVar 1) (tCons (tCB (rLenQ K) (tCons (tOp (rIx K) (tVar 3) (tC (.int 0))) tNil)) tNil))) tNil)))))) (tRet (tC (.bl false))) tNext)
    (tIfS (tNot (tB (tCall (spW F__law_house_right_d) [] E0 (tCons (tVar 1) (tCons (tVar 3) (tCons (tCall (spW F__law_next_c) [] E0 (tCons (tVar 1) (tCons (tCB (rLenQ K) (tCons (tOp (rIx K) (tVar 3) (tC (.int 1))) tNil)) tNil))) tNil)))))) (tRet (tC (.bl false))) tNext)))))
    (tRet (tC (.bl true))))
theorem ss_law_z199 : SS T_law_z199 X_law_z199 := by
  unfold X_law_z199 T_law_z199
  exact ss_seq (ss_own (by decide) (sw_callD (swa_cons (sw_M se_var) swa_nil)))
    (ss_seq (ss_for (swi_rng (swa_cons (sw_M se_int) swa_nil)) (sg_name (by decide)) ss_X_law_z199_b2)
    (ss_fz (ss_ret (sw_M se_bl))))
end
end Fn
namespace Uv
open PySem PySem.Spec PyProof.Rows L2
section
variable {ρ : Uv.Env} {v : VE}
@[simp] theorem q_vw_hal {k : Nat} {h : HS} : (Sl.hal k h).vw = some h.pd := (rfl)
@[simp] theorem q_mk_hal {k : Nat} {h : HS} : (Sl.hal k h).mk = none := (rfl)
@[simp] theorem q_fzE_hal {k : Nat} {h : HS} {r : Uv.Env} : fzE (.hal k h :: r) 0 = .hal k h :: r := (rfl)
@[simp] theorem q_isExz {n : Nat} {ds : List PD} : isExz (exzD n ds) = some (n, ds) := (rfl)
def exK {α : Type} (d : PD) {x y : Option α} (_ : Tag x) (_ : Tag y) : Option α := match isExz d with
  | some _ => x
  | none => y
@[simp] theorem exK_exz {α : Type} {n : Nat} {es : List PD} {x y : Option α} : exK (exzD n es) (tag x) (tag y) = x := (rfl)
@[simp] theorem isExz_t {ds : List PD} : isExz (.tuple ds) = none := (rfl)
@[simp] theorem isExz_n : isExz .none = none := (rfl)
@[simp] theorem isExz_i {i : Int} : isExz (.int i) = none := (rfl)
@[simp] theorem isExz_b {b : Bool} : isExz (.bool b) = none := (rfl)
@[simp] theorem isExz_s {x : Str} : isExz (.str x) = none := (rfl)
@[simp] theorem isExz_l {ds : List PD} : isExz (.list ds) = none := (rfl)
@[simp] theorem isExz_h {h : HS} : isExz h.pd = none := (rfl)
@[simp] theorem exK_t {α : Type} {ds : List PD} {x y : Option α} : exK (.tuple ds) (tag x) (tag y) = y := (rfl)
@[simp] theorem exK_n {α : Type} {x y : Option α} : exK .none (tag x) (tag y) = y := (rfl)
@[simp] theorem exK_i {α : Type} {i : Int} {x y : Option α} : exK (.int i) (tag x) (tag y) = y := (rfl)
@[simp] theorem exK_b {α : Type} {i : Bool} {x y : Option α} : exK (.bool i) (tag x) (tag y) = y := (rfl)
@[simp] theorem exK_s {α : Type} {i : Str} {x y : Option α} : exK (.str i) (tag x) (tag y) = y := (rfl)
@[simp] theorem q_wZM {x : XE} : wZM x ρ = (x (mk ρ)).bind fun d => some (d, ρ) := (rfl)
@[simp] theorem q_sRetZ {x : XWZ} : sRetZ x ρ = (x ρ).bind fun y => some (.ret y.1 y.2) := (rfl)
@[simp] theorem q_sAsgZ {i : Nat} {x : XWZ} : sAsgZ i x ρ = (x ρ).bind fun y => exK y.1 (tag (some (.ret y.1 y.2))) (tag (some (.nxt (y.2.set i (.dat y.1))))) := by
  unfold sAsgZ exK
  congr 1
  funext y
  cases isExz y.1 <;> rfl
@[simp] theorem q_sRz {n : Nat} {as : XA} : sRz n as ρ = (as (mk ρ)).bind fun ds => some (.ret (exzD n ds) ρ) := (rfl)
@[simp] theorem q_sNoZ {x : XS} : sNoZ x ρ = (x ρ).bind noXz := (rfl)
@[simp] theorem q_noXz {ρ : Uv.Env} : noXz (.nxt ρ) = some (.nxt ρ) := (rfl)
@[simp] theorem q_isNone_h {n : Nat} {es : List PD} : isNone (heldD n es) = false := (rfl)
@[simp] theorem q_toSl_h {h : HS} : toSl (.hal h) = .hal 1000 h := (rfl)
end
end Uv

namespace Fn
open PySem PySem.Spec PyProof.Rows L2 Uv
def DkE (b : Nat) (cs : List Cel) : Prop := ∃ (cells : List Int) (p q n : Int), cs = [.dat (.list (cells.map PyData.int)), .dat (.int p), .dat (.int q), .dat (.int n)] ∧ cells.length ≤ 63 ∧ 0 ≤ p ∧ 0 ≤ n ∧ n ≤ b
theorem DkE.mono {b c : Nat} {cs : List Cel} (h : DkE b cs) (hb : b ≤ c) : DkE c cs := by
  obtain ⟨cells, p, q, n, e, h1, h4, h2, h3⟩ := h
  exact ⟨cells, p, q, n, e, h1, h4, h2, by omega⟩
theorem in64_e1 : In64 1000003 := ⟨by decide, by decide⟩
theorem in64_e2 : In64 48271 := ⟨by decide, by decide⟩
theorem e_mixed {c t : Int} (h0 : 0 ≤ t) (h1 : t ≤ 2 ^ 41) : ∃ x : Int, F__law_mixed_b [.int c, .int t] = some (.int x) := by
  have base : In63 (c % 2147483629 + t * 1000003 + 17) := ⟨by omega, by omega⟩
  have h : wp (F__law_mixed_b [.int c, .int t]) (tag fun d => ∃ x : Int, d = .int x) := by
    unfold F__law_mixed_b
    refine wp_runP rfl ?_
    unfold X__law_mixed_b
    simp -implicitDefEqProofs [base, in64_e1]
  obtain ⟨d, e, x, rfl⟩ := h
  exact ⟨x, e⟩
theorem ne_nilN {l : List Nat} : neP (.list (l.map natD)) (.list []) = some (.bool (!l.isEmpty)) := by
  have e : l.map natD = (l.map fun (n : Nat) => (n : Int)).map PyData.int := by rw [List.map_map]; rfl
  unfold neP
  rw [if_pos ⟨by rw [e]; exact PySem.W.shaped_ints _, rfl⟩]
  cases l <;> rfl
theorem ne_nilI {l : List Int} : neP (.list (l.map PyData.int)) (.list []) = some (.bool (!l.isEmpty)) := by
  unfold neP
  rw [if_pos ⟨PySem.W.shaped_ints _, rfl⟩]
  cases l <;> rfl
theorem e_next {b : Nat} {cs : List Cel} {m : Int} {Q : PD × List Cel → Prop} (h : DkE b cs) (hb : b ≤ 2 ^ 40) (hm : 0 < m) (hm2 : m < 2 ^ 64) (hq : ∀ (r : Nat) cs', (r : Int) < m → DkE (b + 1) cs' → Q (natD r, cs')) : wp (F__law_next_c cs [.int m]) (tag Q) := by
  obtain ⟨cells, p, q, n, rfl, hl, hp0, h0, hn⟩ := h
  have fin : ∀ (x q' p' : Int), 0 ≤ p' → Q (.int (x % m), [.dat (.list (cells.map PyData.int)), .dat (.int p'), .dat (.int q'), .dat (.int (n + 1))]) := fun x q' p' hp' => by
    obtain ⟨j, hj, ej⟩ := emod_nat (a := x) hm
    rw [ej]
    exact hq j _ hj ⟨cells, p', q', n + 1, rfl, hl, hp', by omega, by omega⟩
  have mix : ∀ c : Int, ∃ x : Int, F__law_mixed_b [.int c, .int (n + 1)] = some (.int x) := fun c => e_mixed (by omega) (by omega)
  have dv : Dvr m := ⟨hm, hm2⟩
  obtain ⟨R, hR⟩ : ∃ R : XS, R = (sSeq (sIf (wVT (xB (xOp gtU (xOp ixP (xVar 0) (xC (.int 2))) (xC (.int 0))))) (sSeq (sAsg (gName' 3) (wV (xOp modP (xOp ixP (xVar 0) (xC (.int 2))) (xVar 1))))
    (sSeq (sSet 0 (xC (.int 2)) (wV (xOp divP (xOp ixP (xVar 0) (xC (.int 2))) (xVar 1))))
    (sRet (wM (xVar 3))))) sNext)
    (sSeq (sAsg (gName' 4) (wV (xOp mulU (xOp ixP (xVar 0) (xC (.int 3))) (xC (.int 48271)))))
    (sSeq (sIf (wVT (xB (xOp neP (xOp ixP (xVar 0) (xC (.int 0))) (xLst xNil)))) (sAsg (gName' 4) (wV (xOp addP (xVar 4) (xOp ixP (xOp ixP (xVar 0) (xC (.int 0))) (xOp modP (xOp mulU (xOp ixP (xVar 0) (xC (.int 3))) (xC (.int 7))) (xCB (on1 lenP) (xCons (xOp ixP (xVar 0) (xC (.int 0))) xNil))))))) sNext)
    (sRet (wV (xOp modP (xCB F__law_mixed_b (xCons (xVar 4) (xCons (xOp ixP (xVar 0) (xC (.int 3))) xNil))) (xVar 1))))))) := ⟨_, rfl⟩
  have rest : ∀ (p' q' : Int) (z2 z3 z4 : Sl), 0 ≤ p' → wp (R [.own [.dat (.list (cells.map PyData.int)), .dat (.int p'), .dat (.int q'), .dat (.int (n + 1))], .dat (.int m), z2, z3, z4]) (tag (endW (tag Q))) := by
    intro p' q' z2 z3 z4 hp'
    rw [hR]
    simp -implicitDefEqProofs
    refine wp_altd (fun c => ?_) (fun c => ?_)
    · simp -implicitDefEqProofs [hm, dv]
      exact fin _ _ _ (by omega)
    · simp -implicitDefEqProofs [in64_e2, ne_nilI]
      refine wp_alt (fun c2 => ?_) (fun c2 => ?_)
      · have c2 : 0 < cells.length := List.length_pos_iff.mpr (by simpa using c2)
        obtain ⟨j, hj, ej⟩ := emod_nat (a := (n + 1) * 7) (show (0 : Int) < (cells.length : Int) by omega)
        have hj : j < cells.length := by omega
        obtain ⟨x, ex⟩ := mix ((n + 1) * 48271 + cells[j])
        simp -implicitDefEqProofs [c2, ej, atI_map hj, ex, hm]
        exact fin _ _ _ (by omega)
      · obtain ⟨x, ex⟩ := mix ((n + 1) * 48271)
        simp -implicitDefEqProofs [ex, hm]
        exact fin _ _ _ (by omega)
  unfold F__law_next_c
  refine wp_runW rfl ?_
  unfold X__law_next_c
  rw [← hR]
  clear hR
  simp -implicitDefEqProofs
  refine wp_alt (fun c => ?_) (fun c => ?_)
  · obtain ⟨c, hp⟩ : q = 0 ∧ p < cells.length := by simpa using c
    have hp : p.toNat < cells.length := by omega
    simp -implicitDefEqProofs [atI_int hp0 hp]
    refine wp_altd (fun c3 => ?_) (fun c3 => ?_)
    · obtain ⟨x, ex⟩ := mix (cells[p.toNat])
      simp -implicitDefEqProofs [ex, hm]
      exact fin _ _ _ (by omega)
    · simp -implicitDefEqProofs
      exact rest _ _ _ _ _ (by omega)
  · simp -implicitDefEqProofs
    exact rest _ _ _ _ _ (by omega)
theorem e_one {α : Type} {enc : α → PD} {l : List α} {b : Nat} {cs : List Cel} {Q : PD × List Cel → Prop} (h : DkE b cs) (hb : b ≤ 2 ^ 40) (h0 : l ≠ []) (h1 : l.length ≤ 1000000) (hq : ∀ x ∈ l, ∀ cs', DkE (b + 1) cs' → Q (enc x, cs')) : wp (F__law_one_b cs [.list (l.map enc)]) (tag Q) := by
  have : 0 < l.length := List.length_pos_iff.mpr h0
  unfold F__law_one_b
  refine wp_runW rfl ?_
  unfold X__law_one_b
  simp -implicitDefEqProofs
  refine e_next h hb (by omega) (by omega) fun r cs' hr d => ?_
  have hr : r < l.length := by omega
  simp -implicitDefEqProofs [atI_map hr]
  exact hq _ (List.getElem_mem hr) _ d
theorem e_order {b : Nat} {cs : List Cel} {ns : List Nat} {Q : PD × List Cel → Prop} (h : DkE b cs) (hb : b + ns.length ≤ 2 ^ 40) (hl : ns.length ≤ 1000) (hq : ∀ (es : List Nat) cs', es.Perm ns → DkE (b + ns.length) cs' → Q (natsD es, cs')) : wp (F__law_order_d cs [.list (ns.map natD)]) (tag Q) := by
  unfold F__law_order_d
  refine wp_runW rfl ?_
  unfold X__law_order_d
  simp -implicitDefEqProofs
  refine wp_while (fun k ρ => ∃ (cs : List Cel) (left found : List Nat), ρ = [.own cs, .dat (.list (ns.map natD)), .own (dats (left.map natD)), .own (dats (found.map natD))] ∧ left.length = k ∧ (found ++ left).Perm ns ∧ DkE (b + (ns.length - k)) cs) (@fuel_lt kk0 _ (show ns.length < 100000 by omega)) ⟨cs, ns, [], rfl, rfl, .refl _, by simpa using h⟩ ?_
  rintro k ρ ⟨cs, left, found, rfl, e2, p, d⟩
  have ll := p.length_eq
  rw [List.length_append] at ll
  simp -implicitDefEqProofs [ne_nilN]
  refine ⟨fun z => ?_, fun z => ?_⟩
  · subst z
    exact hq _ _ (by simpa using p) (by simpa [← e2] using d)
  · have : left.length ≠ 0 := fun z' => z (List.length_eq_zero_iff.mp z')
    unfold X__law_order_d_b1
    simp -implicitDefEqProofs
    refine e_next d (by omega) (by omega) (by omega) fun r cs' hr d' => ?_
    have hr : r < left.length := by omega
    simp -implicitDefEqProofs [ixN_nat' hr, datAt_map hr, erase_map]
    refine ⟨in63e_nat (by omega), by omega, ⟨k - 1, by omega, cs', left.eraseIdx r, found ++ [left[r]], by simp, ?_, ?_, d'.mono (by omega)⟩⟩
    · rw [List.length_eraseIdx, if_pos hr]; omega
    · rw [List.append_assoc]
      exact (List.Perm.append_left found (erase_perm hr)).trans p
end Fn

namespace Uv
open PySem PySem.Spec PyProof.Rows L2
@[simp] theorem q_toInt_b {b : Bool} : toIntP (.bool b) = some (.int (if b = true then 1 else 0)) := by cases b <;> rfl
@[simp] theorem q_toInt_i {i : Int} : toIntP (.int i) = some (.int i) := (rfl)
theorem wp_cut1 {A R : XS} {ρ : Env} {Q : Out → Prop} (P : XS → Prop) (hR : P R) (h : ∀ R, P R → wp (sSeq A R ρ) (tag Q)) : wp (sSeq A R ρ) (tag Q) := h R hR
theorem wp_cut2 {A B R : XS} {ρ : Env} {Q : Out → Prop} (P : XS → Prop) (hR : P R) (h : ∀ R, P R → wp (sSeq A (sSeq B R) ρ) (tag Q)) : wp (sSeq A (sSeq B R) ρ) (tag Q) := h R hR
theorem wp_cut3 {A B C R : XS} {ρ : Env} {Q : Out → Prop} (P : XS → Prop) (hR : P R) (h : ∀ R, P R → wp (sSeq A (sSeq B (sSeq C R)) ρ) (tag Q)) : wp (sSeq A (sSeq B (sSeq C R)) ρ) (tag Q) := h R hR
theorem mkWeb {rs : List Road} {gs ts : List (List Nat)} {m : Nat} (m1 : 1 ≤ m) (m8 : m ≤ 8) (r1 : 1 ≤ rs.length) (r20 : rs.length ≤ 20) (hr : ∀ x ∈ rs, OkRoad m x) (hg : gs.length = m) (ht : ts.length = m) (pg : ∀ (h : Nat) (l : List Nat), gs[h]? = some l → l.Perm (atR rs 0 h)) (pt : ∀ (h : Nat) (l : List Nat), ts[h]? = some l → l.Perm (atR rs 1 h)) : IsWeb ⟨rs, gs, ts⟩ :=
  ⟨⟨by show 1 ≤ gs.length; omega, by show gs.length ≤ 8; omega⟩, by show ts.length = gs.length; omega, ⟨r1, r20⟩, fun x hx => by show OkRoad gs.length x; rw [hg]; exact hr x hx, pg, pt⟩
def isAt (rs : List Road) (s h k : Nat) : Bool := match rs[k]? with
  | some x => side s x == some h
  | none => false
theorem filter_atR {rs : List Road} {s h : Nat} : (List.range rs.length).filter (isAt rs s h) = atR rs s h := by
  have e : List.range rs.length = rs.zipIdx.map (·.2) := by
    rw [show (fun (p : Road × Nat) => p.2) = Prod.snd from rfl, List.zipIdx_map_snd, List.range_eq_range']
  unfold atR
  rw [e, List.filter_map]
  congr 1
  apply List.filter_congr
  rintro ⟨x, k⟩ hx
  have hx := List.mem_zipIdx' hx
  obtain ⟨h1, h2⟩ := hx
  have h2 : x = rs[k] := h2
  show isAt rs s h k = _
  unfold isAt
  rw [List.getElem?_eq_getElem h1, ← h2]
theorem mem_atR {rs : List Road} {s h k : Nat} : k ∈ atR rs s h ↔ ∃ x, rs[k]? = some x ∧ side s x = some h := by
  rw [← filter_atR, List.mem_filter]
  unfold isAt
  constructor
  · rintro ⟨h1, h2⟩
    have h1 : k < rs.length := List.mem_range.mp h1
    rw [List.getElem?_eq_getElem h1] at h2
    exact ⟨_, List.getElem?_eq_getElem h1, by simpa using h2⟩
  · rintro ⟨x, h1, h2⟩
    rw [h1]
    exact ⟨List.mem_range.mpr (List.getElem?_eq_some_iff.mp h1).1, by simpa using h2⟩
theorem atR_len {rs : List Road} {s h : Nat} : (atR rs s h).length ≤ rs.length := by
  unfold atR
  rw [List.length_map]
  exact Nat.le_trans (List.length_filter_le ..) (by simp)
def spots (n : Nat) : List (Option Nat) := none :: (List.range n).map some
theorem spots_eq {n : Nat} : PyData.none :: (List.range n).map natD = (spots n).map endD := by
  unfold spots
  rw [List.map_cons, List.map_map]
  rfl
theorem spots_len {n : Nat} : (spots n).length = n + 1 := by simp [spots]
theorem spots_nodup {n : Nat} : (spots n).Nodup := by
  unfold spots
  rw [List.nodup_cons]
  refine ⟨by simp, ?_⟩
  rw [List.nodup_iff_pairwise_ne, List.pairwise_map]
  exact (List.nodup_range).imp fun h e => h (Option.some.inj e)
theorem spots_mem {n : Nat} {x : Option Nat} (h : x ∈ spots n) : ∀ k, x = some k → k < n := by
  rintro k rfl
  simpa [spots] using h
theorem erase_mem {α : Type} {l : List α} {r : Nat} {x : α} (h : x ∈ l.eraseIdx r) : x ∈ l := List.mem_of_mem_eraseIdx h
theorem erase_ne {α : Type} {l : List α} (nd : l.Nodup) {r : Nat} (hr : r < l.length) {x : α} (h : x ∈ l.eraseIdx r) : l[r] ≠ x := by
  rintro rfl
  have p := (erase_perm hr).nodup_iff.mpr nd
  exact (List.nodup_cons.mp p).1 h
theorem ord_snoc {rs : List Road} {s : Nat} {gs : List (List Nat)} {l : List Nat} (hg : ∀ (h : Nat) (l : List Nat), gs[h]? = some l → l.Perm (atR rs s h)) (hl : l.Perm (atR rs s gs.length)) : ∀ (h : Nat) (l' : List Nat), (gs ++ [l])[h]? = some l' → l'.Perm (atR rs s h) := by
  intro h l' e
  by_cases c : h < gs.length
  · rw [List.getElem?_append_left c] at e
    exact hg h l' e
  · rw [List.getElem?_append_right (by omega)] at e
    have : h - gs.length = 0 := by
      apply Classical.byContradiction
      intro z
      rw [List.getElem?_eq_none (by simp; omega)] at e
      exact nomatch e
    rw [this] at e
    have hh : h = gs.length := by omega
    simp at e
    subst e
    rw [hh]
    exact hl
theorem ord_map {rs : List Road} {s n : Nat} (f : Nat → List Nat) (hf : ∀ h, (f h).Perm (atR rs s h)) : ∀ (h : Nat) (l : List Nat), ((List.range n).map f)[h]? = some l → l.Perm (atR rs s h) := by
  intro h l e
  rw [List.getElem?_map] at e
  obtain ⟨k, e1, e2⟩ := Option.map_eq_some_iff.mp e
  have := (List.getElem?_eq_some_iff.mp e1).2
  rw [List.getElem_range] at this
  rw [← e2, ← this]
  exact hf h
end Uv

namespace Fn
open PySem PySem.Spec PyProof.Rows L2 Uv
theorem cat_spots {n : Nat} (h : n ≤ 1000) : catP (.list [.none]) (.list ((List.range n).map natD)) = some (.list ((spots n).map endD)) := by
  rw [q_cat, grd_pos (by simp; omega), List.singleton_append, spots_eq]
theorem lc_at {rs : List Road} {s h j : Nat} {t : XT} {v : VE} {Q : List PD → Prop} (ht : ∀ (k : Nat) (hk : k < rs.length), t (v.set j (some (natD k))) = some (side s rs[k] == some h)) (hj : ∀ k : Nat, xVar j (v.set j (some (natD k))) = some (natD k)) (hq : Q ((atR rs s h).map natD)) : wp (lcGo (gvName j) t (xVar j) v ((List.range rs.length).map natD)) (tag Q) := by
  refine wp_lc (isAt rs s h) natD (fun k hk => ?_) (by rw [filter_atR]; exact hq)
  have hk : k < rs.length := List.mem_range.mp hk
  have e : isAt rs s h k = (side s rs[k] == some h) := by unfold isAt; rw [List.getElem?_eq_getElem hk]
  rw [e]
  rw [q_gvName, wp_some, ht k hk, wp_some, hj, wp_some]
  exact ⟨rfl, fun _ => rfl⟩
theorem e_orders {b m s : Nat} {cs : List Cel} {rs : List Road} {s1 s2 s3 s4 s5 s6 s7 s8 s9 s10 s11 z : Sl} {Q : List PD × Uv.Env → Prop} (h : DkE b cs) (hb : b + 20 * m ≤ 2 ^ 40) (hm : m ≤ 8) (hr : rs.length ≤ 20) (hq : ∀ (gs : List (List Nat)) cs' z', gs.length = m → (∀ (h : Nat) (l : List Nat), gs[h]? = some l → l.Perm (atR rs s h)) → DkE (b + 20 * m) cs' → Q (gs.map natsD, [.own cs', s1, s2, s3, s4, s5, s6, s7, s8, s9, s10, s11, z'])) :
    wp (wlGo (gName' 12) (wMT xYes) (wCallK 0 F__law_order_d (wCons (wM (xVar 12)) wNil)) [12] ((List.range m).map fun h => .list ((atR rs s h).map natD)) [.own cs, s1, s2, s3, s4, s5, s6, s7, s8, s9, s10, s11, z]) (tag Q) := by
  refine wp_wl (fun i ds ρ => ∃ (gs : List (List Nat)) (cs : List Cel) (z : Sl), ds = gs.map natsD ∧ gs.length = i ∧ (∀ (h : Nat) (l : List Nat), gs[h]? = some l → l.Perm (atR rs s h)) ∧ ρ = [.own cs, s1, s2, s3, s4, s5, s6, s7, s8, s9, s10, s11, z] ∧ DkE (b + 20 * i) cs) ⟨[], cs, _, rfl, rfl, by simp, rfl, h⟩ ?_ ?_
  · rintro i hi ds ρ ⟨gs, cs, z, rfl, hl, ho, rfl, d⟩
    have hi : i < m := by simpa using hi
    have ll := atR_len (rs := rs) (s := s) (h := i)
    simp -implicitDefEqProofs
    refine e_order d (by omega) (by omega) fun es cs' pe d' => ?_
    simp -implicitDefEqProofs
    exact ⟨⟨gs ++ [es], cs', _, by simp, by simp [hl], ord_snoc ho (by rw [hl]; exact pe), rfl, d'.mono (by omega)⟩⟩
  · rintro ds ρ ⟨gs, cs, z, rfl, hl, ho, rfl, d⟩
    simp only [List.length_map, List.length_range] at hl d
    exact hq gs cs z hl ho d
theorem e_web {b : Nat} {cs : List Cel} {most many : Nat} {Q : PD × List Cel → Prop} (h : DkE b cs) (hb : b + 1000 ≤ 2 ^ 40) (m1 : 1 ≤ most) (m2 : most ≤ 8) (k1 : 1 ≤ many) (k2 : many ≤ 20) (hq : ∀ W cs', IsWeb W → W.roads.length ≤ many → W.gives.length ≤ max 2 most → (∀ x ∈ W.roads, x.r ≤ 2) → DkE (b + 1000) cs' → Q (webD W, cs')) : wp (F__law_web_f cs [natD most, natD many]) (tag Q) := by
  unfold F__law_web_f
  refine wp_runW rfl ?_
  unfold X__law_web_f
  refine wp_cut2 (fun R => ∀ (m : Nat) (rs : List Road) (cs : List Cel) (kind : Int) (z6 z7 z8 z9 z10 z11 z12 : Sl), 1 ≤ m → m ≤ max 2 most → rs.length ≤ 4 → rs.length ≤ many → (∀ x ∈ rs, OkRoad m x ∧ x.r ≤ 2) → DkE (b + 10) cs → wp (R [.own cs, .dat (natD most), .dat (natD many), .dat (.int kind), .dat (natD m), .own (dats (rs.map roadD)), z6, z7, z8, z9, z10, z11, z12]) (tag (endW (tag Q)))) ?_ ?_
  · intro m rs cs kind z6 z7 z8 z9 z10 z11 z12 m1 m2 l1 l2 ho d
    have m8 : m ≤ 8 := by omega
    refine wp_cut1 (fun R => ∀ (rs : List Road) (cs : List Cel) (z6 z7 z8 z9 z10 z11 z12 : Sl), 1 ≤ rs.length → rs.length ≤ many → (∀ x ∈ rs, OkRoad m x ∧ x.r ≤ 2) → DkE (b + 100) cs → wp (R [.own cs, .dat (natD most), .dat (natD many), .dat (.int kind), .dat (natD m), .own (dats (rs.map roadD)), z6, z7, z8, z9, z10, z11, z12]) (tag (endW (tag Q)))) ?_ ?_
    · clear l1 l2 ho d z6 z7 z8 z9 z10 z11 z12 cs rs
      intro rs cs z6 z7 z8 z9 z10 z11 z12 l1 l2 ho d
      simp -implicitDefEqProofs
      refine ⟨in62_nat (by omega), by omega, ?_⟩
      refine wp_lcT (fun h => .list ((atR rs 0 h).map natD)) (fun h hh => ?_) ?_
      · simp -implicitDefEqProofs
        refine ⟨in62_nat (by omega), by omega, ?_⟩
        refine lc_at (s := 0) (h := h) (fun k hk => ?_) (fun k => rfl) ?_
        · simp -implicitDefEqProofs [atI_map hk, eq_end, side]
        · simp -implicitDefEqProofs
      simp -implicitDefEqProofs
      refine ⟨in62_nat (by omega), by omega, ?_⟩
      refine wp_lcT (fun h => .list ((atR rs 1 h).map natD)) (fun h hh => ?_) ?_
      · simp -implicitDefEqProofs
        refine ⟨in62_nat (by omega), by omega, ?_⟩
        refine lc_at (s := 1) (h := h) (fun k hk => ?_) (fun k => rfl) ?_
        · simp -implicitDefEqProofs [atI_map hk, eq_end, side]
        · simp -implicitDefEqProofs
      simp -implicitDefEqProofs
      refine wp_altd (fun c => ?_) (fun c => ?_)
      · simp -implicitDefEqProofs
        refine ⟨by omega, ?_⟩
        refine wp_lcT (fun h => natsD (atR rs 0 h)) (fun h hh => ?_) ?_
        · simp -implicitDefEqProofs
          rfl
        simp -implicitDefEqProofs
        refine ⟨by omega, ?_⟩
        refine wp_lcT (fun h => natsD (atR rs 1 h).reverse) (fun h hh => ?_) ?_
        · simp -implicitDefEqProofs
          rw [← List.map_reverse]
          rfl
        simp -implicitDefEqProofs
        have := hq ⟨rs, (List.range m).map fun h => atR rs 0 h, (List.range m).map fun h => (atR rs 1 h).reverse⟩ cs (mkWeb (m := m) (by omega) (by omega) l1 (by omega) (fun x hx => (ho x hx).1) (by simp) (by simp) (ord_map _ fun h => .refl _) (ord_map _ fun h => List.reverse_perm _)) l2 (by simpa using m2) (fun x hx => (ho x hx).2) (d.mono (by omega))
        unfold webD at this
        rw [List.map_map, List.map_map] at this
        exact this
      · simp -implicitDefEqProofs
        refine ⟨by omega, ?_⟩
        refine e_orders d (by omega) (by omega) (by omega) fun gs cs1 z g1 pg d1 => ?_
        simp -implicitDefEqProofs
        refine ⟨by omega, ?_⟩
        refine e_orders d1 (by omega) (by omega) (by omega) fun ts cs2 z t1 pt d2 => ?_
        simp -implicitDefEqProofs
        exact hq ⟨rs, gs, ts⟩ cs2 (mkWeb (m := m) (by omega) (by omega) l1 (by omega) (fun x hx => (ho x hx).1) g1 t1 pg pt) l2 (by show gs.length ≤ _; omega) (fun x hx => (ho x hx).2) (d2.mono (by omega))
    · intro R main
      simp -implicitDefEqProofs
      refine e_next d (by omega) (by omega) (by omega) fun r cs1 a1 d1 => ?_
      simp -implicitDefEqProofs
      refine ⟨⟨by omega, by omega⟩, ?_⟩
      obtain ⟨n, en⟩ : ∃ n : Nat, (1 + (r : Int)).toNat - rs.length = n := ⟨_, rfl⟩
      rw [en]
      refine wp_forR (fun k ρ => ∃ (cs : List Cel) (rs' : List Road) (z6 z7 z8 z9 z10 z11 z12 : Sl), ρ = [.own cs, .dat (natD most), .dat (natD many), .dat (.int kind), .dat (natD m), .own (dats (rs'.map roadD)), z6, z7, z8, z9, z10, z11, z12] ∧ rs'.length = rs.length + k ∧ (∀ x ∈ rs', OkRoad m x ∧ x.r ≤ 2) ∧ DkE (b + 11 + 3 * k) cs) ⟨cs1, rs, _, _, _, _, _, _, _, rfl, rfl, ho, d1⟩ ?_ ?_
      · rintro i hi ρ ⟨cs, rs', z6, z7, z8, z9, z10, z11, z12, rfl, hl, ho', d'⟩
        unfold X__law_web_f_b1
        simp -implicitDefEqProofs [cat_spots (show m ≤ 1000 by omega)]
        refine ⟨rg_nat (by omega), ?_⟩
        refine e_next d' (by omega) (by rw [spots_len]; omega) (by rw [spots_len]; omega) fun r1 cs2 a2 d2 => ?_
        have hr1 : r1 < (spots m).length := by omega
        have sl := spots_len (n := m)
        simp -implicitDefEqProofs [ixN_nat' hr1, datAt_map hr1, erase_map]
        refine ⟨in63e_nat (by omega), ?_⟩
        have el : ((spots m).eraseIdx r1).length = m := by rw [List.length_eraseIdx, if_pos hr1]; omega
        refine e_one d2 (by omega) (fun z => by rw [z] at el; simp at el; omega) (by omega) fun y hy cs3 d3 => ?_
        simp -implicitDefEqProofs
        refine e_next d3 (by omega) (by omega) (by omega) fun r4 cs4 a4 d4 => ?_
        simp -implicitDefEqProofs
        refine wp_pick (by simp; omega) fun x hx => ?_
        obtain ⟨q, rfl, q0, q1⟩ : ∃ q : Int, x = .int q ∧ 0 ≤ q ∧ q ≤ 2 := by
          simp at hx
          rcases hx with rfl | rfl | rfl | rfl | rfl | rfl <;> exact ⟨_, rfl, by omega, by omega⟩
        simp -implicitDefEqProofs
        refine ⟨by omega, ⟨cs4, rs' ++ [⟨(spots m)[r1], y, q⟩], _, _, _, _, _, _, _, by rw [List.map_append]; rfl, by simp; omega, fun x hx => ?_, d4.mono (by omega)⟩⟩
        rcases List.mem_append.mp hx with h | h
        · exact ho' x h
        · rw [List.mem_singleton.mp h]
          exact ⟨⟨erase_ne spots_nodup hr1 hy, spots_mem (List.getElem_mem hr1), spots_mem (erase_mem hy), q0, by show q ≤ 1000000000000; omega⟩, q1⟩
      · rintro ρ ⟨cs, rs', z6, z7, z8, z9, z10, z11, z12, rfl, hl, ho', d'⟩
        simp -implicitDefEqProofs
        exact main rs' cs _ _ _ _ _ _ _ (by omega) (by omega) ho' (d'.mono (by omega))
  · intro R main
    simp -implicitDefEqProofs
    refine e_next h (by omega) (by omega) (by omega) fun kind cs1 a1 d1 => ?_
    simp -implicitDefEqProofs
    refine e_next d1 (by omega) (by omega) (by omega) fun r2 cs2 a2 d2 => ?_
    obtain ⟨m, em⟩ : ∃ m : Nat, (1 + (r2 : Int)) = (m : Int) := ⟨1 + r2, by omega⟩
    simp -implicitDefEqProofs
    rw [em]
    refine wp_alt (fun c => ?_) (fun c => ?_)
    · simp at c
      simp -implicitDefEqProofs
      refine e_next d2 (by omega) (by omega) (by omega) fun r3 cs3 a3 d3 => ?_
      simp -implicitDefEqProofs
      refine e_next d3 (by omega) (by omega) (by omega) fun r4 cs4 a4 d4 => ?_
      simp -implicitDefEqProofs
      have e2 : (if (m : Int) > 2 then (m : Int) else 2) = ((max 2 m : Nat) : Int) := by split <;> omega
      rw [e2]
      exact main (max 2 m) [⟨none, some 0, 1⟩, ⟨some 0, some 1, 1 + r3⟩, ⟨some 0, some 1, 1 + r4⟩, ⟨some 1, none, 1⟩] cs4 _ _ _ _ _ _ _ _ (by omega) (by omega) (by simp) (by simp; omega) (by simp [OkRoad]; omega) (d4.mono (by omega))
    · simp -implicitDefEqProofs
      exact main m [] cs2 _ _ _ _ _ _ _ _ (by omega) (by omega) (by simp) (by simp) (by simp) (d2.mono (by omega))
end Fn

namespace Fn
open PySem PySem.Spec PyProof.Rows L2 Uv
end Fn

namespace Fn
open PySem PySem.Spec PyProof.Rows L2 Uv
@[simp] theorem p_is_number {i : Int} : F_is_number [.int i] = some (.bool true) := by
  unfold F_is_number
  refine eq_of_wp (wp_runP rfl ?_)
  unfold X_is_number
  simp -implicitDefEqProofs
@[simp] theorem p_is_tuple_of {ds : List PD} {a b : Int} : F_is_tuple_of [.tuple ds, .int a, .int b] = some (.bool (decide (a ≤ ds.length) && decide ((ds.length : Int) ≤ b))) := by
  unfold F_is_tuple_of
  refine eq_of_wp (wp_runP rfl ?_)
  unfold X_is_tuple_of
  simp -implicitDefEqProofs
theorem q_sortP {l m : List Nat} (p : l.Perm m) (hs : m.Pairwise (· < ·)) : sortP (natsD l) = some (.list (m.map natD)) := by
  rw [q_sort, sort_perm p hs, List.map_map]
  rfl
theorem eq_natsL {l m : List Nat} : eqP (.list (l.map natD)) (.list (m.map natD)) = some (.bool (l == m)) := by
  rw [eqP_lay Lay.natsL Lay.natsL, ← eqv_nats]
  rfl
theorem p_is_order {l m : List Nat} (p : l.Perm m) (hs : m.Pairwise (· < ·)) (hl : l.length ≤ 40000) : F_is_order [natsD l, .list (m.map natD)] = some (.bool true) := by
  unfold F_is_order
  refine eq_of_wp (wp_runP rfl ?_)
  unfold X_is_order
  simp -implicitDefEqProofs
  refine ⟨hl, wp_lcT (fun _ => .bool true) (fun x hx => by simp -implicitDefEqProofs) ?_⟩
  simp -implicitDefEqProofs [q_all, q_sortP p hs, eq_natsL]
def tside (s : Nat) (x : Tie) : Nat := if s = 0 then x.g else x.t
def atT (ts : List Tie) (s k : Nat) : List Nat := (ts.zipIdx.filter fun p => tside s p.1 == k).map (·.2)
structure OkTie (g t : Nat) (x : Tie) : Prop where
  g : x.g < g
  t : x.t < t
  r0 : 0 ≤ x.r
  r1 : x.r ≤ 1000000000000000
structure OkSeat (ts : List Tie) (s k : Nat) (x : Seat) : Prop where
  m0 : 0 ≤ x.much
  m1 : x.much ≤ 1000000000000000
  p : x.order.Perm (atT ts s k)
structure IsFair (F : Fair) : Prop where
  g : 1 ≤ F.givers.length ∧ F.givers.length ≤ 28
  t : 1 ≤ F.takers.length ∧ F.takers.length ≤ 28
  n : F.ties.length ≤ 36
  tie : ∀ x ∈ F.ties, OkTie F.givers.length F.takers.length x
  give : ∀ (k : Nat) (x : Seat), F.givers[k]? = some x → OkSeat F.ties 0 k x
  take : ∀ (k : Nat) (x : Seat), F.takers[k]? = some x → OkSeat F.ties 1 k x
end Fn

namespace Fn
open PySem PySem.Spec PyProof.Rows L2 Uv
def doorP (W : Web) (s : Nat) : List (Road × Nat) := W.roads.zipIdx.filter fun p => (side s p.1).isNone
def doorsOf (W : Web) (s : Nat) : List Nat := (doorP W s).map (·.2)
def bigOf (W : Web) : Int := (W.roads.map (·.r)).sum + 1
def seatOf (W : Web) (s : Nat) (p : Road × Nat) : Nat := match side s p.1 with
  | none => W.gives.length + (doorsOf W s).idxOf p.2
  | some h => h
def roadTies (W : Web) : List Tie := W.roads.zipIdx.map fun p => ⟨seatOf W 0 p, seatOf W 1 p, p.1.r⟩
def houseTies (W : Web) : List Tie := (List.range W.gives.length).flatMap fun h => [⟨h, h, bigOf W⟩, ⟨h, h, bigOf W⟩]
def lyingOf (W : Web) (h : Nat) : Nat := W.roads.length + 2 * h
def doorSeats (W : Web) (s : Nat) : List Seat := (doorP W s).map fun p => ⟨p.1.r, [p.2]⟩
def giversOf (W : Web) : List Seat := (W.gives.zipIdx.map fun p => ⟨bigOf W, lyingOf W p.2 :: (p.1 ++ [lyingOf W p.2 + 1])⟩) ++ doorSeats W 0
def takersOf (W : Web) : List Seat := (W.takes.zipIdx.map fun p => ⟨bigOf W, (lyingOf W p.2 + 1) :: (p.1 ++ [lyingOf W p.2])⟩) ++ doorSeats W 1
def fairOf (W : Web) : Fair := ⟨roadTies W ++ houseTies W, giversOf W, takersOf W⟩
theorem give_len {W : Web} (hw : IsWeb W) {i : Nat} (hi : i < W.gives.length) : W.gives[i].length ≤ 20 := by
  rw [(hw.give i _ (List.getElem?_eq_getElem hi)).length_eq]
  unfold atR
  rw [List.length_map]
  exact Nat.le_trans (List.length_filter_le _ _) (by simpa using hw.count.2)
theorem take_len {W : Web} (hw : IsWeb W) {i : Nat} (hi : i < W.takes.length) : W.takes[i].length ≤ 20 := by
  rw [(hw.take i _ (List.getElem?_eq_getElem hi)).length_eq]
  unfold atR
  rw [List.length_map]
  exact Nat.le_trans (List.length_filter_le _ _) (by simpa using hw.count.2)
end Fn

namespace Fn
open PySem PySem.Spec PyProof.Rows L2 Uv
theorem mem_atR {rs : List Road} {s h j : Nat} : j ∈ atR rs s h ↔ ∃ x, rs[j]? = some x ∧ side s x = some h := by
  unfold atR
  constructor
  · intro h
    obtain ⟨⟨x, i⟩, h1, rfl⟩ := List.mem_map.mp h
    obtain ⟨h2, h3⟩ := List.mem_filter.mp h1
    exact ⟨x, List.mem_zipIdx_iff_getElem?.mp h2, by simpa using h3⟩
  · rintro ⟨x, h1, h2⟩
    exact List.mem_map.mpr ⟨(x, j), List.mem_filter.mpr ⟨List.mem_zipIdx_iff_getElem?.mpr h1, by simpa using h2⟩, rfl⟩
end Fn

namespace Fn
open PySem PySem.Spec PyProof.Rows L2 Uv
theorem sho_end {k : Nat} {o : Option Nat} {n : Nat} (h : ∀ j, o = some j → j < n) (hn : n ≤ 1000) : Sho k 41 (endD o) := by
  cases o with
  | none => exact Sho.non.mono (Nat.le_refl _) (by decide)
  | some j => have := h j rfl; exact Sho.nat (by omega)
theorem sho_room {k : Nat} {r : Int} (h0 : 0 ≤ r) (h1 : r ≤ 1000000000000000) : Sho k 41 (.int r) := Sho.int (by omega)
theorem sho_road {k n : Nat} {x : Road} (h : OkRoad n x) (hn : n ≤ 1000) : Sho (k + 1) 132 (roadD x) := by
  refine Sho.tup (k := k) (n := 41) (L := 3) (fun d hd => ?_) (by simp)
  simp only [List.mem_cons, List.not_mem_nil, or_false] at hd
  rcases hd with rfl | rfl | rfl
  · exact sho_end h.2.1 hn
  · exact sho_end h.2.2.1 hn
  · exact sho_room h.2.2.2.1 (by have := h.2.2.2.2; omega)
theorem sho_orders {k : Nat} {os : List (List Nat)} (h1 : os.length ≤ 8) (h2 : ∀ l ∈ os, l.length ≤ 20 ∧ ∀ j ∈ l, j < 1000) : Sho (k + 2) 6923 (.tuple (os.map natsD)) := by
  refine Sho.tup (k := k + 1) (n := 863) (L := 8) (fun d hd => ?_) (by simpa using h1)
  obtain ⟨l, hl, rfl⟩ := List.mem_map.mp hd
  exact Sho.nats (L := 20) (fun j hj => Nat.lt_trans ((h2 l hl).2 j hj) (by decide)) (h2 l hl).1
end Fn

namespace Fn
open PySem PySem.Spec PyProof.Rows L2 Uv
end Fn

namespace Calm
def sm (l : List Nat) (g : Nat → Int) : Int := (l.map g).sum
theorem sm_cons {x : Nat} {l : List Nat} {g : Nat → Int} : sm (x :: l) g = g x + sm l g := by simp [sm]
theorem sm_same {l : List Nat} {g g' : Nat → Int} (h : ∀ j ∈ l, g' j = g j) : sm l g' = sm l g := by
  unfold sm
  rw [List.map_congr_left h]
theorem sm_le {l : List Nat} {g g' : Nat → Int} (h : ∀ j ∈ l, g j ≤ g' j) : sm l g ≤ sm l g' := by
  induction l with
  | nil => exact Int.le_refl _
  | cons x xs ih =>
    have h1 := h x (List.mem_cons_self ..)
    have h2 := ih fun j hj => h j (List.mem_cons_of_mem _ hj)
    rw [sm_cons, sm_cons]
    omega
theorem sm_nn {l : List Nat} {g : Nat → Int} (h : ∀ j ∈ l, 0 ≤ g j) : 0 ≤ sm l g := by
  have := sm_le (g := fun _ => 0) h
  have e : ∀ l : List Nat, sm l (fun _ => 0) = 0 := fun l => by
    induction l with
    | nil => rfl
    | cons x xs ih => rw [sm_cons, ih]; rfl
  rw [e] at this
  exact this
theorem sm_zero {l : List Nat} {g : Nat → Int} (h : ∀ j ∈ l, 0 ≤ g j) (hs : sm l g ≤ 0) : ∀ j ∈ l, g j = 0 := by
  induction l with
  | nil => intro j hj; exact nomatch hj
  | cons x xs ih =>
    rw [sm_cons] at hs
    have h1 := h x (List.mem_cons_self ..)
    have h2 := sm_nn fun j hj => h j (List.mem_cons_of_mem _ hj)
    intro j hj
    rcases List.mem_cons.mp hj with rfl | hj
    · omega
    · exact ih (fun j hj => h j (List.mem_cons_of_mem _ hj)) (by omega) j hj
theorem sm_pos {l : List Nat} {g : Nat → Int} (h : ∀ j ∈ l, 0 ≤ g j) (hs : 0 < sm l g) : ∃ j ∈ l, 0 < g j := by
  apply Classical.byContradiction
  intro z
  have := sm_le (l := l) (g := g) (g' := fun _ => 0) fun j hj => by
    have := h j hj
    apply Classical.byContradiction
    intro z'
    exact z ⟨j, hj, by omega⟩
  have e : ∀ l : List Nat, sm l (fun _ => 0) = 0 := fun l => by
    induction l with
    | nil => rfl
    | cons x xs ih => rw [sm_cons, ih]; rfl
  rw [e] at this
  omega
structure Net where
  n : Nat
  hs : Nat
  b : Nat → Option Nat
  e : Nat → Option Nat
  r : Nat → Int
  g : Nat → List Nat
  t : Nat → List Nat
structure Net.Ok (N : Net) : Prop where
  ne : ∀ k, k < N.n → N.b k ≠ N.e k
  r0 : ∀ k, 0 ≤ N.r k
  gm : ∀ h k, k ∈ N.g h ↔ k < N.n ∧ N.b k = some h
  tm : ∀ h k, k ∈ N.t h ↔ k < N.n ∧ N.e k = some h
  gn : ∀ h, (N.g h).Nodup
  tn : ∀ h, (N.t h).Nodup
  bh : ∀ k h, k < N.n → N.b k = some h → h < N.hs
  eh : ∀ k h, k < N.n → N.e k = some h → h < N.hs
variable {N : Net}
def outs (N : Net) (D R : Nat → Int) (h : Nat) : Int := sm (N.g h) fun k => D k - R k
def ins (N : Net) (D R : Nat → Int) (h : Nat) : Int := sm (N.t h) fun k => D k - R k
def worse (N : Net) (D R : Nat → Int) (h k : Nat) : Int := sm (N.t h) fun j => if (N.t h).idxOf k < (N.t h).idxOf j then D j - R j else 0
structure St (N : Net) (D R : Nat → Int) : Prop where
  i1 : ∀ k, 0 ≤ R k ∧ R k ≤ D k ∧ D k ≤ N.r k
  i2 : ∀ k, N.b k = none → D k = N.r k
  i3 : ∀ h k j, k ∈ N.g h → j ∈ N.g h → (N.g h).idxOf k < (N.g h).idxOf j → 0 < D j → D k = N.r k
  i4 : ∀ k, N.e k = none → R k = 0
  i5 : ∀ h, outs N D R h ≤ ins N D R h
  i6 : ∀ h k, k ∈ N.t h → 0 < R k → (∀ j ∈ N.g h, D j = N.r j) ∧ worse N D R h k ≤ ins N D R h - outs N D R h
def up (D : Nat → Int) (k : Nat) : Nat → Int := fun j => if j = k then D j + 1 else D j
def left (N : Net) (D R : Nat → Int) : Int := sm (List.range N.n) fun k => 2 * N.r k - D k - R k
theorem start (ok : N.Ok) : St N (fun k => if N.b k = none then N.r k else 0) fun _ => 0 := by
  refine ⟨fun k => ?_, fun k hk => if_pos hk, fun h k j hk hj hij hD => ?_, fun _ _ => rfl, fun h => ?_, fun h k hk hR => by omega⟩
  · have := ok.r0 k
    split <;> omega
  · have : N.b j ≠ none := fun z => by rw [((ok.gm h j).mp hj).2] at z; exact nomatch z
    rw [if_neg this] at hD
    omega
  · have e : outs N (fun k => if N.b k = none then N.r k else 0) (fun _ => 0) h = sm (N.g h) fun _ => 0 := sm_same fun j hj => by
      have : N.b j ≠ none := fun z => by rw [((ok.gm h j).mp hj).2] at z; exact nomatch z
      show (if N.b j = none then N.r j else 0) - 0 = 0
      rw [if_neg this]; rfl
    have z : sm (N.g h) (fun _ => 0) ≤ sm (N.g h) (fun _ => 0) := Int.le_refl _
    have e0 : ∀ l : List Nat, sm l (fun _ => 0) = 0 := fun l => by
      induction l with
      | nil => rfl
      | cons x xs ih => rw [sm_cons, ih]; rfl
    rw [e, e0]
    exact sm_nn fun j _ => by
      have := ok.r0 j
      show 0 ≤ (if N.b j = none then N.r j else 0) - 0
      split <;> omega
structure Rests (N : Net) (f : Nat → Int) (L : Nat → Prop) : Prop where
  lo : ∀ k, 0 ≤ f k
  hi : ∀ k, f k ≤ N.r k
  even : ∀ h, sm (N.g h) f = sm (N.t h) f
  calm : ∀ k, k < N.n → f k < N.r k → (∀ h, N.b k = some h → L h ∨ ∃ j ∈ N.g h, (N.g h).idxOf k < (N.g h).idxOf j ∧ 0 < f j) → ∃ h, N.e k = some h ∧ L h ∧ ∀ j ∈ N.t h, (N.t h).idxOf k < (N.t h).idxOf j → f j = 0
end Calm

namespace Calm
theorem sm_add {l : List Nat} {g g' : Nat → Int} : sm l (fun k => g k + g' k) = sm l g + sm l g' := by
  induction l with
  | nil => rfl
  | cons x xs ih => rw [sm_cons, sm_cons, sm_cons, ih]; omega
theorem sm_sub {l : List Nat} {g g' : Nat → Int} : sm l (fun k => g k - g' k) = sm l g - sm l g' := by
  induction l with
  | nil => rfl
  | cons x xs ih => rw [sm_cons, sm_cons, sm_cons, ih]; omega
theorem sm_nul {l : List Nat} {g : Nat → Int} (h : ∀ k ∈ l, g k = 0) : sm l g = 0 := by
  induction l with
  | nil => rfl
  | cons x xs ih =>
    rw [sm_cons, h x (List.mem_cons_self ..), ih fun k hk => h k (List.mem_cons_of_mem _ hk)]; rfl
theorem sm_perm {l m : List Nat} {g : Nat → Int} (p : l.Perm m) : sm l g = sm m g := by
  induction p with
  | nil => rfl
  | cons x _ ih => rw [sm_cons, sm_cons, ih]
  | swap x y l => rw [sm_cons, sm_cons, sm_cons, sm_cons]; omega
  | trans _ _ h1 h2 => rw [h1, h2]
theorem sm_swap {l m : List Nat} {G : Nat → Nat → Int} : sm l (fun h => sm m fun k => G h k) = sm m fun k => sm l fun h => G h k := by
  induction l with
  | nil => exact (sm_nul fun _ _ => rfl).symm
  | cons x xs ih => rw [sm_cons, ih, ← sm_add]; rfl
theorem sm_single {l : List Nat} {g : Nat → Int} {a : Nat} (nd : l.Nodup) (ha : a ∈ l) (h : ∀ k ∈ l, k ≠ a → g k = 0) : sm l g = g a := by
  induction l with
  | nil => exact nomatch ha
  | cons x xs ih =>
    obtain ⟨n1, n2⟩ := List.nodup_cons.mp nd
    rw [sm_cons]
    by_cases e : x = a
    · subst e
      rw [sm_nul fun k hk => h k (List.mem_cons_of_mem _ hk) fun z => n1 (z ▸ hk)]
      omega
    · rw [h x (List.mem_cons_self ..) e, ih n2 ((List.mem_cons.mp ha).resolve_left fun z => e z.symm) fun k hk => h k (List.mem_cons_of_mem _ hk)]
      omega
theorem sm_filter {l : List Nat} {p : Nat → Bool} {g : Nat → Int} : sm (l.filter p) g = sm l fun k => if p k = true then g k else 0 := by
  induction l with
  | nil => rfl
  | cons x xs ih =>
    rw [List.filter_cons, sm_cons]
    by_cases c : p x = true
    · rw [if_pos c, if_pos c, sm_cons, ih]
    · rw [if_neg c, if_neg c, ih]; omega
variable {N : Net}
open Classical in
/-- a sum over the roads of one side, house by house -/
theorem sides {n hs : Nat} {b : Nat → Option Nat} {l : Nat → List Nat} (lm : ∀ h k, k ∈ l h ↔ k < n ∧ b k = some h) (ln : ∀ h, (l h).Nodup) (bh : ∀ k h, k < n → b k = some h → h < hs) (P : Nat → Prop) (Q : Nat → Prop) (hQ : ∀ k, Q k ↔ ∃ h, b k = some h ∧ P h) (F : Nat → Int) :
    sm (List.range n) (fun k => if Q k then F k else 0) = sm (List.range hs) (fun h => if P h then sm (l h) F else 0) := by
  have e1 : ∀ h, sm (l h) F = sm (List.range n) (fun k => if b k = some h then F k else 0) := fun h => by
    have p : (l h).Perm ((List.range n).filter fun k => decide (b k = some h)) := (List.perm_ext_iff_of_nodup (ln h) (List.nodup_range.filter _)).mpr fun k => by
      rw [lm, List.mem_filter, List.mem_range, decide_eq_true_iff]
    rw [sm_perm p, sm_filter]
    exact sm_same fun k _ => by simp
  have e2 : sm (List.range hs) (fun h => if P h then sm (l h) F else 0) = sm (List.range hs) (fun h => sm (List.range n) fun k => if P h ∧ b k = some h then F k else 0) := sm_same fun h _ => by
    by_cases c : P h
    · rw [if_pos c, e1]
      exact sm_same fun k _ => by simp [c]
    · rw [if_neg c]
      exact (sm_nul fun k _ => by simp [c]).symm
  rw [e2, sm_swap]
  apply sm_same
  intro k hk
  have hk := List.mem_range.mp hk
  cases hb : b k with
  | none =>
    rw [if_neg (by rw [hQ]; rintro ⟨h, e, _⟩; rw [hb] at e; exact nomatch e)]
    exact (sm_nul fun h _ => by simp).symm
  | some h0 =>
    rw [sm_single List.nodup_range (List.mem_range.mpr (bh k h0 hk hb)) (fun h _ hne => if_neg fun z => hne (Option.some.inj z.2).symm)]
    by_cases c : P h0
    · rw [if_pos ((hQ k).mpr ⟨h0, hb, c⟩), if_pos ⟨c, rfl⟩]
    · rw [if_neg (by rw [hQ]; rintro ⟨h, e, ph⟩; rw [hb] at e; exact c (Option.some.inj e ▸ ph)), if_neg fun z => c z.1]
def thr (N : Net) (f : Nat → Int) (h : Nat) : Int := sm (N.g h) f
def Up (N : Net) (f : Nat → Int) (S : Nat → Prop) (g : Nat → Int) (T : Nat → Prop) (h : Nat) : Prop :=
  (∃ k ∈ N.g h, g k < f k ∧ ¬ T h ∧ ∀ j ∈ N.g h, (N.g h).idxOf k < (N.g h).idxOf j → g j = 0) ∨ (S h ∧ (¬ T h ∨ thr N f h < thr N g h))
def UU (N : Net) (f : Nat → Int) (S : Nat → Prop) (g : Nat → Int) (T : Nat → Prop) (k : Nat) : Prop := ∃ h, N.b k = some h ∧ Up N f S g T h
section
variable {f g : Nat → Int} {S T : Nat → Prop}
theorem idx_inj {l : List Nat} {a b : Nat} (ha : a ∈ l) (h : l.idxOf a = l.idxOf b) : a = b := by
  have h1 := List.idxOf_lt_length_iff.mpr ha
  have e1 := List.getElem_idxOf h1
  have h2 : l.idxOf b < l.length := h ▸ h1
  have e2 := List.getElem_idxOf h2
  rw [← e1, ← e2]
  simp only [h]
end
end Calm

namespace Calm
def lx : List Int → List Int → Bool
  | [], [] => false
  | [], _ :: _ => true
  | _ :: _, [] => false
  | a :: l, b :: m => if a = b then lx l m else decide (a < b)
variable {N : Net} {f g : Nat → Int} {S T : Nat → Prop}
theorem sm_lt {l : List Nat} (h : ∀ k ∈ l, g k ≤ f k) {j : Nat} (hj : j ∈ l) (hl : g j < f j) : sm l g < sm l f := by
  apply Classical.byContradiction
  intro z
  have := sm_zero (l := l) (g := fun k => f k - g k) (fun k hk => by have := h k hk; omega) (by rw [sm_sub]; omega) j hj
  omega
open Classical in
/-- what a house goes by when it likes one of two pairs -/
noncomputable def key (N : Net) (f : Nat → Int) (S : Nat → Prop) (h : Nat) : List Int := if S h then 0 :: 0 :: (N.g h).map f else 1 :: -(sm (N.t h) f) :: (N.g h).map f
open Classical in
noncomputable def mt (N : Net) (f : Nat → Int) (S : Nat → Prop) (g : Nat → Int) (T : Nat → Prop) (k : Nat) : Int := if UU N f S g T k then f k else g k
end Calm

namespace Fr
open Calm (sm sm_cons sm_le sm_sub sm_add sm_single sm_nn sm_zero sm_pos sm_same sm_lt idx_inj)
structure Side where
  m : Nat → Int
  o : Nat → List Nat
  of : Nat → Nat
structure Mk where
  n : Nat
  r : Nat → Int
  G : Side
  P : Side
structure Side.Ok (n : Nat) (S : Side) : Prop where
  mem : ∀ t, t < n → t ∈ S.o (S.of t)
  back : ∀ h t, t ∈ S.o h → t < n ∧ S.of t = h
  nd : ∀ h, (S.o h).Nodup
structure Mk.Ok (M : Mk) : Prop where
  g : M.G.Ok M.n
  p : M.P.Ok M.n
def aft (S : Side) (t s : Nat) : Prop := s ∈ S.o (S.of t) ∧ (S.o (S.of t)).idxOf t < (S.o (S.of t)).idxOf s
def less (S : Side) (x : Nat → Int) (t : Nat) : Prop := ∃ s, aft S t s ∧ 0 < x s
def tot (S : Side) (x : Nat → Int) (h : Nat) : Int := sm (S.o h) x
def will (S : Side) (x : Nat → Int) (t : Nat) : Prop := tot S x (S.of t) < S.m (S.of t) ∨ less S x t
structure Sh (M : Mk) (x : Nat → Int) : Prop where
  lo : ∀ t, 0 ≤ x t
  hi : ∀ t, t < M.n → x t ≤ M.r t
  g : ∀ h, tot M.G x h ≤ M.G.m h
  p : ∀ h, tot M.P x h ≤ M.P.m h
def closed (M : Mk) (x : Nat → Int) (t : Nat) : Prop := x t < M.r t → ¬ will M.P x t
def I1 (M : Mk) (x : Nat → Int) : Prop := ∀ t, t < M.n → x t < M.r t → less M.G x t → ¬ will M.P x t
structure Stl (M : Mk) (x : Nat → Int) : Prop where
  sh : Sh M x
  no : ∀ t, t < M.n → x t < M.r t → will M.G x t → will M.P x t → False
def I2 (M : Mk) (x : Nat → Int) : Prop := ∀ z, Stl M z → ∀ t, t < M.n → ¬ will M.P x t → z t ≤ x t
section
variable {M : Mk} {S : Side} {n : Nat} {x y z : Nat → Int} {t s u : Nat}
end
structure Row (M : Mk) (x y : Nat → Int) (c : Int) (U D : Nat → Prop) : Prop where
  c1 : 1 ≤ c
  up : ∀ t, U t → y t = x t + c
  dn : ∀ t, D t → y t = x t - c
  st : ∀ t, ¬ U t → ¬ D t → y t = x t
  un : ∀ t, U t → t < M.n
  dl : ∀ t, D t → t < M.n
  ur : ∀ t, U t → x t + c ≤ M.r t
  dr : ∀ t, D t → c ≤ x t
  dis : ∀ t, U t → D t → False
  gu : ∀ t s, U t → U s → M.G.of t = M.G.of s → t = s
  gd : ∀ t s, D t → D s → M.G.of t = M.G.of s → t = s
  pu : ∀ t s, U t → U s → M.P.of t = M.P.of s → t = s
  pd : ∀ t s, D t → D s → M.P.of t = M.P.of s → t = s
  want : ∀ t, U t → will M.P x t ∧ ∀ s, aft M.G s t → s < M.n → closed M x s
  full : ∀ t, D t → tot M.P x (M.P.of t) = M.P.m (M.P.of t) ∧ ∀ s, aft M.P t s → x s = 0
  link : ∀ t, D t → ∃ u, U u ∧ M.P.of u = M.P.of t ∧ aft M.P u t
  ptop : ∀ u, U u → (∃ t, D t ∧ M.P.of t = M.P.of u) ∨ ((∀ t, D t → M.P.of t ≠ M.P.of u) ∧ tot M.P x (M.P.of u) + c ≤ M.P.m (M.P.of u))
  next : ∀ t, D t → (∃ u, U u ∧ M.G.of u = M.G.of t) ∨ ∀ s, s < M.n → M.G.of s = M.G.of t → closed M x s
  gtop : ∀ u, U u → (∃ t, D t ∧ M.G.of t = M.G.of u) ∨ ((∀ t, D t → M.G.of t ≠ M.G.of u) ∧ tot M.G x (M.G.of u) + c ≤ M.G.m (M.G.of u))
section
variable {M : Mk} {S : Side} {n : Nat} {x y z : Nat → Int} {t s u : Nat} {c : Int} {U D : Nat → Prop}
end
end Fr

namespace Fr
open Calm (sm sm_cons sm_le sm_sub sm_add sm_single sm_nn sm_zero sm_pos sm_same sm_lt idx_inj)
section
variable {M : Mk} {x y z : Nat → Int} {t s u : Nat} {c : Int} {U D : Nat → Prop}
structure Chn (M : Mk) (x : Nat → Int) (kt k q : Nat) (T S g : Nat → Nat) : Prop where
  k1 : k ≤ kt
  k2 : kt ≤ k + 1
  tn : ∀ j, j < kt → T j < M.n
  sn : ∀ j, j < k → S j < M.n
  gt : ∀ j, j < kt → M.G.of (T j) = g j
  gs : ∀ j, j < k → M.G.of (S j) = g (j + 1)
  room : ∀ j, j < kt → x (T j) < M.r (T j)
  want : ∀ j, j < kt → will M.P x (T j)
  best : ∀ j, j < kt → ∀ s, aft M.G s (T j) → s < M.n → closed M x s
  same : ∀ j, j < k → M.P.of (S j) = M.P.of (T j)
  full : ∀ j, j < k → tot M.P x (M.P.of (T j)) = M.P.m (M.P.of (T j))
  pos : ∀ j, j < k → 0 < x (S j)
  last : ∀ j, j < k → ∀ s, aft M.P (S j) s → x s = 0
  start : tot M.G x (g 0) < M.G.m (g 0)
  dis : ∀ i j, i < q → j < q → g i = g j → i = j
section
variable {kt k q : Nat} {T S g : Nat → Nat}
end
end
end Fr

namespace Fr
open Calm (sm sm_cons sm_le sm_sub sm_add sm_single sm_nn sm_zero sm_pos sm_same sm_lt idx_inj)
section
variable {M : Mk} {x y z : Nat → Int} {t s u : Nat} {c : Int} {U D : Nat → Prop} {k m : Nat} {T S g : Nat → Nat}
end
end Fr

namespace Fr
open Calm (sm sm_cons sm_le sm_sub sm_add sm_single sm_nn sm_zero sm_pos sm_same sm_lt idx_inj sm_swap)
open Classical in
noncomputable def cnt (l : List Nat) (p : Nat → Prop) : Nat := (l.filter fun j => decide (p j)).length
section
variable {M : Mk} {S : Side} {n : Nat} {x y z : Nat → Int} {t s u : Nat} {c : Int} {U D : Nat → Prop}
def opn (M : Mk) (x : Nat → Int) (t : Nat) : Prop := x t < M.r t ∧ will M.P x t
noncomputable def pot (M : Mk) (a b : Nat) (x : Nat → Int) : Nat :=
  cnt (List.range M.n) (opn M x) + cnt (List.range M.n) (fun t => ¬ (¬ will M.P x t ∧ x t = 0)) + cnt (List.range b) (fun h => tot M.P x h < M.P.m h) + cnt (List.range a) (fun h => tot M.G x h < M.G.m h ∧ ∃ t, t < M.n ∧ M.G.of t = h ∧ opn M x t)
structure Good (M : Mk) (x : Nat → Int) : Prop where
  sh : Sh M x
  i1 : I1 M x
  i2 : I2 M x
structure Best (M : Mk) (y : Nat → Int) : Prop where
  stl : Stl M y
  i1 : I1 M y
  i2 : I2 M y
end
end Fr

namespace Uv
open PySem PySem.Spec PyProof.Rows L2
theorem cut_from {ds : List PD} {k : Nat} : cutD ds (some ((k : Int) + 1)) none = ds.drop (k + 1) := by
  unfold cutD
  rw [show (some ((k : Int) + 1)) = some (((k + 1 : Nat)) : Int) by simp, HT.sIx_nat, HT.sIx_none]
  by_cases c : k + 1 ≤ ds.length
  · rw [Nat.min_eq_left c, List.take_of_length_le (by simp)]
  · rw [Nat.min_eq_right (by omega), List.drop_eq_nil_of_le (Nat.le_refl _), List.drop_eq_nil_of_le (by omega)]
    simp
def rd (W : Web) (k : Nat) : Road := W.roads.getD k ⟨none, none, 0⟩
def giv (W : Web) (h : Nat) : List Nat := W.gives.getD h []
def tak (W : Web) (h : Nat) : List Nat := W.takes.getD h []
def at0 (f : List Int) (k : Nat) : Int := f.getD k 0
def lessB (f : List Int) (o : List Nat) (k : Nat) : Bool := (o.drop (o.idxOf k + 1)).any fun j => decide (0 < at0 f j)
def pushB (W : Web) (f : List Int) (lot : List Nat) (k : Nat) : Bool := match (rd W k).b with
  | none => true
  | some h => lot.contains h || lessB f (giv W h) k
def pullB (W : Web) (f : List Int) (lot : List Nat) (k : Nat) : Bool := match (rd W k).e with
  | none => true
  | some h => !lot.contains h || lessB f (tak W h) k
def openB (W : Web) (f : List Int) (k : Nat) : Bool := decide (at0 f k < (rd W k).r)
def calmB (W : Web) (f : List Int) (lot : List Nat) : Bool := (List.range W.roads.length).all fun k => !(openB W f k && pushB W f lot k && pullB W f lot k)
structure Bears (W : Web) (f : List Int) : Prop where
  len : f.length = W.roads.length
  nn : ∀ x ∈ f, 0 ≤ x
structure IsLot (n : Nat) (l : List Nat) : Prop where
  up : l.Pairwise (· < ·)
  lt : ∀ x ∈ l, x < n
theorem rd_eq {W : Web} {k : Nat} (h : k < W.roads.length) : rd W k = W.roads[k] := by simp [rd, h]
theorem giv_eq {W : Web} {k : Nat} (h : k < W.gives.length) : giv W k = W.gives[k] := by simp [giv, h]
theorem tak_eq {W : Web} {k : Nat} (h : k < W.takes.length) : tak W k = W.takes[k] := by simp [tak, h]
theorem atI_road {W : Web} {k : Nat} (h : k < W.roads.length) : atI (W.roads.map roadD) (k : Int) = some (roadD (rd W k)) := by rw [atI_map h, rd_eq h]
section
variable {W : Web} {f : List Int}
theorem IsWeb.rd (hw : IsWeb W) {k : Nat} (h : k < W.roads.length) : OkRoad W.gives.length (rd W k) := by rw [rd_eq h]; exact hw.road _ (List.getElem_mem h)
theorem IsWeb.giv (hw : IsWeb W) {h : Nat} (hh : h < W.gives.length) : (giv W h).Perm (atR W.roads 0 h) := by rw [giv_eq hh]; exact hw.give h _ (List.getElem?_eq_getElem hh)
theorem IsWeb.tak (hw : IsWeb W) {h : Nat} (hh : h < W.gives.length) : (tak W h).Perm (atR W.roads 1 h) := by
  have hh' : h < W.takes.length := by rw [hw.same]; exact hh
  rw [tak_eq hh']; exact hw.take h _ (List.getElem?_eq_getElem hh')
theorem IsWeb.mem_giv (hw : IsWeb W) {h k : Nat} (hh : h < W.gives.length) : k ∈ Uv.giv W h ↔ k < W.roads.length ∧ (Uv.rd W k).b = some h := by
  rw [(hw.giv hh).mem_iff, Uv.mem_atR]
  constructor
  · rintro ⟨x, h1, h2⟩
    obtain ⟨h3, h4⟩ := List.getElem?_eq_some_iff.mp h1
    exact ⟨h3, by rw [rd_eq h3, h4]; exact h2⟩
  · rintro ⟨h1, h2⟩
    exact ⟨_, List.getElem?_eq_getElem h1, by rw [← rd_eq h1]; exact h2⟩
theorem IsWeb.mem_tak (hw : IsWeb W) {h k : Nat} (hh : h < W.gives.length) : k ∈ Uv.tak W h ↔ k < W.roads.length ∧ (Uv.rd W k).e = some h := by
  rw [(hw.tak hh).mem_iff, Uv.mem_atR]
  constructor
  · rintro ⟨x, h1, h2⟩
    obtain ⟨h3, h4⟩ := List.getElem?_eq_some_iff.mp h1
    exact ⟨h3, by rw [rd_eq h3, h4]; exact h2⟩
  · rintro ⟨h1, h2⟩
    exact ⟨_, List.getElem?_eq_getElem h1, by rw [← rd_eq h1]; exact h2⟩
theorem nodup_atR {rs : List Road} {s h : Nat} : (atR rs s h).Nodup := (atR_sorted rs s h).imp fun h => by omega
theorem IsWeb.nd_giv (hw : IsWeb W) {h : Nat} (hh : h < W.gives.length) : (Uv.giv W h).Nodup := (hw.giv hh).nodup_iff.mpr nodup_atR
theorem IsWeb.nd_tak (hw : IsWeb W) {h : Nat} (hh : h < W.gives.length) : (Uv.tak W h).Nodup := (hw.tak hh).nodup_iff.mpr nodup_atR
end
end Uv

namespace Fn
open PySem PySem.Spec PyProof.Rows L2 Uv
section
variable {W : Web} {f : List Int} {lot : List Nat}
end
end Fn

namespace Fn
open PySem PySem.Spec PyProof.Rows L2 Uv
def tiF (F : Fair) (t : Nat) : Tie := F.ties.getD t ⟨0, 0, 0⟩
def gvF (F : Fair) (h : Nat) : Seat := F.givers.getD h ⟨0, []⟩
def tkF (F : Fair) (h : Nat) : Seat := F.takers.getD h ⟨0, []⟩
def mkF (F : Fair) : Fr.Mk := ⟨F.ties.length, fun t => (tiF F t).r, ⟨fun h => (gvF F h).much, fun h => (gvF F h).order, fun t => (tiF F t).g⟩, ⟨fun h => (tkF F h).much, fun h => (tkF F h).order, fun t => (tiF F t).t⟩⟩
section
variable {F : Fair} {X : List Int} {b : Bool} {k t h : Nat}
theorem tiF_eq (hk : t < F.ties.length) : tiF F t = F.ties[t] := by simp [tiF, hk]
theorem IsFair.ti (hF : IsFair F) (ht : t < F.ties.length) : OkTie F.givers.length F.takers.length (tiF F t) := by rw [tiF_eq ht]; exact hF.tie _ (List.getElem_mem ht)
theorem r_0 (hF : IsFair F) : 0 ≤ (tiF F t).r := by
  by_cases c : t < F.ties.length
  · exact (hF.ti c).r0
  · simp [tiF, c]
def spaS (s : Seat) (X : List Int) : Int := s.much - Calm.sm s.order (at0 X)
def willB (s : Seat) (X : List Int) (t : Nat) : Bool := decide (0 < spaS s X) || lessB X s.order t
structure Shr (F : Fair) (X : List Int) : Prop where
  len : X.length = F.ties.length
  nn : ∀ j, 0 ≤ at0 X j
def openL (F : Fair) (X : List Int) (t : Nat) : Bool := decide (at0 X t < (tiF F t).r) && willB (tkF F (tiF F t).t) X t
def wantL (F : Fair) (X : List Int) (h : Nat) : Option Nat := (gvF F h).order.find? (openL F X)
end
end Fn

namespace Uv
open PySem PySem.Spec PyProof.Rows L2
variable {ρ : Env}
end Uv
namespace Fn
open PySem PySem.Spec PyProof.Rows L2 Uv
section
variable {F : Fair} {X : List Int} {b : Bool} {k t h : Nat}
def leastL (s : Seat) (X : List Int) : Option Nat := (s.order.filter fun j => decide (0 < at0 X j)).getLast?
structure WkF (F : Fair) (X : List Int) (g0 : Nat) (ps : List (Nat × Nat)) (gl : List Nat) (c : Nat) : Prop where
  len : gl.length = ps.length
  one : ∀ (j : Nat) (hj : j < ps.length), wantL F X (gl.getD j 0) = some ps[j].1
  two : ∀ (j : Nat) (hj : j < ps.length), ¬ 0 < spaS (tkF F (tiF F ps[j].1).t) X
  three : ∀ (j : Nat) (hj : j < ps.length), leastL (tkF F (tiF F ps[j].1).t) X = some ps[j].2
  four : ∀ (j : Nat) (hj : j < ps.length), (tiF F ps[j].2).g = (gl ++ [c]).getD (j + 1) 0
  nd : gl.Nodup
  lt : ∀ h ∈ gl ++ [c], h < F.givers.length
  st : (gl ++ [c]).getD 0 0 = g0
end
end Fn

namespace Fn
open PySem PySem.Spec PyProof.Rows L2 Uv
section
variable {F : Fair} {X : List Int} {b : Bool} {k t h : Nat}
end
end Fn

namespace Fn
open PySem PySem.Spec PyProof.Rows L2 Uv
def addRF : List Int → List Nat → Int → List Int
  | X, [], _ => X
  | X, t :: R, c => addRF (X.set t (at0 X t + c)) R (-c)
def dl : List Nat → Int → Nat → Int
  | [], _, _ => 0
  | t :: R, c, u => (if t = u then c else 0) + dl R (-c) u
section
variable {F : Fair} {X : List Int} {b : Bool} {k t h : Nat} {R : List Nat} {c : Int}
end
end Fn

namespace Fn
open PySem PySem.Spec PyProof.Rows L2 Uv
section
variable {F : Fair} {X : List Int} {b : Bool} {k t h c0 : Nat} {R : List Nat} {c : Int} {ps : List (Nat × Nat)} {gl : List Nat}
structure RowQ (F : Fair) (X : List Int) (R : List Nat) (c : Int) : Prop where
  ne : R ≠ []
  lt : ∀ t ∈ R, t < F.ties.length
  len : R.length ≤ 60
  lenG : R.length ≤ 2 * F.givers.length + 1
  c1 : 1 ≤ c
  c2 : c ≤ 1000000000000000
  sh : Shr F (addRF X R c)
  good : Fr.Good (mkF F) (at0 (addRF X R c))
  pot : Fr.pot (mkF F) F.givers.length F.takers.length (at0 (addRF X R c)) < Fr.pot (mkF F) F.givers.length F.takers.length (at0 X)
  div : ∀ k : Int, (∀ t, t < F.ties.length → k ∣ (tiF F t).r) → (∀ h, k ∣ (gvF F h).much) → (∀ h, k ∣ (tkF F h).much) → (∀ t, k ∣ at0 X t) → ∀ t, k ∣ at0 (addRF X R c) t
end
end Fn

namespace Fn
open PySem PySem.Spec PyProof.Rows L2 Uv
section
variable {F : Fair} {X : List Int} {b : Bool} {k t h c0 : Nat} {R : List Nat} {c : Int} {ps : List (Nat × Nat)} {gl : List Nat}
end
end Fn

namespace Fn
open PySem PySem.Spec PyProof.Rows L2 Uv
section
variable {F : Fair} {X : List Int} {b : Bool} {k t h c0 : Nat} {R : List Nat} {c : Int} {ps : List (Nat × Nat)} {gl : List Nat}
end
end Fn

namespace Fn
open PySem PySem.Spec PyProof.Rows L2 Uv
section
variable {F : Fair} {X : List Int} {b : Bool} {k t h c0 : Nat} {R : List Nat} {c : Int}
inductive Led (F : Fair) : List Int → List (List Nat × Int) → List Int → Prop
  | done {X : List Int} : (∀ h, h < F.givers.length → 0 < spaS (gvF F h) X → wantL F X h = none) → Led F X [] X
  | row {X Y : List Int} {R : List Nat} {c : Int} {rs : List (List Nat × Int)} : RowQ F X R c → Led F (addRF X R c) rs Y → Led F X ((R, c) :: rs) Y
inductive LedTo (F : Fair) : List Int → List (List Nat × Int) → List Int → Prop
  | done {X : List Int} : LedTo F X [] X
  | row {X Y : List Int} {R : List Nat} {c : Int} {rs : List (List Nat × Int)} : LedTo F X rs Y → RowQ F Y R c → LedTo F X (rs ++ [(R, c)]) (addRF Y R c)
end
end Fn

namespace Fr
open Calm (sm sm_le sm_lt)
section
variable {M : Mk} {y z : Nat → Int} {h : Nat}
end
end Fr

namespace Fr
open Calm (sm sm_cons sm_le sm_sub sm_add sm_single sm_nn sm_zero sm_pos sm_same sm_lt idx_inj sm_swap)
def flip (M : Mk) : Mk := ⟨M.n, M.r, M.P, M.G⟩
section
variable {M : Mk} {S : Side} {n a b : Nat} {x y z w : Nat → Int} {t s u h : Nat}
def TA (M : Mk) (x y : Nat → Int) (t : Nat) : Prop := t < M.n ∧ x t < y t ∧ ¬ will M.G x t
structure Two (M : Mk) (a b : Nat) (x y : Nat → Int) : Prop where
  ok : M.Ok
  ga : ∀ t, t < M.n → M.G.of t < a
  pb : ∀ t, t < M.n → M.P.of t < b
  sx : Stl M x
  sy : Stl M y
def XB (M : Mk) (x y : Nat → Int) (h : Nat) : Prop := ∃ t, TA M x y t ∧ M.G.of t = h
structure Pick (M : Mk) (x y z : Nat → Int) (sel : Nat → Prop) : Prop where
  one : ∀ t, t < M.n → sel (M.G.of t) → z t = x t
  two : ∀ t, t < M.n → ¬ sel (M.G.of t) → z t = y t
  lo : ∀ t, 0 ≤ z t
  yes : ∀ h, XB M x y h → sel h
  no : ∀ h, XB M y x h → ¬ sel h
variable {sel : Nat → Prop}
end
end Fr

namespace Fr
open Calm (sm sm_cons sm_le sm_sub sm_add sm_single sm_nn sm_zero sm_pos sm_same sm_lt idx_inj)
def Top (M : Mk) (y : Nat → Int) : Prop := Stl M y ∧ ∀ z, Stl M z → ∀ t, t < M.n → (∀ s, aft M.G s t → s < M.n → z s = y s) → z t ≤ y t
section
variable {M M1 M' : Mk} {S S' : Side} {n n' : Nat} {x y z x' : Nat → Int} {t s u h : Nat} {φ : Nat → Nat}
structure EmbS (n : Nat) (S S' : Side) (φ : Nat → Nat) : Prop where
  o : ∀ t, t < n → S'.o (S'.of (φ t)) = (S.o (S.of t)).map φ
  m : ∀ t, t < n → S'.m (S'.of (φ t)) = S.m (S.of t)
structure Emb (M M' : Mk) (φ : Nat → Nat) : Prop where
  lt : ∀ t, t < M.n → φ t < M'.n
  inj : ∀ t s, t < M.n → s < M.n → φ t = φ s → t = s
  r : ∀ t, t < M.n → M.r t = M'.r (φ t)
  g : EmbS M.n M.G M'.G φ
  p : EmbS M.n M.P M'.P φ
end
end Fr

namespace Fr
open Calm (sm sm_cons sm_le sm_sub sm_add sm_single sm_nn sm_zero sm_pos sm_same sm_lt idx_inj)
structure House (M : Mk) (g p a b : Nat) (big : Int) : Prop where
  an : a < M.n
  bn : b < M.n
  ga : M.G.of a = g
  gb : M.G.of b = g
  pa : M.P.of a = p
  pb : M.P.of b = p
  ra : M.r a = big
  rb : M.r b = big
  mg : M.G.m g = big
  mp : M.P.m p = big
  gf : ∀ t, t < M.n → M.G.of t = g → t ≠ a → aft M.G a t
  gl : ∀ t, t < M.n → M.G.of t = g → t ≠ b → aft M.G t b
  pf : ∀ t, t < M.n → M.P.of t = p → t ≠ b → aft M.P b t
  pl : ∀ t, t < M.n → M.P.of t = p → t ≠ a → aft M.P t a
section
variable {M : Mk} {x : Nat → Int} {g p a b t : Nat} {big : Int}
end
end Fr

namespace Fn
open PySem PySem.Spec PyProof.Rows L2 Uv
section
variable {W : Web} {h t : Nat}
end
end Fn

namespace Fn
open PySem PySem.Spec PyProof.Rows L2 Uv
theorem e_wide {b : Nat} {cs : List Cel} {Q : PD × List Cel → Prop} (h : DkE b cs) (hb : b + 1000 ≤ 2 ^ 40) (hq : ∀ W cs', IsWeb W → DkE (b + 1000) cs' → Q (webD W, cs')) : wp (F__law_wide_d cs []) (tag Q) := by
  unfold F__law_wide_d
  refine wp_runW rfl ?_
  unfold X__law_wide_d
  refine wp_cut3 (fun R => ∀ (m : Nat) (rs : List Road) (cs : List Cel) (z3 z4 z5 z6 z7 z8 z9 : Sl), 1 ≤ m → m ≤ 8 → 1 ≤ rs.length → rs.length ≤ 20 → (∀ x ∈ rs, OkRoad m x) → DkE (b + 200) cs → wp (R [.own cs, .dat (natD m), .own (dats (rs.map roadD)), z3, z4, z5, z6, z7, z8, z9]) (tag (endW (tag Q)))) ?_ ?_
  · intro m rs cs z3 z4 z5 z6 z7 z8 z9 m1 m2 l1 l2 ho d
    simp -implicitDefEqProofs
    refine ⟨in62_nat (by omega), ?_⟩
    refine wp_forR (fun k ρ => ∃ (cs : List Cel) (gs ts : List (List Nat)) (z3 z4 z5 z6 z9 : Sl), ρ = [.own cs, .dat (natD m), .dat (.list (rs.map roadD)), z3, z4, z5, z6, .own (dats (gs.map natsD)), .own (dats (ts.map natsD)), z9] ∧ gs.length = k ∧ ts.length = k ∧ (∀ (h : Nat) (l : List Nat), gs[h]? = some l → l.Perm (atR rs 0 h)) ∧ (∀ (h : Nat) (l : List Nat), ts[h]? = some l → l.Perm (atR rs 1 h)) ∧ DkE (b + 200 + 40 * k) cs) ⟨cs, [], [], _, _, _, _, _, rfl, rfl, rfl, by simp, by simp, d⟩ ?_ ?_
    · rintro i hi ρ ⟨cs, gs, ts, z3, z4, z5, z6, z9, rfl, g1, t1, pg, pt, d⟩
      have ll := fun s => atR_len (rs := rs) (s := s) (h := i)
      unfold X__law_wide_d_b2
      simp -implicitDefEqProofs
      refine ⟨in62_nat (by omega), by omega, ?_⟩
      refine lc_at (s := 0) (h := i) (fun k hk => ?_) (fun k => rfl) ?_
      · simp -implicitDefEqProofs [atI_map hk, eq_end, side]
      simp -implicitDefEqProofs
      refine e_order d (by have := ll 0; omega) (by have := ll 0; omega) fun es cs1 pe d1 => ?_
      simp -implicitDefEqProofs
      refine ⟨by omega, in62_nat (by omega), by omega, ?_⟩
      refine lc_at (s := 1) (h := i) (fun k hk => ?_) (fun k => rfl) ?_
      · simp -implicitDefEqProofs [atI_map hk, eq_end, side]
      simp -implicitDefEqProofs
      refine e_order d1 (by have := ll 0; have := ll 1; omega) (by have := ll 1; omega) fun fs cs2 pf d2 => ?_
      simp -implicitDefEqProofs
      refine ⟨by omega, ⟨cs2, gs ++ [es], ts ++ [fs], _, _, _, _, _, by rw [List.map_append, List.map_append]; rfl, by simp [g1], by simp [t1], ord_snoc pg (by rw [g1]; exact pe), ord_snoc pt (by rw [t1]; exact pf), d2.mono (by have := ll 0; have := ll 1; omega)⟩⟩
    · rintro ρ ⟨cs, gs, ts, z3, z4, z5, z6, z9, rfl, g1, t1, pg, pt, d⟩
      simp -implicitDefEqProofs
      exact hq ⟨rs, gs, ts⟩ cs (mkWeb (m := m) (by omega) (by omega) l1 (by omega) ho g1 t1 pg pt) (d.mono (by omega))
  · intro R main
    simp -implicitDefEqProofs
    refine e_next h (by omega) (by omega) (by omega) fun r1 cs1 a1 d1 => ?_
    obtain ⟨m, em⟩ : ∃ m : Nat, (1 + (r1 : Int)) = (m : Int) := ⟨1 + r1, by omega⟩
    simp -implicitDefEqProofs
    rw [em]
    refine e_next d1 (by omega) (by omega) (by omega) fun r2 cs2 a2 d2 => ?_
    obtain ⟨n, en⟩ : ∃ n : Nat, (1 + (r2 : Int)) = (n : Int) := ⟨1 + r2, by omega⟩
    simp -implicitDefEqProofs
    rw [en]
    refine ⟨in62_nat (by omega), ?_⟩
    rw [Int.toNat_natCast]
    refine wp_forR (fun k ρ => ∃ (cs : List Cel) (rs : List Road) (z3 z4 z5 z6 z7 z8 z9 : Sl), ρ = [.own cs, .dat (natD m), .own (dats (rs.map roadD)), z3, z4, z5, z6, z7, z8, z9] ∧ rs.length = k ∧ (∀ x ∈ rs, OkRoad m x) ∧ DkE (b + 2 + 5 * k) cs) ⟨cs2, [], _, _, _, _, _, _, _, rfl, rfl, by simp, d2⟩ ?_ ?_
    · rintro i hi ρ ⟨cs, rs, z3, z4, z5, z6, z7, z8, z9, rfl, hl, ho, d⟩
      unfold X__law_wide_d_b1
      simp -implicitDefEqProofs [cat_spots (show m ≤ 1000 by omega)]
      refine ⟨rg_nat (by omega), ?_⟩
      refine e_next d (by omega) (by rw [spots_len]; omega) (by rw [spots_len]; omega) fun r1 cs2 a2 d2 => ?_
      have hr1 : r1 < (spots m).length := by omega
      have sl := spots_len (n := m)
      simp -implicitDefEqProofs [ixN_nat' hr1, datAt_map hr1, erase_map]
      refine ⟨in63e_nat (by omega), ?_⟩
      have el : ((spots m).eraseIdx r1).length = m := by rw [List.length_eraseIdx, if_pos hr1]; omega
      refine e_next d2 (by omega) (by omega) (by omega) fun r3 cs3 a3 d3 => ?_
      simp -implicitDefEqProofs
      refine e_next d3 (by omega) (by omega) (by omega) fun r4 cs4 a4 d4 => ?_
      simp -implicitDefEqProofs
      refine e_next d4 (by omega) (by omega) (by omega) fun r5 cs5 a5 d5 => ?_
      simp -implicitDefEqProofs
      refine wp_pick (by simp; omega) fun x hx => ?_
      obtain ⟨q, rfl, q0, q1⟩ : ∃ q : Int, x = .int q ∧ 0 ≤ q ∧ q ≤ 1000000000000 := by
        simp at hx
        rcases hx with rfl | rfl | rfl | rfl | rfl <;> exact ⟨_, rfl, by omega, by omega⟩
      simp -implicitDefEqProofs
      refine e_one d5 (by omega) (fun z => by rw [z] at el; simp at el; omega) (by omega) fun y hy cs6 d6 => ?_
      simp -implicitDefEqProofs
      refine ⟨by omega, ⟨cs6, rs ++ [⟨(spots m)[r1], y, q⟩], _, _, _, _, _, _, _, by rw [List.map_append]; rfl, by simp; omega, fun x hx => ?_, d6.mono (by omega)⟩⟩
      rcases List.mem_append.mp hx with h | h
      · exact ho x h
      · rw [List.mem_singleton.mp h]
        exact ⟨erase_ne spots_nodup hr1 hy, spots_mem (List.getElem_mem hr1), spots_mem (erase_mem hy), q0, q1⟩
    · rintro ρ ⟨cs, rs, z3, z4, z5, z6, z7, z8, z9, rfl, hl, ho, d⟩
      simp -implicitDefEqProofs
      exact main m rs cs _ _ _ _ _ _ _ (by omega) (by omega) (by omega) (by omega) ho (d.mono (by omega))
theorem cut_63E {ns : List Int} (h : ns.length ≤ 63) : Uv.cutD (ns.map PyData.int) none (some 63) = ns.map PyData.int := by
  unfold Uv.cutD
  rw [HT.sIx_none, show (some (63 : Int)) = some ((63 : Nat) : Int) from rfl, HT.sIx_nat, List.length_map, Nat.min_eq_right h]
  exact List.take_of_length_le (by simp)
theorem e_deck {ns : List Int} {Q : List Cel → Prop} (h : ns.length ≤ 63) (hq : ∀ cs, DkE 0 cs → Q cs) : wp (F__law_deck_f [scrD (ns.map PyData.int)]) (tag Q) := by
  unfold F__law_deck_f
  refine wp_runD rfl ?_
  unfold X__law_deck_f
  have e : Uv.cutD (ns.map PyData.int) none (some 63) = ns.map PyData.int := cut_63E h
  simp -implicitDefEqProofs [e]
  refine ⟨by omega, ?_⟩
  refine wp_lcT (fun i => .int (if i < 0 then -i else i)) (fun i hi => ?_) ?_
  · simp -implicitDefEqProofs
  simp -implicitDefEqProofs
  refine hq _ ⟨ns.map fun i => if i < 0 then -i else i, 0, 0, 0, ?_, by simpa using h, by omega, by omega, by omega⟩
  simp
end Fn

namespace Fn
open PySem PySem.Spec PyProof.Rows L2 Uv
section
variable {W : Web} {f : List Int} {lot : List Nat}
end
end Fn

namespace Fn
open PySem PySem.Spec PyProof.Rows L2 Uv
section
variable {W : Web} {f : List Int} {lot : List Nat}
end
end Fn

namespace Fn
open PySem PySem.Spec PyProof.Rows L2 Uv
section
variable {W : Web} {f : List Int} {lot : List Nat}
def evenB (W : Web) (f : List Int) : Bool := (List.range W.gives.length).all fun h => decide (((giv W h).map (at0 f)).sum = ((tak W h).map (at0 f)).sum)
end
end Fn

namespace Fn
open PySem PySem.Spec PyProof.Rows L2 Uv
section
variable {W : Web} {f : List Int} {lot : List Nat}
end
end Fn

namespace Fn
open PySem PySem.Spec PyProof.Rows L2 Uv
structure Pr (W : Web) (p : List Int × List Nat) : Prop where
  be : Bears W p.1
  hi : ∀ k, at0 p.1 k ≤ (rd W k).r
  ev : evenB W p.1 = true
  ca : calmB W p.1 p.2 = true
  lo : IsLot W.gives.length p.2
section
variable {W : Web} {p q : List Int × List Nat} {h : Nat}
end
end Fn

namespace Uv
open PySem PySem.Spec PyProof.Rows L2
@[simp] theorem q_eD {c : PD} {r r' : List PD} {n b t0 b0 : Int} {m : PD} {z6 z7 : Sl} : vA (eD c r n b m t0 b0 z6 z7) r' = [some (.list [c, .int n, .list r, .int b]), some m, some c, some (.int t0), some (.list r'), some (.int b0), z6.vw, z7.vw] := (rfl)
@[simp] theorem q_ownD {c : PD} {r : List PD} {n b t0 b0 : Int} {m : PD} {z6 z7 : Sl} : ownAt (eD c r n b m t0 b0 z6 z7) 0 = some [.dat c, .dat (.int n), .sub r, .dat (.int b)] := (rfl)
end Uv
namespace Fn
open PySem PySem.Spec PyProof.Rows L2 Uv
end Fn

namespace Fn
open PySem PySem.Spec PyProof.Rows L2 Uv
end Fn

namespace Fn
open PySem PySem.Spec PyProof.Rows L2 Uv
section
variable {F : Fair} {X : List Int}
structure IsSh (F : Fair) (X : List Int) : Prop where
  len : X.length = F.ties.length
  sh : Fr.Sh (mkF F) (at0 X)
end
end Fn

namespace Fn
open PySem PySem.Spec PyProof.Rows L2 Uv
section
variable {F : Fair} {X : List Int} {b : Bool}
end
end Fn

namespace Fn
open PySem PySem.Spec PyProof.Rows L2 Uv
section
variable {F : Fair} {X : List Int} {b : Bool}
end
end Fn

namespace Fn
open PySem PySem.Spec PyProof.Rows L2 Uv
section
variable {F : Fair} {X : List Int}
end
end Fn

namespace Fn
open PySem PySem.Spec PyProof.Rows L2 Uv
section
variable {F : Fair} {X Y Z A B : List Int}
end
end Fn

namespace Fn
open PySem PySem.Spec PyProof.Rows L2 Uv
section
variable {F : Fair} {X Y Z A B : List Int}
end
end Fn

namespace Fn
open PySem PySem.Spec PyProof.Rows L2 Uv
section
variable {F : Fair} {X Y Z A B : List Int}
end
end Fn

namespace Fn
open PySem PySem.Spec PyProof.Rows L2 Uv
section
variable {W : Web} {h t k : Nat} {X : List Int} {p : List Int × List Nat}
def shrW (W : Web) (p : List Int × List Nat) : List Int := p.1 ++ (List.range W.gives.length).flatMap fun h => if p.2.contains h = true then [0, bigOf W - ((tak W h).map (at0 p.1)).sum] else [bigOf W - ((tak W h).map (at0 p.1)).sum, 0]
end
end Fn

namespace Fn
open PySem PySem.Spec PyProof.Rows L2 Uv
section
variable {W : Web} {p q : List Int × List Nat} {h : Nat}
end
end Fn

namespace Fn
open PySem PySem.Spec PyProof.Rows L2 Uv
section
variable {W : Web} {p q : List Int × List Nat} {h : Nat}
structure Sz (W : Web) (p : List Int × List Nat) : Prop where
  len : p.1.length = W.roads.length
  lo : IsLot W.gives.length p.2
def mn (a b : List Int) : List Int := if Calm.lx a b = true then a else b
end
end Fn

namespace Fn
open PySem PySem.Spec PyProof.Rows L2 Uv
section
variable {F : Fair} {X Y Z A B : List Int} {R : List Nat} {c : Int}
end
end Fn

namespace Fn
open PySem PySem.Spec PyProof.Rows L2 Uv
section
variable {F G : Fair} {X Y Z : List Int} {a b c : List Nat} {t h : Nat}
structure Ord (l : List Nat) (n : Nat) : Prop where
  p : l.Perm (List.range n)
end
end Fn

namespace Fn
open PySem PySem.Spec PyProof.Rows L2 Uv
structure CalmP (W : Web) (p : List Int × List Nat) : Prop where
  pr : Pr W p
  top : Fr.Top (mkF (fairOf W)) (at0 (shrW W p))
structure LastP (W : Web) (p : List Int × List Nat) : Prop where
  pr : Pr W p
  top : Fr.Top (Fr.flip (mkF (fairOf W))) (at0 (shrW W p))
section
variable {W : Web} {h t k : Nat} {X : List Int} {p q : List Int × List Nat}
end
end Fn

namespace Fn
open PySem PySem.Spec PyProof.Rows L2 Uv
section
variable {W : Web} {h t k : Nat} {X : List Int} {p q : List Int × List Nat}
end
end Fn

namespace Fn
open PySem PySem.Spec PyProof.Rows L2 Uv
section
variable {W : Web} {f : List Int} {lot : List Nat}
structure LeaD (W : Web) (f : List Int) (L : List Nat) : Prop where
  lot : IsLot W.gives.length L
  calm : calmB W f L = true
  low : ∀ M, calmB W f M = true → ∀ x ∈ L, x ∈ M
end
end Fn

namespace Fn
open PySem PySem.Spec PyProof.Rows L2 Uv
end Fn

namespace Fn
open PySem PySem.Spec PyProof.Rows L2 Uv
theorem eq_end {o : Option Nat} {h : Nat} : eqP (endD o) (natD h) = some (.bool (o == some h)) := by
  cases o with
  | none => rfl
  | some n => simp [endD]; exact Bool.eq_iff_iff.mpr (by simp; omega)
end Fn

namespace Fn
open PySem PySem.Spec PyProof.Rows L2 Uv
end Fn

namespace Fn
open PySem PySem.Spec PyProof.Rows L2 Uv
end Fn

namespace Fn
open PySem PySem.Spec PyProof.Rows L2 Uv
end Fn


namespace Fn
open PySem PySem.Spec PyProof.Rows L2 Uv
section
variable {W : Web} {f : List Int} {lot : List Nat}
end
end Fn

namespace Fn
open PySem PySem.Spec PyProof.Rows L2 Uv
section
variable {W : Web} {f : List Int} {lot : List Nat} {p : List Int × List Nat} {Q : PD → Prop}
end
end Fn

namespace Fn
open PySem PySem.Spec PyProof.Rows L2 Uv
section
variable {W : Web} {f : List Int} {lot : List Nat} {p q : List Int × List Nat} {Q : PD → Prop}
end
end Fn

namespace Fn
open PySem PySem.Spec PyProof.Rows L2 Uv
section
variable {W : Web} {f : List Int} {p q : List Int × List Nat}
end
end Fn

namespace Calm
variable {N : Net} {f g f0 : Nat → Int} {S T : Nat → Prop} {D R : Nat → Int}
end Calm

namespace Calm
variable {N : Net} {f g : Nat → Int} {S T : Nat → Prop} {k : Nat} {c1 c2 : Int}
section
variable (ok : N.Ok) (kn : k < N.n)
include ok kn
end
end Calm

namespace Fn
open PySem PySem.Spec PyProof.Rows L2 Uv
section
variable {W : Web} {f : List Int} {k d : Nat} {p q : List Int × List Nat}
theorem p_exchanged {ds : List PD} {k : Nat} {x : PD} (hk : k < ds.length) (hl : ds.length ≤ 1000) : F_exchanged [.tuple ds, natD k, x] = some (.tuple (ds.set k x)) := by
  refine eq_of_wp ?_
  unfold F_exchanged
  refine wp_runP rfl ?_
  unfold X_exchanged
  have c1 : Uv.cutD ds none (some (k : Int)) = ds.take k := by
    unfold Uv.cutD
    rw [HT.sIx_nat, HT.sIx_none, Nat.min_eq_left (by omega)]; simp
  have c2 : Uv.cutD ds (some ((k : Int) + 1)) none = ds.drop (k + 1) := cut_from
  have a1 : addP (.tuple (ds.take k)) (.tuple [x]) = some (.tuple (ds.take k ++ [x])) := by
    simp -implicitDefEqProofs
    simp [grd]
    omega
  have a2 : addP (.tuple (ds.take k ++ [x])) (.tuple (ds.drop (k + 1))) = some (.tuple (ds.set k x)) := by
    rw [List.set_eq_take_append_cons_drop, if_pos hk]
    simp -implicitDefEqProofs
    simp [grd]
    omega
  simp -implicitDefEqProofs [c1, c2, a1, a2]
end
end Fn

namespace Fn
open PySem PySem.Spec PyProof.Rows L2 Uv
end Fn

namespace Fn
open PySem PySem.Spec PyProof.Rows L2 Uv
theorem chr_ok (c : Char) : c.toNat < 0x110000 := by
  have := c.valid
  rcases this with h | ⟨_, h⟩
  · show c.val.toNat < _
    have h : c.val.toNat < 0xd800 := h
    omega
  · exact h
theorem reprChar_ok {q c : Nat} (hq : q < 0x110000) (hc : c < 0x110000) : ∀ d ∈ PySem.Builtin.Str.reprChar q c, d < 0x110000 := by
  have hx : ∀ w, ∀ d ∈ List.replicate (w - ((Nat.toDigits 16 c).map Char.toNat).length) 48 ++ (Nat.toDigits 16 c).map Char.toNat, d < 0x110000 := fun w d hd => by
    rcases List.mem_append.mp hd with h | h
    · rw [List.eq_of_mem_replicate h]; decide
    · obtain ⟨x, _, rfl⟩ := List.mem_map.mp h
      exact chr_ok x
  have h2 := hx 2
  have h4 := hx 4
  have h8 := hx 8
  intro d hd
  unfold PySem.Builtin.Str.reprChar at hd
  dsimp only at hd
  repeat' split at hd
  all_goals (first
    | (simp only [List.mem_cons, List.not_mem_nil, or_false] at hd; omega)
    | (rcases List.mem_append.mp hd with h | h
       · simp only [List.mem_cons, List.not_mem_nil, or_false] at h; omega
       · first | exact h2 d h | exact h4 d h | exact h8 d h))
theorem fold_ok {q : Nat} (hq : q < 0x110000) : ∀ (l : List Nat) (acc : Array Nat), (∀ c ∈ l, c < 0x110000) → (∀ c ∈ acc.toList, c < 0x110000) → ∀ c ∈ (l.foldl (fun out c => out ++ (PySem.Builtin.Str.reprChar q c).toArray) acc).toList, c < 0x110000
  | [], acc, _, h => h
  | c :: r, acc, hl, h => by
    rw [List.foldl_cons]
    refine fold_ok hq r _ (fun d hd => hl d (List.mem_cons_of_mem _ hd)) fun d hd => ?_
    rw [Array.toList_append] at hd
    rcases List.mem_append.mp hd with z | z
    · exact h d z
    · exact reprChar_ok hq (hl c (List.mem_cons_self ..)) d z
theorem quote_ok {x : Str} : PySem.reprQuote x < 0x110000 := by
  unfold PySem.reprQuote
  split <;> decide
theorem Sho.str {k : Nat} {x : Str} (h : PyData.strOk x = true) : Sho k (10 * x.length + 2) (.str x) := by
  have h1 : ∀ c ∈ x.cps.toList, c < 0x110000 := by
    unfold PyData.strOk at h
    rw [Array.all_eq_true'] at h
    intro c hc
    exact of_decide_eq_true (h c (by simpa using hc))
  refine ⟨rfl, rfl, Nat.zero_le _, ?_, ?_⟩
  · exact PySem.StrLaws.reprText_len x fun c hc => by have := h1 c hc; omega
  · show PyData.strOk (PySem.reprText x) = true
    unfold PyData.strOk PySem.reprText
    rw [Array.all_eq_true']
    intro c hc
    rw [Array.mem_push, ← Array.mem_toList_iff, ← Array.foldl_toList] at hc
    rcases hc with hc | hc
    · exact decide_eq_true (fold_ok quote_ok x.cps.toList _ h1 (fun c hc => by
        have : c ∈ [PySem.reprQuote x] := hc
        rw [List.mem_singleton.mp this]
        exact quote_ok) c hc)
    · rw [hc]; exact decide_eq_true quote_ok
end Fn

namespace Fn
open PySem PySem.Spec PyProof.Rows L2 Uv
section
variable {W : Web} {k : Nat} {x y : Road}
end
end Fn

namespace Fn
open PySem PySem.Spec PyProof.Rows L2 Uv
section
variable {W : Web} {k : Nat}
end
end Fn

namespace Fn
open PySem PySem.Spec PyProof.Rows L2 Uv
section
variable {W : Web} {k n : Nat} {o : List Nat} {r : Int}
theorem web_olen (hw : IsWeb W) : (∀ o ∈ W.gives, o.length ≤ 1000) ∧ (∀ o ∈ W.takes, o.length ≤ 1000) := by
  have hc := hw.count
  constructor
  · intro o ho
    obtain ⟨h, hl, rfl⟩ := List.getElem_of_mem ho
    have := (hw.give h _ (List.getElem?_eq_getElem hl)).length_eq
    have := atR_len (rs := W.roads) (s := 0) (h := h)
    omega
  · intro o ho
    obtain ⟨h, hl, rfl⟩ := List.getElem_of_mem ho
    have := (hw.take h _ (List.getElem?_eq_getElem hl)).length_eq
    have := atR_len (rs := W.roads) (s := 1) (h := h)
    omega
end
end Fn

namespace Fn
open PySem PySem.Spec PyProof.Rows L2 Uv
end Fn

namespace Uv
open PySem PySem.Spec PyProof.Rows L2
end Uv
namespace Fn
open PySem PySem.Spec PyProof.Rows L2 Uv
section
variable {W : Web} {R : List Nat} {f : List Int}
def begs (W : Web) (R : List Nat) : List (Option Nat) := R.map fun k => (rd W k).b
def ends (W : Web) (R : List Nat) : List (Option Nat) := R.map fun k => (rd W k).e
structure RowOk (W : Web) (R : List Nat) : Prop where
  lt : ∀ k ∈ R, k < W.roads.length
  nd : R.Nodup
  bal : (begs W R).Perm (ends W R)
def ind (R : List Nat) (c : Int) (k : Nat) : Int := if k ∈ R then c else 0
def cnt (o : Option Nat) (c : Int) (l : List (Option Nat)) : Int := (l.map fun x => if x = o then c else 0).sum
structure Chn (W : Web) (R : List Nat) (z : Option Nat) : Prop where
  ne : R ≠ []
  lt : ∀ k ∈ R, k < W.roads.length
  nd : (begs W R).Nodup
  ch : ends W R = (begs W R).tail ++ [z]
end
end Fn

namespace Fn
open PySem PySem.Spec PyProof.Rows L2 Uv
section
variable {W : Web} {R : List Nat} {f : List Int}
structure Stm (W : Web) (f : List Int) : Prop where
  be : Bears W f
  hi : ∀ k, at0 f k ≤ (rd W k).r
  ev : ∀ h, h < W.gives.length → Calm.sm (giv W h) (at0 f) = Calm.sm (tak W h) (at0 f)
end
end Fn

namespace Fn
open PySem PySem.Spec PyProof.Rows L2 Uv
section
variable {W : Web} {R : List Nat} {f : List Int}
theorem unI_ints : ∀ l : List Int, Uv.unI (l.map PyData.int) = some l
  | [] => rfl
  | x :: l => by
    show (Uv.unI (l.map PyData.int)).map _ = _
    rw [unI_ints l]
    rfl
end
end Fn

namespace Fn
open PySem PySem.Spec PyProof.Rows L2 Uv
section
variable {W : Web} {R : List Nat} {f : List Int}
structure Bun (W : Web) (R : List Nat) : Prop where
  ok : RowOk W R
  ne : R ≠ []
  inn : cnt none 1 (begs W R) = if (rd W (R.headD 0)).b = none then 1 else 0
end
end Fn

namespace Fn
open PySem PySem.Spec PyProof.Rows L2 Uv
section
variable {W : Web} {R : List Nat} {f g : List Int}
def tot (rows : List (List Nat × Int)) (k : Nat) : Int := (rows.map fun p => ind p.1 p.2 k).sum
end
end Fn

namespace Fn
open PySem PySem.Spec PyProof.Rows L2 Uv
section
variable {W : Web} {f : List Int}
variable {qs : List (List Nat × Int)}
end
end Fn

namespace Uv
variable {ρ : Env}
end Uv
namespace Fn
open PySem PySem.Spec PyProof.Rows L2 Uv
end Fn

namespace Fn
open PySem PySem.Spec PyProof.Rows L2 Uv
end Fn

namespace Fn
open PySem PySem.Spec PyProof.Rows L2 Uv
section
variable {W : Web} {f : List Int}
end
end Fn

namespace Fn
open PySem PySem.Spec PyProof.Rows L2 Uv
section
variable {W : Web} {f : List Int}
def fstB (W : Web) (f : List Int) (k : Nat) : Bool := match (rd W k).b with
  | none => true
  | some h => lessB f (giv W h) k
def lstB (W : Web) (f : List Int) (k : Nat) : Bool := match (rd W k).e with
  | none => true
  | some h => lessB f (tak W h) k
end
end Fn

namespace Fn
open PySem PySem.Spec PyProof.Rows L2 Uv
section
variable {W : Web} {f : List Int} {lot : List Nat}
structure Least (W : Web) (f : List Int) (L : List Nat) : Prop where
  lot : IsLot W.gives.length L
  calm : calmB W f L = true
  low : ∀ M, calmB W f M = true → ∀ x ∈ L, x ∈ M
structure Great (W : Web) (f : List Int) (L : List Nat) : Prop where
  lot : IsLot W.gives.length L
  calm : calmB W f L = true
  top : ∀ M, IsLot W.gives.length M → calmB W f M = true → ∀ x ∈ M, x ∈ L
end
end Fn

namespace Fn
open PySem PySem.Spec PyProof.Rows L2 Uv
section
variable {W : Web} {f : List Int} {lot : List Nat}
end
end Fn

namespace Fn
open PySem PySem.Spec PyProof.Rows L2 Uv
section
variable {W : Web} {f : List Int}
end
end Fn

namespace Uv
variable {ρ : Env}
end Uv
namespace Fn
open PySem PySem.Spec PyProof.Rows L2 Uv
section
variable {W : Web} {f : List Int}
def Pth (W : Web) (R : List Nat) : Prop := ∀ (i : Nat) (h : i + 1 < R.length), ∃ y, (rd W (R[i]'(by omega))).e = some y ∧ (rd W R[i + 1]).b = some y
structure Wlk (W : Web) (f : List Int) (R : List Nat) : Prop where
  ne : R ≠ []
  opn : ∀ k ∈ R, k < W.roads.length ∧ openB W f k = true
  nd : R.Nodup
  path : Pth W R
  fst : ∀ k, R.head? = some k → fstB W f k = true
  lst : ∀ k, R.getLast? = some k → lstB W f k = true
end
end Fn

namespace Fn
open PySem PySem.Spec PyProof.Rows L2 Uv
section
variable {W : Web} {f : List Int}
end
end Fn

namespace Fn
open PySem PySem.Spec PyProof.Rows L2 Uv
section
variable {W : Web} {f : List Int} {R : List Nat}
end
end Fn

namespace Fn
open PySem PySem.Spec PyProof.Rows L2 Uv
section
variable {W : Web} {f : List Int}
end
end Fn

namespace Fn
open PySem PySem.Spec PyProof.Rows L2 Uv
section
variable {W : Web} {f : List Int} {R : List Nat}
end
end Fn

namespace Fn
open PySem PySem.Spec PyProof.Rows L2 Uv
end Fn

namespace Fn
open PySem PySem.Spec PyProof.Rows L2 Uv
section
variable {W : Web} {f : List Int} {R : List Nat}
end
end Fn

namespace Fn
open PySem PySem.Spec PyProof.Rows L2 Uv
section
variable {W : Web} {f : List Int}
end
end Fn

namespace Fn
open PySem PySem.Spec PyProof.Rows L2 Uv
section
variable {W : Web} {f : List Int}
end
end Fn

namespace Fn
open PySem PySem.Spec PyProof.Rows L2 Uv
section
variable {W : Web} {f : List Int}
end
end Fn

namespace Fn
open PySem PySem.Spec PyProof.Rows L2 Uv
section
variable {W : Web} {f : List Int}
structure Wk (W : Web) (f : List Int) (l : List (Int × PD)) (w : List Nat) : Prop where
  ne : w ≠ []
  path : Pth W w
  fst : ∀ k, w.head? = some k → fstB W f k = true
  mid : ∀ k ∈ w.dropLast, lstB W f k = false ∧ ∃ h : Nat, (rd W k).e = some h ∧ hasD l (h : Int) = true
  nd : (w.dropLast.map fun k => (rd W k).e).Nodup
end
end Fn

namespace Fn
open PySem PySem.Spec PyProof.Rows L2 Uv
section
variable {W : Web} {f : List Int} {lot : List Nat}
end
end Fn

namespace Fn
open PySem PySem.Spec PyProof.Rows L2 Uv
section
variable {W W' : Web} {f f' : List Int}
structure Like (W : Web) (f : List Int) (W' : Web) (f' : List Int) (j j' : Nat) : Prop where
  b : (rd W' j').b = (rd W j).b
  e : (rd W' j').e = (rd W j).e
  op : openB W' f' j' = true → openB W f j = true
  fs : fstB W' f' j' = true → fstB W f j = true
  ls : lstB W' f' j' = true → lstB W f j = true
def lastO (os : List (List Nat)) (o : Option Nat) (k : Nat) : List (List Nat) := match o with
  | none => os
  | some h => os.set h ((os.getD h []).filter (fun x => !(x == k)) ++ [k])
theorem lastO_len {os : List (List Nat)} {o : Option Nat} {k : Nat} : (lastO os o k).length = os.length := by
  unfold lastO
  cases o <;> simp
theorem perm_last {o : List Nat} {k : Nat} (nd : o.Nodup) (hk : k ∈ o) : (o.filter (fun x => !(x == k)) ++ [k]).Perm o := by
  refine (List.perm_ext_iff_of_nodup ?_ nd).mpr fun x => ?_
  · refine List.nodup_append.mpr ⟨nd.filter _, by simp, fun a ha b hb e => ?_⟩
    rw [List.mem_singleton.mp hb] at e
    subst e
    have := (List.mem_filter.mp ha).2
    simp at this
  · simp only [List.mem_append, List.mem_filter, List.mem_singleton]
    constructor
    · rintro (⟨h1, _⟩ | rfl)
      · exact h1
      · exact hk
    · intro h
      by_cases c : x = k
      · exact .inr c
      · exact .inl ⟨h, by simpa using c⟩
def giveLast (W : Web) (k : Nat) : Web := ⟨W.roads, lastO W.gives (rd W k).b k, W.takes⟩
def takeLast (W : Web) (k : Nat) : Web := ⟨W.roads, W.gives, lastO W.takes (rd W k).e k⟩
theorem perm_lastO {os : List (List Nat)} {rs : List Road} {s k h : Nat} {l : List Nat} {x : Road} (hk : rs[k]? = some x) (hp : ∀ (h : Nat) (l : List Nat), os[h]? = some l → l.Perm (atR rs s h)) (e : (lastO os (side s x) k)[h]? = some l) : l.Perm (atR rs s h) := by
  unfold lastO at e
  cases c : side s x with
  | none => rw [c] at e; exact hp h l e
  | some g =>
    rw [c] at e
    have e : (os.set g ((os.getD g []).filter (fun x => !(x == k)) ++ [k]))[h]? = some l := e
    by_cases q : g = h
    · subst q
      have hl : g < os.length := by
        have := (List.getElem?_eq_some_iff.mp e).1
        simpa using this
      rw [List.getElem?_set_self hl] at e
      cases e
      have p := hp g _ (List.getElem?_eq_getElem hl)
      have ed : os.getD g [] = os[g] := by simp [hl]
      rw [ed]
      refine (perm_last (p.nodup_iff.mpr nodup_atR) (p.mem_iff.mpr (mem_atR.mpr ⟨x, hk, c⟩))).trans p
    · rw [List.getElem?_set_ne q] at e
      exact hp h l e
theorem rd_some {k : Nat} (hk : k < W.roads.length) : W.roads[k]? = some (rd W k) := by rw [rd_eq hk]; exact List.getElem?_eq_getElem hk
theorem web_giveLast (hw : IsWeb W) {k : Nat} (hk : k < W.roads.length) : IsWeb (giveLast W k) :=
  ⟨by show 1 ≤ (lastO _ _ _).length ∧ (lastO _ _ _).length ≤ 8; rw [lastO_len]; exact hw.houses, by show W.takes.length = (lastO _ _ _).length; rw [lastO_len]; exact hw.same, hw.count, fun x hx => by show OkRoad (lastO _ _ _).length x; rw [lastO_len]; exact hw.road x hx, fun h l e => perm_lastO (s := 0) (rd_some hk) hw.give e, hw.take⟩
theorem web_takeLast (hw : IsWeb W) {k : Nat} (hk : k < W.roads.length) : IsWeb (takeLast W k) :=
  ⟨hw.houses, by show (lastO _ _ _).length = W.gives.length; rw [lastO_len]; exact hw.same, hw.count, hw.road, hw.give, fun h l e => perm_lastO (s := 1) (rd_some hk) hw.take e⟩
end
end Fn

namespace Fn
open PySem PySem.Spec PyProof.Rows L2 Uv
def decN (k x : Nat) : Nat := if k < x then x - 1 else x
def incN (k x : Nat) : Nat := if x < k then x else x + 1
theorem dec_inc {k x : Nat} : decN k (incN k x) = x := by unfold decN incN; split <;> split <;> omega
theorem inc_dec {k x : Nat} (h : x ≠ k) : incN k (decN k x) = x := by unfold decN incN; split <;> split <;> omega
theorem inc_ne {k x : Nat} : incN k x ≠ k := by unfold incN; split <;> omega
theorem dec_inj {k x y : Nat} (hx : x ≠ k) (hy : y ≠ k) (h : decN k x = decN k y) : x = y := by rw [← inc_dec hx, h, inc_dec hy]
theorem erase_at {α : Type} {l : List α} {k j : Nat} : (l.eraseIdx k)[j]? = l[incN k j]? := by
  rw [List.getElem?_eraseIdx]
  unfold incN
  split <;> rfl
def cutO (k : Nat) (o : List Nat) : List Nat := (o.filter fun x => !(x == k)).map (decN k)
def cutW (W : Web) (k : Nat) : Web := ⟨W.roads.eraseIdx k, W.gives.map (cutO k), W.takes.map (cutO k)⟩
theorem mem_cutO {k y : Nat} {o : List Nat} : y ∈ cutO k o ↔ incN k y ∈ o := by
  unfold cutO
  rw [List.mem_map]
  constructor
  · rintro ⟨x, hx, rfl⟩
    obtain ⟨h1, h2⟩ := List.mem_filter.mp hx
    rw [inc_dec (by simpa using h2)]; exact h1
  · intro h
    exact ⟨incN k y, List.mem_filter.mpr ⟨h, by simpa using inc_ne⟩, dec_inc⟩
theorem nd_cutO {k : Nat} {o : List Nat} (nd : o.Nodup) : (cutO k o).Nodup := by
  unfold cutO
  refine List.pairwise_map.mpr ?_
  refine List.Pairwise.imp_of_mem (R := fun a b => a ≠ b) (fun {a b} ha hb hab e => hab (dec_inj ?_ ?_ e)) (nd.filter _)
  · simpa using (List.mem_filter.mp ha).2
  · simpa using (List.mem_filter.mp hb).2
theorem perm_cutO {rs : List Road} {s h k : Nat} {l : List Nat} (p : l.Perm (atR rs s h)) : (cutO k l).Perm (atR (rs.eraseIdx k) s h) := by
  refine (List.perm_ext_iff_of_nodup (nd_cutO (p.nodup_iff.mpr nodup_atR)) nodup_atR).mpr fun y => ?_
  rw [mem_cutO, p.mem_iff, mem_atR, mem_atR, erase_at]
section
variable {W : Web} {f : List Int}
theorem len_cut {k : Nat} (hk : k < W.roads.length) : (cutW W k).roads.length = W.roads.length - 1 := List.length_eraseIdx_of_lt hk
theorem web_cut (hw : IsWeb W) {k : Nat} (hk : k < W.roads.length) (h1 : 1 < W.roads.length) : IsWeb (cutW W k) := by
  have hc := hw.count
  have hh := hw.houses
  have hs := hw.same
  refine ⟨by simpa [cutW] using hh, by simpa [cutW] using hs, by rw [len_cut hk]; omega, fun x hx => ?_, fun h l e => ?_, fun h l e => ?_⟩
  · have := hw.road x ((List.eraseIdx_sublist ..).subset hx)
    simpa [cutW] using this
  · obtain ⟨o, ho, rfl⟩ : ∃ o, W.gives[h]? = some o ∧ cutO k o = l := by simpa [cutW] using e
    exact perm_cutO (hw.give h o ho)
  · obtain ⟨o, ho, rfl⟩ : ∃ o, W.takes[h]? = some o ∧ cutO k o = l := by simpa [cutW] using e
    exact perm_cutO (hw.take h o ho)
end
end Fn

namespace Fn
open PySem PySem.Spec PyProof.Rows L2 Uv
section
variable {W W' : Web} {k : Nat} {f f' : List Int} {M : List Nat}
section
variable (hw : IsWeb W) (hk : k < W.roads.length) (hf : f.length = W.roads.length)
include hw hk hf
end
end
end Fn

namespace Fn
open PySem PySem.Spec PyProof.Rows L2 Uv
section
variable {W : Web} {k : Nat} {f : List Int} {M : List Nat} {r a c : Int}
section
variable {o : List Nat} (nd : o.Nodup) (om : ∀ x ∈ o, x < f.length) (hk : k < f.length)
include nd om hk
end
end
end Fn

namespace Fn
open PySem PySem.Spec PyProof.Rows L2 Uv
section
variable {W : Web} {k : Nat} {f : List Int} {M : List Nat} {r a c : Int}
section
variable (hw : IsWeb W) (hk : k < W.roads.length) (hf : f.length = W.roads.length)
include hw hk hf
end
end
end Fn

namespace Fn
open PySem PySem.Spec PyProof.Rows L2 Uv
@[simp] theorem q_app1 {as : XA} {b : XE} {v : VE} : xApp1 as b v = (as v).bind fun xs => (b v).bind fun y => some (xs ++ [y]) := (rfl)
section
variable {W : Web} {k n h : Nat} {o : List Nat} {r : Int}
theorem tup_giv (hw : IsWeb W) (hh : h < W.gives.length) : atI (W.gives.map natsD) (h : Int) = some (natsD (giv W h)) := by
  rw [atI_map hh]
  unfold giv
  rw [List.getD_eq_getElem?_getD, List.getElem?_eq_getElem hh]
  rfl
theorem tup_tak (hw : IsWeb W) (hh : h < W.gives.length) : atI (W.takes.map natsD) (h : Int) = some (natsD (tak W h)) := by
  have hs := hw.same
  rw [atI_map (by omega : h < W.takes.length)]
  unfold tak
  rw [List.getD_eq_getElem?_getD, List.getElem?_eq_getElem (by omega : h < W.takes.length)]
  rfl
end
end Fn

namespace Fn
open PySem PySem.Spec PyProof.Rows L2 Uv
@[simp] theorem q_addB_i {i : Int} {y : PD} : addB (.int i) y = addP (.int i) y := by cases y <;> rfl
@[simp] theorem q_addB_t {ds : List PD} {y : PD} : addB (.tuple ds) y = addP (.tuple ds) y := by cases y <;> rfl
@[simp] theorem q_addB_b {b : Bool} {j : Int} : addB (.bool b) (.int j) = some (.int ((if b = true then (1 : Int) else 0) + j)) := rfl
@[simp] theorem q_subB_i {i : Int} {y : PD} : subB (.int i) y = subP (.int i) y := by cases y <;> rfl
@[simp] theorem q_subB_b {b : Bool} {j : Int} : subB (.bool b) (.int j) = some (.int ((if b = true then (1 : Int) else 0) - j)) := rfl
@[simp] theorem q_neX_0 {ds : List PD} : neX (.tuple ds) (.tuple []) = some (.bool (!ds.isEmpty)) := rfl
@[simp] theorem q_neX_l0 {ds : List PD} : neX (.list ds) (.list []) = some (.bool (!ds.isEmpty)) := rfl
@[simp] theorem q_neX_i {i : Int} {y : PD} : neX (.int i) y = neP (.int i) y := by cases y <;> rfl
end Fn

namespace Fn
open PySem PySem.Spec PyProof.Rows L2 Uv
section
variable {F : Fair} {X Y Z A B : List Int}
end
end Fn

namespace Fn
open PySem PySem.Spec PyProof.Rows L2 Uv
section
variable {F : Fair} {X Y Z A B : List Int} {o : List Nat}
end
end Fn

namespace Fn
open PySem PySem.Spec PyProof.Rows L2 Uv
theorem cut_takeF {ds : List PD} {k : Nat} : Uv.cutD ds none (some (k : Int)) = ds.take k := by
  unfold Uv.cutD
  rw [HT.sIx_nat, HT.sIx_none]
  by_cases c : k ≤ ds.length
  · rw [Nat.min_eq_left c]; simp
  · rw [Nat.min_eq_right (by omega)]
    have : ds.take k = ds := List.take_of_length_le (by omega)
    rw [this]
    simp
section
variable {F : Fair} {X Y Z A B : List Int}
end
end Fn

namespace Fn
open PySem PySem.Spec PyProof.Rows L2 Uv
structure Tg (d : PD) : Prop where
  sho : Sho 20 100000 d
  len : ∀ ds, d = .tuple ds → ds.length ≤ 100
structure It (d : PD) : Prop where
  sho : Sho 3 500 d
  len : ∀ ds, d = .tuple ds → ds.length ≤ 100
end Fn

namespace Fn
open PySem PySem.Spec PyProof.Rows L2 Uv
end Fn

namespace Fn
open PySem PySem.Spec PyProof.Rows L2 Uv
section
variable {F : Fair} {X : List Int}
theorem cut_sub {ds : List PD} {lo hi : Option Int} : (∀ x ∈ Uv.cutD ds lo hi, x ∈ ds) ∧ (Uv.cutD ds lo hi).length ≤ ds.length := by
  unfold Uv.cutD
  refine ⟨fun x hx => List.mem_of_mem_drop (List.mem_of_mem_take hx), ?_⟩
  rw [List.length_take, List.length_drop]
  omega
end
end Fn

namespace Fn
open PySem PySem.Spec PyProof.Rows L2 Uv
def isM (m : Int) : PD → Bool
  | .int i => decide (0 ≤ i) && decide (i ≤ m)
  | _ => false
def isI1 : PD → Bool
  | .int _ => true
  | _ => false
theorem p_num1 {x : PD} (hx : full x = false) : F_is_number [x] = some (.bool (isI1 x)) := by
  refine eq_of_wp ?_
  unfold F_is_number
  refine wp_runP rfl ?_
  unfold X_is_number
  cases x <;> simp -implicitDefEqProofs [hx, isTy, isI1]
section
variable {F : Fair} {X : List Int} {d : PD}
end
end Fn

namespace Fn
open PySem PySem.Spec PyProof.Rows L2 Uv
section
variable {W : Web} {f : List Int}
end
end Fn

namespace Fn
open PySem PySem.Spec PyProof.Rows L2 Uv
section
variable {W : Web} {k n h : Nat} {os : List (List Nat)} {o : Option Nat}
end
end Fn

namespace Fn
open PySem PySem.Spec PyProof.Rows L2 Uv
structure Thg (d : PD) : Prop where
  sho : Sho 20 100000 d
  len : ∀ ds, d = .tuple ds → ds.length ≤ 30
def isI0 : PD → Bool
  | .int _ => true
  | _ => false
section
variable {W : Web} {f : List Int}
structure Row (W : Web) (f : List Int) (R : List Nat) : Prop where
  opn : ∀ k ∈ R, k < W.roads.length ∧ openB W f k = true
  nd : R.Nodup
  path : Pth W R
end
end Fn

namespace Fn
open PySem PySem.Spec PyProof.Rows L2 Uv
def lfB (d : PD) : Bool := d.showable && scrF d && decide (d.depth ≤ 1) && decide (d.shown.length ≤ 60) && PyData.strOk d.shown && (match d with | .tuple _ => false | _ => true)
structure Lf (d : PD) : Prop where
  sho : Sho 1 60 d
  no : ∀ ds, d ≠ .tuple ds
theorem Lf.of {d : PD} (h : lfB d = true) : Lf d := by
  unfold lfB at h
  simp only [Bool.and_eq_true, decide_eq_true_eq] at h
  obtain ⟨⟨⟨⟨⟨h1, h2⟩, h3⟩, h4⟩, h5⟩, h6⟩ := h
  exact ⟨⟨h1, h2, h3, h4, h5⟩, fun ds e => by rw [e] at h6; exact nomatch h6⟩
def Bd (l : Nat) : Nat → PD → Prop
  | 0, d => Lf d
  | h + 1, d => Lf d ∨ ∃ ds, (d = .tuple ds ∨ d = .list ds) ∧ ds.length ≤ l ∧ ∀ x ∈ ds, Bd l h x
end Fn

namespace Fn
open PySem PySem.Spec PyProof.Rows L2 Uv
section
variable {W : Web} {k n h : Nat} {os : List (List Nat)} {o : Option Nat} {b e r : PD}
end
end Fn

namespace Fn
open PySem PySem.Spec PyProof.Rows L2 Uv
inductive RdT : PD → Prop
  | lay (b e r : PD) (hb : Bd 2 1 b) (he : Bd 2 1 e) (hr : Bd 2 1 r) : RdT (.tuple [.str "lay", b, e, r])
  | shut (k : PD) (hk : Bd 2 1 k) : RdT (.tuple [.str "shut", k])
  | widen (k r : PD) (hk : Bd 2 1 k) (hr : Bd 2 1 r) : RdT (.tuple [.str "widen", k, r])
end Fn

namespace Fn
open PySem PySem.Spec PyProof.Rows L2 Uv
section
variable {W : Web} {R : List Nat} {f g : List Int}
structure WayR (W : Web) (R : List Nat) : Prop where
  ne : R ≠ []
  lt : ∀ k ∈ R, k < W.roads.length
  nd : (begs W R).Nodup
  tn : none ∉ (begs W R).tail
  ch : ends W R = (begs W R).tail ++ [(rd W (R.headD 0)).b]
  mn : (rd W (R.headD 0)).b ≠ none → ∀ k ∈ R, R.headD 0 ≤ k
end
end Fn

namespace Fn
open PySem PySem.Spec PyProof.Rows L2 Uv
section
variable {W : Web} {R : List Nat} {f : List Int}
end
end Fn

namespace Fn
open PySem PySem.Spec PyProof.Rows L2 Uv
section
variable {W : Web} {R : List Nat} {f g : List Int}
structure Bdl (W : Web) (f : List Int) (rows : List (List Nat × Int)) : Prop where
  len : rows.length ≤ W.roads.length
  row : ∀ p ∈ rows, WayR W p.1 ∧ 1 ≤ p.2
  nd : (rows.map (·.1)).Nodup
  tot : ∀ k, Fn.tot rows k = at0 f k
end
end Fn

namespace Fn
open PySem PySem.Spec PyProof.Rows L2 Uv
section
variable {W : Web} {R : List Nat} {f g : List Int}
end
end Fn

namespace Fn
open PySem PySem.Spec PyProof.Rows L2 Uv
section
variable {W : Web} {R : List Nat} {f g : List Int}
end
end Fn

namespace Fn
open PySem PySem.Spec PyProof.Rows L2 Uv
section
variable {W : Web} {f : List Int}
def toI : PD → Int
  | .int i => i
  | _ => 0
end
end Fn

namespace Fn
open PySem PySem.Spec PyProof.Rows L2 Uv
end Fn

namespace Fn
open PySem PySem.Spec PyProof.Rows L2 Uv TL
section
variable {n : Nat} {l : List Nat} {a b : Str}
end
end Fn

namespace Uv
open PySem PySem.Spec PyProof.Rows L2
end Uv
namespace Fn
open PySem PySem.Spec PyProof.Rows L2 Uv TL
section
variable {n : Nat} {l : List Nat} {a b y s : Str} {W : Web}
structure OkR (x : Road) : Prop where
  b : ∀ n, x.b = some n → n < 10 ^ 13
  e : ∀ n, x.e = some n → n < 10 ^ 13
  r0 : 0 ≤ x.r
  r1 : x.r ≤ 1000000000000
end
end Fn

namespace Fn
open PySem PySem.Spec PyProof.Rows L2 Uv TL
@[simp] theorem exK_w {α : Type} {W : Web} {x y : Option α} : exK (webD W) (tag x) (tag y) = y := (rfl)
structure HOk (h : HS) (W : Web) (dl : List PD) : Prop where
  ws : ∃ ws, h.ws = ws ++ [webD W] ∧ ws.length < 1000
  st : h.st = dl
  bz : h.bz = false
end Fn

namespace Fn
open PySem PySem.Spec PyProof.Rows L2 Uv
def ordB (own : List Nat) : PD → Bool
  | .tuple ds => ds.all isI0 && (sortI (ds.map toI) == own.map fun (n : Nat) => (n : Int))
  | _ => false
theorem i0_map : ∀ {ds : List PD}, ds.all isI0 = true → ds = (ds.map toI).map PyData.int
  | [], _ => rfl
  | d :: ds, h => by
    rw [List.all_cons, Bool.and_eq_true] at h
    have e : d = .int (toI d) := by cases d <;> first | rfl | exact nomatch h.1
    rw [List.map_cons, List.map_cons, ← i0_map h.2, ← e]
theorem sort_ints {ns : List Int} : sortP (.tuple (ns.map PyData.int)) = some (.list ((sortI ns).map PyData.int)) := by
  unfold sortP
  simp [unI_ints]
theorem lay_ints {ns : List Int} : Lay 60 (.list (ns.map PyData.int)) := (Lay.lst (k := 0) (Lay.map fun _ => Lay.int)).mono (by decide)
theorem nat_ints {own : List Nat} : own.map natD = (own.map fun (n : Nat) => (n : Int)).map PyData.int := by rw [List.map_map]; rfl
end Fn

namespace Fn
open PySem PySem.Spec PyProof.Rows L2 Uv
end Fn

namespace Fn
open PySem PySem.Spec PyProof.Rows L2 Uv
end Fn

namespace Fn
open PySem PySem.Spec PyProof.Rows L2 Uv
end Fn

namespace Fn
open PySem PySem.Spec PyProof.Rows L2 Uv
end Fn

namespace Fn
open PySem PySem.Spec PyProof.Rows L2 Uv
section
variable {h h' : HS} {W : Web} {dl : List PD} {deed : PD} {m : Nat} {es : List PD}
end
end Fn

namespace Fn
open PySem PySem.Spec PyProof.Rows L2 Uv
section
variable {W : Web} {k n h : Nat} {x o : PD}
theorem ordB_perm {own : List Nat} {x : PD} (h : ordB own x = true) : ∃ o : List Nat, x = natsD o ∧ o.Perm own := by
  cases x with
  | tuple ds =>
    have h : (ds.all isI0 && (sortI (ds.map toI) == own.map fun (n : Nat) => (n : Int))) = true := h
    rw [Bool.and_eq_true, beq_iff_eq] at h
    have e := i0_map h.1
    have p := (@sortI_perm kk0 (ds.map toI)).symm
    rw [h.2] at p
    have m : ∀ i ∈ ds.map toI, ((i.toNat : Nat) : Int) = i := fun i hi => by
      obtain ⟨j, _, e⟩ := List.mem_map.mp (p.mem_iff.mp hi)
      omega
    refine ⟨(ds.map toI).map Int.toNat, ?_, ?_⟩
    · unfold natsD
      rw [List.map_map]
      conv => lhs; rw [e]
      congr 1
      refine List.map_congr_left fun i hi => ?_
      show PyData.int i = PyData.int ((i.toNat : Nat) : Int)
      rw [m i hi]
    · have q := p.map Int.toNat
      rw [List.map_map (g := Int.toNat) (l := own)] at q
      have z : own.map (Int.toNat ∘ fun (n : Nat) => (n : Int)) = own := by
        conv => rhs; rw [← List.map_id own]
        exact List.map_congr_left fun n _ => by simp
      rwa [z] at q
  | _ => exact nomatch h
theorem ordB_of {own o : List Nat} (p : o.Perm own) (hs : own.Pairwise (· < ·)) : ordB own (natsD o) = true := by
  show ((o.map natD).all isI0 && (sortI ((o.map natD).map toI) == own.map fun (n : Nat) => (n : Int))) = true
  rw [Bool.and_eq_true, beq_iff_eq]
  refine ⟨List.all_eq_true.mpr fun x hx => by obtain ⟨j, _, rfl⟩ := List.mem_map.mp hx; rfl, ?_⟩
  rw [List.map_map]
  have e : o.map (toI ∘ natD) = o.map fun (n : Nat) => (n : Int) := List.map_congr_left fun n _ => rfl
  rw [e]
  have q := @sortI_perm kk0 (o.map fun (n : Nat) => (n : Int))
  have s1 := @sortI_sorted kk0 (o.map fun (n : Nat) => (n : Int))
  have s2 : (own.map fun (n : Nat) => (n : Int)).Pairwise (· ≤ ·) := List.pairwise_map.mpr (hs.imp fun h => by omega)
  exact List.Perm.eq_of_pairwise (fun a b _ _ h1 h2 => Int.le_antisymm h1 h2) s1 s2 (q.trans (p.map _))
theorem ord_le {own : List Nat} {ds : List PD} (hl : ∀ j ∈ own, j ≤ 20) (h : ordB own (.tuple ds) = true) : ∀ x ∈ ds, isM 20 x = true := by
  intro x hx
  obtain ⟨o, e, p⟩ := ordB_perm h
  have e : ds = o.map natD := PyData.tuple.inj e
  rw [e] at hx
  obtain ⟨j, hj, rfl⟩ := List.mem_map.mp hx
  have := hl j (p.mem_iff.mp hj)
  show (decide ((0 : Int) ≤ j) && decide ((j : Int) ≤ 20)) = true
  rw [Bool.and_eq_true, decide_eq_true_eq, decide_eq_true_eq]
  omega
theorem isM_I0 {m : Int} {x : PD} (h : isM m x = true) : isI0 x = true := by cases x <;> first | rfl | exact nomatch h
theorem neX_l {ds : List PD} : neX (.list ds) (.list []) = some (.bool (!ds.isEmpty)) := rfl
end
end Fn

namespace Fn
open PySem PySem.Spec PyProof.Rows L2 Uv
section
variable {W : Web} {k n h : Nat} {x o r : PD}
theorem web_like0 (hw : IsWeb W) {o : List Nat} (p : o.Perm (atR W.roads 0 h)) : IsWeb ⟨W.roads, W.gives.set h o, W.takes⟩ := by
  refine ⟨by simpa using hw.houses, by simpa using hw.same, hw.count, fun x hx => by simpa using hw.road x hx, fun j l hj => ?_, hw.take⟩
  by_cases c : h = j
  · subst c
    have hj : (W.gives.set h o)[h]? = some l := hj
    have := (List.getElem?_eq_some_iff.mp hj).1
    rw [List.getElem?_set_self (by simpa using this)] at hj
    cases hj
    exact p
  · have hj : (W.gives.set h o)[j]? = some l := hj
    rw [List.getElem?_set_ne c] at hj
    exact hw.give j l hj
theorem web_like1 (hw : IsWeb W) {o : List Nat} (p : o.Perm (atR W.roads 1 h)) : IsWeb ⟨W.roads, W.gives, W.takes.set h o⟩ := by
  refine ⟨hw.houses, by simpa using hw.same, hw.count, hw.road, hw.give, fun j l hj => ?_⟩
  by_cases c : h = j
  · subst c
    have hj : (W.takes.set h o)[h]? = some l := hj
    have := (List.getElem?_eq_some_iff.mp hj).1
    rw [List.getElem?_set_self (by simpa using this)] at hj
    cases hj
    exact p
  · have hj : (W.takes.set h o)[j]? = some l := hj
    rw [List.getElem?_set_ne c] at hj
    exact hw.take j l hj
theorem set_data {os : List (List Nat)} {o : List Nat} : (os.map natsD).set h (natsD o) = (os.set h o).map natsD := by rw [List.map_set]
end
end Fn

namespace Fn
open PySem PySem.Spec PyProof.Rows L2 Uv
mutual
def msr : PD → Nat
  | .none => 5
  | .bool _ => 5
  | .int _ => 41
  | .str _ => 402
  | .list ds => 3 + msrs ds
  | .tuple ds => 3 + msrs ds
  | .dict _ => 100
def msrs : List PD → Nat
  | [] => 0
  | x :: r => msr x + 2 + msrs r
end
theorem msrs_app : ∀ {a b : List PD}, msrs (a ++ b) = msrs a + msrs b
  | [], b => by simp [msrs]
  | x :: a, b => by
    rw [List.cons_append, msrs, msrs, msrs_app]
    omega
theorem msrs_mem : ∀ {ds : List PD} {x : PD}, x ∈ ds → msr x + 2 ≤ msrs ds
  | y :: ds, x, h => by
    rw [msrs]
    rcases List.mem_cons.mp h with e | e
    · rw [e]; omega
    · have := msrs_mem e; omega
theorem msr_pos (d : PD) : 3 ≤ msr d := by cases d <;> simp only [msr] <;> omega
theorem msrs_len : ∀ ds : List PD, 5 * ds.length ≤ msrs ds
  | [] => Nat.zero_le _
  | x :: ds => by
    have := msrs_len ds
    have := msr_pos x
    rw [msrs, List.length_cons]
    omega
theorem msrs_rev : ∀ ds : List PD, msrs ds.reverse = msrs ds
  | [] => rfl
  | x :: ds => by
    rw [List.reverse_cons, msrs_app, msrs_rev ds, msrs, msrs, msrs]
    omega
theorem msrs_cut {ds : List PD} {i : Nat} (h : i < ds.length) : msrs (ds.take i) + msrs (ds.drop (i + 1)) + msr ds[i] + 2 = msrs ds := by
  have e : ds = ds.take i ++ ds[i] :: ds.drop (i + 1) := by rw [← List.drop_eq_getElem_cons h, List.take_append_drop]
  have := congrArg msrs e
  rw [msrs_app, msrs] at this
  omega
inductive Bq (b : Nat) : PD → Prop
  | non : Bq b .none
  | bool (x : Bool) : Bq b (.bool x)
  | int {i : Int} : i.natAbs ≤ b → Bq b (.int i)
  | str {x : Str} : PyData.strOk x = true → x.length ≤ 40 → Bq b (.str x)
  | dct0 : Bq b (.dict [])
  | dctA : Bq b (.dict [(.str "a", .int 1)])
  | dctB : Bq b (.dict [(.str "a", .int 0)])
  | tup {ds : List PD} : (∀ x ∈ ds, Bq b x) → Bq b (.tuple ds)
  | lst {ds : List PD} : (∀ x ∈ ds, Bq b x) → Bq b (.list ds)
theorem Bq.mono {b b' : Nat} (hb : b ≤ b') {d : PD} (h : Bq b d) : Bq b' d := by
  induction h with
  | non => exact .non
  | bool x => exact .bool x
  | int h => exact .int (by omega)
  | str h l => exact .str h l
  | dct0 => exact .dct0
  | dctA => exact .dctA
  | dctB => exact .dctB
  | tup _ ih => exact .tup ih
  | lst _ ih => exact .lst ih
theorem shown_msrs : ∀ {ds : List PD}, (∀ x ∈ ds, x.shown.length ≤ msr x) → ((PyData.shownAll ds).map (·.length)).sum + 2 * (PyData.shownAll ds).length ≤ msrs ds
  | [], _ => Nat.zero_le _
  | x :: ds, h => by
    have h1 := h x (List.mem_cons_self ..)
    have h2 := shown_msrs fun y hy => h y (List.mem_cons_of_mem _ hy)
    rw [PyData.shownAll, msrs]
    simp only [List.map_cons, List.sum_cons, List.length_cons]
    omega
theorem Bq.sho {b : Nat} (hb : b < 10 ^ 40) {d : PD} (h : Bq b d) : Sho d.depth (msr d) d := by
  induction h with
  | non => exact ⟨rfl, rfl, Nat.le_refl _, by decide +kernel, by decide +kernel⟩
  | bool x => exact (Sho.bool (k := 0)).mono (Nat.zero_le _) (by simp [msr])
  | int h => exact (Sho.int (k := 0) (by omega)).mono (Nat.zero_le _) (by simp [msr])
  | str h l => exact (Sho.str (k := 0) h).mono (Nat.zero_le _) (by simp only [msr]; omega)
  | dct0 => exact ⟨by decide +kernel, by decide +kernel, Nat.le_refl _, by decide +kernel, by decide +kernel⟩
  | dctA => exact ⟨by decide +kernel, by decide +kernel, Nat.le_refl _, by decide +kernel, by decide +kernel⟩
  | dctB => exact ⟨by decide +kernel, by decide +kernel, Nat.le_refl _, by decide +kernel, by decide +kernel⟩
  | @tup ds _ ih =>
    refine ⟨all_show fun d hd => (ih d hd).sh, all_noD fun d hd => (ih d hd).nd, Nat.le_refl _, ?_, ok_app (ok_app (ok_ofS _) (ok_join (ok_ofS _) (all_shown fun d hd => (ih d hd).ok))) (ok_ofS _)⟩
    have h1 := tupleText_len_le (PyData.shownAll ds)
    have h2 := shown_msrs fun d hd => (ih d hd).ln
    show (tupleText (PyData.shownAll ds)).length ≤ _
    rw [msr]
    omega
  | @lst ds _ ih =>
    refine ⟨all_show fun d hd => (ih d hd).sh, all_noD fun d hd => (ih d hd).nd, Nat.le_refl _, ?_, ok_app (ok_from (ok_ofS _) (all_shown fun d hd => (ih d hd).ok)) (ok_ofS _)⟩
    have h1 := listText_len_le (PyData.shownAll ds)
    have h2 := shown_msrs fun d hd => (ih d hd).ln
    show (listText (PyData.shownAll ds)).length ≤ _
    rw [msr]
    omega
theorem Bq.full {b : Nat} {d : PD} (h : Bq b d) : full d = false := by cases h <;> rfl
structure Bn (b n k : Nat) (d : PD) : Prop where
  q : Bq b d
  m : msr d ≤ n
  p : d.depth ≤ k
theorem Bn.mono {b n k b' n' k' : Nat} {d : PD} (h : Bn b n k d) (h1 : b ≤ b') (h2 : n ≤ n') (h3 : k ≤ k') : Bn b' n' k' d := ⟨h.q.mono h1, by have := h.m; omega, by have := h.p; omega⟩
theorem depth_mem {ds : List PD} {x : PD} (h : x ∈ ds) : x.depth ≤ PyData.depthAll ds := by
  induction ds with
  | nil => exact nomatch h
  | cons y ds ih =>
    rw [PyData.depthAll]
    rcases List.mem_cons.mp h with e | e
    · rw [e]; exact Nat.le_max_left _ _
    · exact Nat.le_trans (ih e) (Nat.le_max_right _ _)
theorem Bn.tup {b n k : Nat} {ds : List PD} (h : ∀ x ∈ ds, Bq b x) (hm : 3 + msrs ds ≤ n) (hp : ∀ x ∈ ds, x.depth ≤ k) : Bn b n (k + 1) (.tuple ds) := ⟨.tup h, by rw [msr]; exact hm, Nat.succ_le_succ (all_depth hp)⟩
theorem Bn.lst {b n k : Nat} {ds : List PD} (h : ∀ x ∈ ds, Bq b x) (hm : 3 + msrs ds ≤ n) (hp : ∀ x ∈ ds, x.depth ≤ k) : Bn b n (k + 1) (.list ds) := ⟨.lst h, by rw [msr]; exact hm, Nat.succ_le_succ (all_depth hp)⟩
def bnB (d : PD) : Bool := decide (msr d ≤ 500) && decide (d.depth ≤ 2)
end Fn

namespace Fn
open PySem PySem.Spec PyProof.Rows L2 Uv
end Fn

namespace Fn
open PySem PySem.Spec PyProof.Rows L2 Uv
structure Tq (d : PD) : Prop where
  q : ∃ b, Bq b d
  m : msr d ≤ 150000
theorem Tq.full {d : PD} (h : Tq d) : Uv.full d = false := h.q.choose_spec.full
theorem Tq.mem {ds : List PD} (h : Tq (.tuple ds)) : ∀ x ∈ ds, Tq x := fun x hx => by
  obtain ⟨b, q⟩ := h.q
  have m := h.m
  rw [msr] at m
  have := msrs_mem hx
  cases q with
  | tup hh => exact ⟨⟨b, hh x hx⟩, by omega⟩
theorem Tq.len {ds : List PD} (h : Tq (.tuple ds)) : ds.length ≤ 30000 := by
  have m := h.m
  rw [msr] at m
  have := msrs_len ds
  omega
theorem lcT0 {v : VE} {g : XGV} {e : XE} (f : PD → PD) {l : List PD} {Q : List PD → Prop} (h : ∀ x ∈ l, wp (g x v) (tag fun v1 => wp (e v1) (tag fun d => d = f x))) (hq : Q (l.map f)) : wp (lcGo g xYes e v l) (tag Q) := by
  have e' : lcGo g xYes e v l = lcGo g xYes e v (l.map id) := by rw [List.map_id]
  rw [e']
  exact wp_lcT f h hq
def toI1 : PD → Int
  | .int i => i
  | _ => 0
theorem i1_map : ∀ {ds : List PD}, ds.all isI1 = true → ds = (ds.map toI1).map PyData.int
  | [], _ => rfl
  | d :: ds, h => by
    rw [List.all_cons, Bool.and_eq_true] at h
    have e : d = .int (toI1 d) := by cases d <;> first | rfl | exact nomatch h.1
    rw [List.map_cons, List.map_cons, ← i1_map h.2, ← e]
theorem sort_ints1 {ns : List Int} : sortP (.tuple (ns.map PyData.int)) = some (.list ((sortI ns).map PyData.int)) := by
  unfold sortP
  simp [@unI_map kk0]
theorem nat_ints1 {own : List Nat} : own.map natD = (own.map fun (n : Nat) => (n : Int)).map PyData.int := by rw [List.map_map]; rfl
def ordQ (own : List Nat) : PD → Bool
  | .tuple ds => ds.all isI1 && (sortI (ds.map toI1) == own.map fun (n : Nat) => (n : Int))
  | _ => false
theorem p_order1 {own : List Nat} {x : PD} (t : Tq x) : F_is_order [x, .list (own.map natD)] = some (.bool (ordQ own x)) := by
  refine eq_of_wp ?_
  unfold F_is_order
  refine wp_runP rfl ?_
  unfold X_is_order
  cases x with
  | tuple ds =>
    have dl := t.len
    have eo : ordQ own (.tuple ds) = (ds.all isI1 && (sortI (ds.map toI1) == own.map fun (n : Nat) => (n : Int))) := rfl
    simp -implicitDefEqProofs [isTy, Uv.full]
    refine ⟨by omega, lcT0 (fun x => .bool (isI1 x)) (fun x hx => ?_) ?_⟩
    · simp -implicitDefEqProofs [p_num1 (t.mem x hx).full]
    cases q : ds.all isI1 with
    | false =>
      rw [eo, q]
      simp -implicitDefEqProofs [q_all, q]
    | true =>
      have so : sortP (.tuple ds) = some (.list ((sortI (ds.map toI1)).map PyData.int)) := by
        conv => lhs; rw [i1_map q]
        exact sort_ints1
      have lay : ∀ ns : List Int, Lay 60 (.list (ns.map PyData.int)) := fun _ => (Lay.lst (k := 0) (Lay.map fun _ => Lay.int)).mono (by decide)
      have ee : eqP (.list ((sortI (ds.map toI1)).map PyData.int)) (.list (own.map natD)) = some (.bool (sortI (ds.map toI1) == own.map fun (n : Nat) => (n : Int))) := by
        rw [nat_ints1, eqP_lay (lay _) (lay _)]
        show some (PyData.bool (PyData.eqvAll _ _)) = _
        rw [eqv_ints]
      rw [eo, q]
      simp -implicitDefEqProofs [q_all, q, so, ee]
  | _ => simp -implicitDefEqProofs [isTy, t.full]; rfl
end Fn

namespace Fn
open PySem PySem.Spec PyProof.Rows L2 Uv
end Fn

namespace Fn
open PySem PySem.Spec PyProof.Rows L2 Uv
end Fn

namespace Fn
open PySem PySem.Spec PyProof.Rows L2 Uv
def oddE : List PD := [.none, .bool true, .bool false, .int 0, .int 1, .int (-1), .int 2, .int 1000000000000, .int 100000000000000000000000000000, .str "", .str "a", .tuple [], .list [], .dict [], .tuple [.int 0], .list [.int 0], .tuple [.int 0, .int 0], .tuple [.int 1, .int 0], .tuple [.bool true], .tuple [.none], .tuple [.tuple [], .tuple []], .tuple [.tuple [.int 0], .tuple []], .tuple [.tuple [.int 0], .tuple [.int 0]], .dict [(.str "a", .int 0)], .tuple [.tuple []]]
theorem bq_i {i : Int} (h : i.natAbs ≤ 10 ^ 29) : Bq (10 ^ 29) (.int i) := .int h
theorem bq_t0 : Bq (10 ^ 29) (.tuple []) := .tup fun x hx => nomatch hx
theorem bq_t1 {a : PD} (ha : Bq (10 ^ 29) a) : Bq (10 ^ 29) (.tuple [a]) := .tup fun x hx => by rw [List.mem_singleton.mp hx]; exact ha
theorem bq_t2 {a c : PD} (ha : Bq (10 ^ 29) a) (hc : Bq (10 ^ 29) c) : Bq (10 ^ 29) (.tuple [a, c]) := .tup fun x hx => by
  simp only [List.mem_cons, List.not_mem_nil, or_false] at hx
  rcases hx with rfl | rfl
  · exact ha
  · exact hc
theorem oddE_bq {d : PD} (h : d ∈ oddE) : Bq (10 ^ 29) d := by
  simp only [oddE, List.mem_cons, List.not_mem_nil, or_false] at h
  rcases h with rfl | rfl | rfl | rfl | rfl | rfl | rfl | rfl | rfl | rfl | rfl | rfl | rfl | rfl | rfl | rfl | rfl | rfl | rfl | rfl | rfl | rfl | rfl | rfl | rfl
  · exact .non
  · exact .bool _
  · exact .bool _
  · exact bq_i (by decide)
  · exact bq_i (by decide)
  · exact bq_i (by decide)
  · exact bq_i (by decide)
  · exact bq_i (by decide)
  · exact bq_i (by decide)
  · exact .str (by decide +kernel) (by decide +kernel)
  · exact .str (by decide +kernel) (by decide +kernel)
  · exact bq_t0
  · exact .lst fun x hx => nomatch hx
  · exact .dct0
  · exact bq_t1 (bq_i (by decide))
  · exact .lst fun x hx => by rw [List.mem_singleton.mp hx]; exact bq_i (by decide)
  · exact bq_t2 (bq_i (by decide)) (bq_i (by decide))
  · exact bq_t2 (bq_i (by decide)) (bq_i (by decide))
  · exact bq_t1 (.bool _)
  · exact bq_t1 .non
  · exact bq_t2 bq_t0 bq_t0
  · exact bq_t2 (bq_t1 (bq_i (by decide))) bq_t0
  · exact bq_t2 (bq_t1 (bq_i (by decide))) (bq_t1 (bq_i (by decide)))
  · exact .dctB
  · exact bq_t1 bq_t0
theorem oddE_bn {d : PD} (h : d ∈ oddE) : Bn (10 ^ 29) 500 2 d := by
  have al : oddE.all bnB = true := by decide +kernel
  have := List.all_eq_true.mp al d h
  simp only [bnB, Bool.and_eq_true, decide_eq_true_eq] at this
  exact ⟨oddE_bq h, this.1, this.2⟩
theorem e_odd {b : Nat} {cs : List Cel} {Q : PD × List Cel → Prop} (h : DkE b cs) (hb : b ≤ 2 ^ 40) (hq : ∀ d cs', Bn (10 ^ 29) 500 2 d → DkE (b + 1) cs' → Q (d, cs')) : wp (F__law_odd_e cs []) (tag Q) := by
  unfold F__law_odd_e
  refine wp_runW rfl ?_
  unfold X__law_odd_e
  simp -implicitDefEqProofs
  refine e_next h (by omega) (by omega) (by omega) fun r cs1 hr d1 => ?_
  simp -implicitDefEqProofs
  refine wp_pick (l := oddE) (by show r < 25; omega) fun x hx => ?_
  simp -implicitDefEqProofs
  exact hq x cs1 (oddE_bn hx) d1
theorem cut_m1 {ds : List PD} : (∀ x ∈ Uv.cutD ds (some (-1 : Int)) none, x ∈ ds) ∧ msrs (Uv.cutD ds (some (-1 : Int)) none) ≤ msrs ds := by
  refine ⟨cut_sub.1, ?_⟩
  have k : ∀ (l : List PD) n, msrs (l.drop n) ≤ msrs l := fun l => by
    induction l with
    | nil => intro n; simp
    | cons x l ih =>
      intro n
      cases n with
      | zero => simp
      | succ n =>
        rw [List.drop_succ_cons, msrs]
        have := ih n
        omega
  have t : ∀ (l : List PD) n, msrs (l.take n) ≤ msrs l := fun l => by
    induction l with
    | nil => intro n; simp
    | cons x l ih =>
      intro n
      cases n with
      | zero => simp [msrs]
      | succ n =>
        rw [List.take_succ_cons, msrs, msrs]
        have := ih n
        omega
  unfold Uv.cutD
  exact Nat.le_trans (t _ _) (k _ _)
theorem e_shut {fuel : Nat} {b c n k : Nat} {D : Int} {cs : List Cel} {d : PD} {Q : Out → Prop} {z3 : Sl} (h : DkE c cs) (hb : c + 9 ≤ 2 ^ 40) (hd : Bn b n k d) (b0 : 10 ^ 29 ≤ b) (b1 : b < 10 ^ 30) (hn : n ≤ 100000)
    (hq : ∀ d' cs', Bn (b + 1) (2 * n + 600) (k + 2) d' → DkE (c + 9) cs' → Q (.ret d' [.own cs', .dat d, .dat (.int D), z3])) :
    wp (sSeq (sIf (wTAnd (wMT (xB (xIsi .tuple (xVar 1)))) (wB (wOp gtU (wCallK 0 F__law_next_c (wCons (wM (xC (.int 3))) wNil)) (wM (xC (.int 0)))))) (sRet (wOp ixP (wM (xLst (xCons (xUn listP (xVar 1)) (xCons (xUn backP (xVar 1)) (xCons (xOp addB (xVar 1) (xSl (xVar 1) (xPart (xUn negP (xC (.int 1)))) xNoPart)) (xCons (xSl (xVar 1) (xPart (xC (.int 1))) xNoPart) xNil)))))) (wCallK 0 F__law_next_c (wCons (wM (xC (.int 4))) wNil)))) sNext)
    (sSeq (sIf (wTAnd (wMT (xB (xIsi .int (xVar 1)))) (wB (wOp gtU (wCallK 0 F__law_next_c (wCons (wM (xC (.int 3))) wNil)) (wM (xC (.int 0)))))) (sRet (wOp ixP (wM (xLst (xCons (xOp addB (xVar 1) (xC (.int 1))) (xCons (xOp subB (xVar 1) (xC (.int 1))) (xCons (xOp eqP (xVar 1) (xC (.int 1))) xNil))))) (wCallK 0 F__law_next_c (wCons (wM (xC (.int 3))) wNil)))) sNext)
    (sRet (wCallK 0 F__law_odd_e wNil))) [.own cs, .dat d, .dat (.int D), z3]) (tag Q) := by
  have ff := hd.q.full
  have odd : ∀ {c' : Nat} {cs' : List Cel} {Q' : PD × List Cel → Prop}, DkE c' cs' → c' + 1 ≤ c + 9 → (∀ d' cs'', Bn (b + 1) (2 * n + 600) (k + 2) d' → DkE (c + 9) cs'' → Q' (d', cs'')) → wp (F__law_odd_e cs' []) (tag Q') := fun {c' cs' Q'} h' hc hq' =>
    e_odd h' (by omega) fun x cs2 hx d2 => hq' x cs2 (hx.mono (by omega) (by omega) (by omega)) (d2.mono hc)
  have num : ∀ {y : PD}, Bq (b + 1) y → msr y ≤ 402 → y.depth = 0 → Bn (b + 1) (2 * n + 600) (k + 2) y := fun hy hm hp => ⟨hy, by omega, by omega⟩
  cases d with
  | tuple ds =>
    have hm := hd.m
    have hp := hd.p
    have hh : ∀ x ∈ ds, Bq b x := by
      cases hd.q with
      | tup hh => exact hh
    rw [msr] at hm
    have hp : PyData.depthAll ds + 1 ≤ k := hp
    have dpx : ∀ x ∈ ds, x.depth ≤ k + 1 := fun x hx => by have := depth_mem hx; omega
    have len := msrs_len ds
    have cl := cut_sub (ds := ds) (lo := some (-1 : Int)) (hi := none)
    have cm := cut_m1 (ds := ds)
    obtain ⟨E, hE⟩ : ∃ E, E = Uv.cutD ds (some (-1 : Int)) none := ⟨_, rfl⟩
    have li : listP (.tuple ds) = some (.list ds) := rfl
    have bk : backP (.tuple ds) = some (.tuple ds.reverse) := rfl
    have s1 : slP (.tuple ds) (some (-1)) none = some (.tuple E) := by rw [q_sl_t, hE]
    have s2 : slP (.tuple ds) (some 1) none = some (.tuple (ds.drop 1)) := by rw [q_sl_t]; exact congrArg (fun l => some (PyData.tuple l)) (cut_from (ds := ds) (k := 0))
    have ad : addP (.tuple ds) (.tuple E) = some (.tuple (ds ++ E)) := by
      rw [← hE] at cl
      have := cl.2
      simp -implicitDefEqProofs
      simp [grd]
      omega
    rw [← hE] at cm
    simp -implicitDefEqProofs [isTy, Uv.full]
    refine e_next h (by omega) (by omega) (by omega) fun r cs1 hr d1 => ?_
    simp -implicitDefEqProofs
    refine wp_alt (fun _ => ?_) (fun _ => ?_)
    · simp -implicitDefEqProofs [li, bk, s1, s2, ad, -q_add_t, -q_sl_t]
      refine e_next d1 (by omega) (by omega) (by omega) fun r2 cs2 hr2 d2 => ?_
      simp -implicitDefEqProofs
      refine wp_pick (by simp; omega) fun y hy => ?_
      simp -implicitDefEqProofs
      refine hq y cs2 ?_ (d2.mono (by omega))
      simp only [List.mem_cons, List.not_mem_nil, or_false] at hy
      rcases hy with rfl | rfl | rfl | rfl
      · exact Bn.lst (k := k + 1) (fun x hx => (hh x hx).mono (by omega)) (by omega) dpx
      · exact Bn.tup (k := k + 1) (fun x hx => (hh x (List.mem_reverse.mp hx)).mono (by omega)) (by rw [msrs_rev]; omega) fun x hx => dpx x (List.mem_reverse.mp hx)
      · exact Bn.tup (k := k + 1) (fun x hx => (hh x ((List.mem_append.mp hx).elim id (cm.1 x))).mono (by omega)) (by rw [msrs_app]; omega) fun x hx => dpx x ((List.mem_append.mp hx).elim id (cm.1 x))
      · have dm : msrs ds.tail ≤ msrs ds := by
          cases ds with
          | nil => simp
          | cons x l => rw [List.tail_cons, msrs]; omega
        exact Bn.tup (k := k + 1) (fun x hx => (hh x (List.mem_of_mem_tail hx)).mono (by omega)) (by omega) fun x hx => dpx x (List.mem_of_mem_tail hx)
    · simp -implicitDefEqProofs [isTy, Uv.full]
      refine odd d1 (by omega) fun x cs2 hx d2 => ?_
      simp -implicitDefEqProofs
      exact hq x cs2 hx d2
  | int i =>
    have hi : i.natAbs ≤ b := by
      cases hd.q with
      | int hi => exact hi
    simp -implicitDefEqProofs [isTy, Uv.full]
    refine e_next h (by omega) (by omega) (by omega) fun r cs1 hr d1 => ?_
    simp -implicitDefEqProofs
    refine wp_alt (fun _ => ?_) (fun _ => ?_)
    · simp -implicitDefEqProofs
      refine e_next d1 (by omega) (by omega) (by omega) fun r2 cs2 hr2 d2 => ?_
      simp -implicitDefEqProofs
      refine wp_pick (by simp; omega) fun y hy => ?_
      simp -implicitDefEqProofs
      refine hq y cs2 ?_ (d2.mono (by omega))
      simp only [List.mem_cons, List.not_mem_nil, or_false] at hy
      rcases hy with rfl | rfl | rfl
      · exact num (.int (by omega)) (by simp [msr]) rfl
      · exact num (.int (by omega)) (by simp [msr]) rfl
      · exact num (.bool _) (by simp [msr]) rfl
    · simp -implicitDefEqProofs
      refine odd d1 (by omega) fun x cs2 hx d2 => ?_
      simp -implicitDefEqProofs
      exact hq x cs2 hx d2
  | bool v =>
    have e1 : eqP (.bool v) (.int 1) = some (.bool v) := by cases v <;> rfl
    have p0 : 1 ≤ 10 ^ 29 := by decide
    simp -implicitDefEqProofs [isTy, Uv.full]
    refine e_next h (by omega) (by omega) (by omega) fun r cs1 hr d1 => ?_
    simp -implicitDefEqProofs
    refine wp_alt (fun _ => ?_) (fun _ => ?_)
    · simp -implicitDefEqProofs [e1]
      refine e_next d1 (by omega) (by omega) (by omega) fun r2 cs2 hr2 d2 => ?_
      simp -implicitDefEqProofs
      refine wp_pick (by simp; omega) fun y hy => ?_
      simp -implicitDefEqProofs
      refine hq y cs2 ?_ (d2.mono (by omega))
      simp only [List.mem_cons, List.not_mem_nil, or_false] at hy
      rcases hy with rfl | rfl | rfl
      · exact num (.int (by split <;> omega)) (by simp [msr]) rfl
      · exact num (.int (by split <;> omega)) (by simp [msr]) rfl
      · exact num (.bool _) (by simp [msr]) rfl
    · simp -implicitDefEqProofs
      refine odd d1 (by omega) fun x cs2 hx d2 => ?_
      simp -implicitDefEqProofs
      exact hq x cs2 hx d2
  | _ =>
    simp -implicitDefEqProofs [isTy, ff]
    refine odd h (by omega) fun x cs2 hx d2 => ?_
    simp -implicitDefEqProofs
    exact hq x cs2 hx d2
theorem eq_t0 {ds : List PD} : eqP (.tuple ds) (.tuple []) = some (.bool ds.isEmpty) := by
  unfold eqP
  split
  · cases ds <;> rfl
  · rfl
theorem e_bent : ∀ (deep fuel : Nat), deep < fuel → ∀ {b c n k : Nat} {D : Int} {cs : List Cel} {d : PD} {Q : PD × List Cel → Prop}, D = (deep : Int) → DkE c cs → c + 20 * (deep + 1) ≤ 2 ^ 40 → Bn b n k d → 10 ^ 29 ≤ b → b < 10 ^ 30 → n ≤ 100000 →
    (∀ d' cs', Bn (b + 1) (2 * n + 600) (k + 2) d' → DkE (c + 20 * (deep + 1)) cs' → Q (d', cs')) → wp (F__law_bent_e fuel cs [d, .int D]) (tag Q) := by
  obtain ⟨S, hS⟩ : ∃ S : XS, S = sSeq (sIf (wTAnd (wMT (xB (xIsi .tuple (xVar 1)))) (wB (wOp gtU (wCallK 0 F__law_next_c (wCons (wM (xC (.int 3))) wNil)) (wM (xC (.int 0)))))) (sRet (wOp ixP (wM (xLst (xCons (xUn listP (xVar 1)) (xCons (xUn backP (xVar 1)) (xCons (xOp addB (xVar 1) (xSl (xVar 1) (xPart (xUn negP (xC (.int 1)))) xNoPart)) (xCons (xSl (xVar 1) (xPart (xC (.int 1))) xNoPart) xNil)))))) (wCallK 0 F__law_next_c (wCons (wM (xC (.int 4))) wNil)))) sNext)
    (sSeq (sIf (wTAnd (wMT (xB (xIsi .int (xVar 1)))) (wB (wOp gtU (wCallK 0 F__law_next_c (wCons (wM (xC (.int 3))) wNil)) (wM (xC (.int 0)))))) (sRet (wOp ixP (wM (xLst (xCons (xOp addB (xVar 1) (xC (.int 1))) (xCons (xOp subB (xVar 1) (xC (.int 1))) (xCons (xOp eqP (xVar 1) (xC (.int 1))) xNil))))) (wCallK 0 F__law_next_c (wCons (wM (xC (.int 3))) wNil)))) sNext)
    (sRet (wCallK 0 F__law_odd_e wNil))) := ⟨_, rfl⟩
  intro deep
  induction deep with
  | zero =>
    intro fuel hf b c n k D cs d Q hD h hb hd b0 b1 hn hq
    obtain ⟨fuel, rfl⟩ : ∃ m, fuel = m + 1 := ⟨fuel - 1, by omega⟩
    show wp (runW 2 1 (X__law_bent_e (F__law_bent_e fuel)) cs [d, .int D]) (tag Q)
    refine wp_runW rfl ?_
    unfold X__law_bent_e
    rw [← hS]
    have t0 : ((D : Int) == 0) = true := by subst hD; rfl
    simp -implicitDefEqProofs [t0]
    rw [hS]
    refine e_shut (fuel := 0) h (by omega) hd b0 b1 hn fun d' cs' h1 h2 => ?_
    simp -implicitDefEqProofs
    exact hq d' cs' h1 (h2.mono (by omega))
  | succ deep ih =>
    intro fuel hf b c n k D cs d Q hD h hb hd b0 b1 hn hq
    obtain ⟨fuel, rfl⟩ : ∃ m, fuel = m + 1 := ⟨fuel - 1, by omega⟩
    show wp (runW 2 1 (X__law_bent_e (F__law_bent_e fuel)) cs [d, .int D]) (tag Q)
    refine wp_runW rfl ?_
    unfold X__law_bent_e
    rw [← hS]
    have t0 : ((D : Int) == 0) = false := by subst hD; rw [beq_eq_false_iff_ne]; omega
    cases ht : isTy .tuple d with
    | false =>
      simp -implicitDefEqProofs [t0, hd.q.full, ht]
      rw [hS]
      refine e_shut (fuel := 0) h (by omega) hd b0 b1 hn fun d' cs' h1 h2 => ?_
      simp -implicitDefEqProofs
      exact hq d' cs' h1 (h2.mono (by omega))
    | true =>
      obtain ⟨ds, rfl⟩ : ∃ ds, d = .tuple ds := by cases d <;> first | exact ⟨_, rfl⟩ | exact nomatch ht
      have hm := hd.m
      have hp := hd.p
      have hh : ∀ x ∈ ds, Bq b x := by
        cases hd.q with
        | tup hh => exact hh
      rw [msr] at hm
      have hp : PyData.depthAll ds + 1 ≤ k := hp
      have dpx : ∀ x ∈ ds, x.depth + 1 ≤ k := fun x hx => by have := depth_mem hx; omega
      have len := msrs_len ds
      cases q : ds.isEmpty with
      | true =>
        simp -implicitDefEqProofs [t0, hd.q.full, ht, eq_t0, q]
        rw [hS]
        refine e_shut (fuel := 0) h (by omega) hd b0 b1 hn fun d' cs' h1 h2 => ?_
        simp -implicitDefEqProofs
        exact hq d' cs' h1 (h2.mono (by omega))
      | false =>
        have dn : ds ≠ [] := by rintro rfl; exact nomatch q
        have dp := List.length_pos_iff.mpr dn
        simp -implicitDefEqProofs [t0, hd.q.full, ht, eq_t0, q]
        refine e_next h (by omega) (by omega) (by omega) fun r cs1 hr d1 => ?_
        simp -implicitDefEqProofs
        refine wp_alt (fun _ => ?_) (fun _ => ?_)
        · rw [hS]
          refine e_shut (fuel := 0) d1 (by omega) hd b0 b1 hn fun d' cs' h1 h2 => ?_
          simp -implicitDefEqProofs
          exact hq d' cs' h1 (h2.mono (by omega))
        · simp -implicitDefEqProofs
          refine e_next d1 (by omega) (by omega) (by omega) fun a cs2 ha d2 => ?_
          have ha : a < ds.length := by omega
          have ax : atI ds (a : Int) = some ds[a] := atI_at ha
          obtain ⟨v, hv⟩ : ∃ v, v = ds[a] := ⟨_, rfl⟩
          have vm : v ∈ ds := by rw [hv]; exact List.getElem_mem ha
          have mt : ∀ x ∈ ds.take a, x ∈ ds := fun x hx => List.mem_of_mem_take hx
          have mB : ∀ x ∈ ds.drop (a + 1), x ∈ ds := fun x hx => List.mem_of_mem_drop hx
          have lt : (ds.take a).length ≤ 20000 := by simp; omega
          have lB : (ds.drop (a + 1)).length ≤ 20000 := by simp; omega
          have s1 : slP (.tuple ds) none (some (a : Int)) = some (.tuple (ds.take a)) := by rw [q_sl_t, cut_takeF]
          have s2 : slP (.tuple ds) (some ((a : Int) + 1)) none = some (.tuple (ds.drop (a + 1))) := by rw [q_sl_t, cut_from]
          have ad : ∀ {p q : List PD}, p.length + q.length ≤ 100000 → addP (.tuple p) (.tuple q) = some (.tuple (p ++ q)) := fun {p q} hp => by
            simp -implicitDefEqProofs
            simp [grd]
            omega
          have cutE := msrs_cut ha
          rw [← hv] at cutE ax
          obtain ⟨A, hA⟩ : ∃ A, A = ds.take a := ⟨_, rfl⟩
          obtain ⟨B, hB⟩ : ∃ B, B = ds.drop (a + 1) := ⟨_, rfl⟩
          rw [← hA] at s1 mt lt cutE
          rw [← hB] at s2 mB lB cutE
          have g2 : ∀ y, addP (.tuple A) (.tuple [y]) = some (.tuple (A ++ [y])) := fun y => ad (by simp; omega)
          have g4 : ∀ y, addP (.tuple (A ++ [y])) (.tuple B) = some (.tuple (A ++ [y] ++ B)) := fun y => ad (by simp; omega)
          have vd := dpx v vm
          have e1 : D - 1 = (deep : Int) := by omega
          simp -implicitDefEqProofs [s1, ax, e1]
          refine ih fuel (by omega) (b := b) (c := c + 1 + 1) (n := msr v) (k := v.depth) rfl d2 (by omega) ⟨hh v vm, Nat.le_refl _, Nat.le_refl _⟩ b0 b1 (by have := msrs_mem vm; omega) fun y cs4 hy d4 => ?_
          have ym := hy.m
          have yp := hy.p
          simp -implicitDefEqProofs [g2, s2, g4, -q_add_t, -q_sl_t]
          refine hq _ cs4 (Bn.tup (k := k + 1) (fun x hx => ?_) (by rw [msrs_app, msrs]; omega) fun x hx => ?_) (d4.mono (by omega))
          · rcases List.mem_append.mp hx with z | z
            · exact (hh x (mt x z)).mono (by omega)
            · rcases List.mem_cons.mp z with z | z
              · rw [z]; exact hy.q
              · exact (hh x (mB x z)).mono (by omega)
          · rcases List.mem_append.mp hx with z | z
            · have := dpx x (mt x z); omega
            · rcases List.mem_cons.mp z with z | z
              · rw [z]; omega
              · have := dpx x (mB x z); omega
end Fn

namespace Fn
open PySem PySem.Spec PyProof.Rows L2 Uv
section
variable {W : Web} {k n h : Nat} {x : PD} {o : List Nat}
theorem nats_inj {a b : List Nat} (e : natsD a = natsD b) : a = b := by
  have e : a.map natD = b.map natD := PyData.tuple.inj e
  exact (List.map_inj_right fun i j h => by have h : (i : Int) = (j : Int) := PyData.int.inj h; omega).mp e
theorem ordQ_eq {own : List Nat} : ordQ own x = ordB own x := by
  have e1 : isI1 = isI0 := by funext d; cases d <;> rfl
  have e2 : toI1 = toI := by funext d; cases d <;> rfl
  cases x with
  | tuple ds => show (ds.all isI1 && (sortI (ds.map toI1) == _)) = (ds.all isI0 && _); rw [e1, e2]
  | _ => rfl
theorem k_like0 (hw : IsWeb W) (hh : h < W.gives.length) (io : F_is_order [x, .list ((atR W.roads 0 h).map natD)] = some (.bool (ordB (atR W.roads 0 h) x))) : (∃ o : List Nat, x = natsD o ∧ o.Perm (atR W.roads 0 h) ∧ ordB (atR W.roads 0 h) x = true ∧ F_with_like_c [webD W, natD h, x, .bool true] = some (webD ⟨W.roads, W.gives.set h o, W.takes⟩)) ∨ (ordB (atR W.roads 0 h) x = false ∧ F_with_like_c [webD W, natD h, x, .bool true] = some (exzD 5 [])) := by
  have hs := hw.same
  have h8 := hw.houses
  have pa := hw.giv hh
  have so := q_sortP pa (atR_sorted W.roads 0 h)
  have ga := tup_giv hw hh
  obtain ⟨R, hR⟩ : ∃ R, R = PyData.tuple (W.roads.map roadD) := ⟨_, rfl⟩
  obtain ⟨T, hT⟩ : ∃ T, T = PyData.tuple (W.takes.map natsD) := ⟨_, rfl⟩
  have hw' : webD W = .tuple [R, .tuple (W.gives.map natsD), T] := by rw [hR, hT]; rfl
  have e2 : ∀ x : PD, F_exchanged [.tuple [R, .tuple (W.gives.map natsD), T], .int 1, x] = some (.tuple [R, x, T]) := fun x => p_exchanged (k := 1) (by simp) (by show 3 ≤ 1000; decide)
  have op : F_order_place [.bool true] = some (.int 1) := by
    refine eq_of_wp ?_
    unfold F_order_place
    refine wp_runP rfl ?_
    unfold X_order_place
    simp -implicitDefEqProofs
  have at1 : atI [R, PyData.tuple (W.gives.map natsD), T] 1 = some (.tuple (W.gives.map natsD)) := rfl
  cases q : ordB (atR W.roads 0 h) x with
  | true =>
    obtain ⟨o, rfl, p⟩ := ordB_perm q
    have e1 : F_exchanged [.tuple (W.gives.map natsD), natD h, natsD o] = some (.tuple ((W.gives.map natsD).set h (natsD o))) := p_exchanged (by simpa using hh) (by simp; omega)
    refine .inl ⟨o, rfl, p, rfl, ?_⟩
    refine eq_of_wp ?_
    unfold F_with_like_c
    refine wp_runP rfl ?_
    unfold X_with_like_c
    rw [hw']
    rw [q] at io
    simp -implicitDefEqProofs [op, at1, ga, so, io, e1, e2]
    rw [hR, hT, set_data]
    rfl
  | false =>
    refine .inr ⟨rfl, ?_⟩
    refine eq_of_wp ?_
    unfold F_with_like_c
    refine wp_runP rfl ?_
    unfold X_with_like_c
    rw [hw']
    rw [q] at io
    simp -implicitDefEqProofs [op, at1, ga, so, io]
theorem k_like1 (hw : IsWeb W) (hh : h < W.gives.length) (io : F_is_order [x, .list ((atR W.roads 1 h).map natD)] = some (.bool (ordB (atR W.roads 1 h) x))) : (∃ o : List Nat, x = natsD o ∧ o.Perm (atR W.roads 1 h) ∧ ordB (atR W.roads 1 h) x = true ∧ F_with_like_c [webD W, natD h, x, .bool false] = some (webD ⟨W.roads, W.gives, W.takes.set h o⟩)) ∨ (ordB (atR W.roads 1 h) x = false ∧ F_with_like_c [webD W, natD h, x, .bool false] = some (exzD 5 [])) := by
  have hs := hw.same
  have h8 := hw.houses
  have pa := hw.tak hh
  have so := q_sortP pa (atR_sorted W.roads 1 h)
  have ga := tup_tak hw hh
  obtain ⟨R, hR⟩ : ∃ R, R = PyData.tuple (W.roads.map roadD) := ⟨_, rfl⟩
  obtain ⟨T, hT⟩ : ∃ T, T = PyData.tuple (W.gives.map natsD) := ⟨_, rfl⟩
  have hw' : webD W = .tuple [R, T, .tuple (W.takes.map natsD)] := by rw [hR, hT]; rfl
  have e2 : ∀ x : PD, F_exchanged [.tuple [R, T, .tuple (W.takes.map natsD)], .int 2, x] = some (.tuple [R, T, x]) := fun x => p_exchanged (k := 2) (by simp) (by show 3 ≤ 1000; decide)
  have op : F_order_place [.bool false] = some (.int 2) := by
    refine eq_of_wp ?_
    unfold F_order_place
    refine wp_runP rfl ?_
    unfold X_order_place
    simp -implicitDefEqProofs
  have at1 : atI [R, T, PyData.tuple (W.takes.map natsD)] 2 = some (.tuple (W.takes.map natsD)) := rfl
  cases q : ordB (atR W.roads 1 h) x with
  | true =>
    obtain ⟨o, rfl, p⟩ := ordB_perm q
    have e1 : F_exchanged [.tuple (W.takes.map natsD), natD h, natsD o] = some (.tuple ((W.takes.map natsD).set h (natsD o))) := p_exchanged (by rw [List.length_map]; omega) (by simp; omega)
    refine .inl ⟨o, rfl, p, rfl, ?_⟩
    refine eq_of_wp ?_
    unfold F_with_like_c
    refine wp_runP rfl ?_
    unfold X_with_like_c
    rw [hw']
    rw [q] at io
    simp -implicitDefEqProofs [op, at1, ga, so, io, e1, e2]
    rw [hR, hT, set_data]
    rfl
  | false =>
    refine .inr ⟨rfl, ?_⟩
    refine eq_of_wp ?_
    unfold F_with_like_c
    refine wp_runP rfl ?_
    unfold X_with_like_c
    rw [hw']
    rw [q] at io
    simp -implicitDefEqProofs [op, at1, ga, so, io]
theorem k_likeG (hw : IsWeb W) (hh : h < W.gives.length) (p : o.Perm (giv W h)) : F_with_like_c [webD W, natD h, natsD o, .bool true] = some (webD ⟨W.roads, W.gives.set h o, W.takes⟩) := by
  have pa := hw.giv hh
  have gh : giv W h ∈ W.gives := by unfold giv; rw [List.getD_eq_getElem?_getD, List.getElem?_eq_getElem hh]; exact List.getElem_mem hh
  have ol := (web_olen hw).1 _ gh
  have pl := p.length_eq
  have ob := ordB_of (p.trans pa) (atR_sorted W.roads 0 h)
  have io := p_is_order (p.trans pa) (atR_sorted W.roads 0 h) (by omega)
  rcases k_like0 hw hh (x := natsD o) (by rw [io, ob]) with ⟨o', e, _, _, q⟩ | ⟨q, _⟩
  · rw [q, nats_inj e]
  · rw [ob] at q; cases q
theorem k_likeT (hw : IsWeb W) (hh : h < W.gives.length) (p : o.Perm (tak W h)) : F_with_like_c [webD W, natD h, natsD o, .bool false] = some (webD ⟨W.roads, W.gives, W.takes.set h o⟩) := by
  have hs := hw.same
  have pa := hw.tak hh
  have ht : h < W.takes.length := by omega
  have gh : tak W h ∈ W.takes := by unfold tak; rw [List.getD_eq_getElem?_getD, List.getElem?_eq_getElem ht]; exact List.getElem_mem ht
  have ol := (web_olen hw).2 _ gh
  have pl := p.length_eq
  have ob := ordB_of (p.trans pa) (atR_sorted W.roads 1 h)
  have io := p_is_order (p.trans pa) (atR_sorted W.roads 1 h) (by omega)
  rcases k_like1 hw hh (x := natsD o) (by rw [io, ob]) with ⟨o', e, _, _, q⟩ | ⟨q, _⟩
  · rw [q, nats_inj e]
  · rw [ob] at q; cases q
theorem k_without (hw : IsWeb W) (hk : k < W.roads.length) (h1 : 1 < W.roads.length) : F_without_d [webD W, natD k] = some (webD (cutW W k)) := by
  have hc := hw.count
  have hh := hw.houses
  have hs := hw.same
  have ol := web_olen hw
  have orders : ∀ os : List (List Nat), (∀ o ∈ os, o.length ≤ 1000) → os.length ≤ 1000 → F_orders_without [.tuple (os.map natsD), natD k] = some (.tuple ((os.map (cutO k)).map natsD)) := by
    intro os h hl
    refine eq_of_wp ?_
    unfold F_orders_without
    refine wp_runP rfl ?_
    unfold X_orders_without
    simp -implicitDefEqProofs
    refine ⟨by omega, wp_lcT (fun o => natsD (cutO k o)) (fun o ho => ?_) ?_⟩
    · have := h o ho
      simp -implicitDefEqProofs
      refine ⟨by omega, wp_lc (fun x => !(x == k)) (fun x => natD (decN k x)) (fun x hx => ?_) ?_⟩
      · by_cases q : x = k
        · subst q
          simp -implicitDefEqProofs
        · have q1 : ((x : Int) == (k : Int)) = false := by simp; omega
          have q2 : (x == k) = false := by simpa using q
          by_cases q3 : k < x
          · have q4 : (k : Int) < (x : Int) := by omega
            have e : natD (decN k x) = .int ((x : Int) - 1) := by
              unfold decN
              rw [if_pos q3]
              show PyData.int ((x - 1 : Nat) : Int) = _
              congr 1
              omega
            simp -implicitDefEqProofs [q1, q2, q4, e]
          · have q4 : ¬ (k : Int) < (x : Int) := by omega
            have e : decN k x = x := by unfold decN; rw [if_neg q3]
            simp -implicitDefEqProofs [q1, q2, q4, e]
      · simp -implicitDefEqProofs
        unfold cutO natsD
        rw [List.map_map]
        rfl
    · simp -implicitDefEqProofs
  have o1 := orders W.gives ol.1 (by omega)
  have o2 := orders W.takes ol.2 (by omega)
  have c1 : Uv.cutD (W.roads.map roadD) none (some (k : Int)) = (W.roads.map roadD).take k := by
    unfold Uv.cutD
    rw [HT.sIx_nat, HT.sIx_none, Nat.min_eq_left (by simp; omega)]; simp
  have c2 : Uv.cutD (W.roads.map roadD) (some ((k : Int) + 1)) none = (W.roads.map roadD).drop (k + 1) := cut_from
  have q1 : ((W.roads.length : Int) == 1) = false := by simp; omega
  refine eq_of_wp ?_
  unfold F_without_d
  refine wp_runP rfl ?_
  unfold X_without_d
  simp -implicitDefEqProofs [q1, c1, c2, o1, o2]
  refine ⟨by omega, ?_⟩
  unfold webD cutW
  rw [← List.eraseIdx_eq_take_drop_succ, erase_map]
  simp only [List.map_map]
theorem k_without1 (hw : IsWeb W) (h1 : W.roads.length = 1) : F_without_d [webD W, natD k] = some (exzD 4 []) := by
  refine eq_of_wp ?_
  unfold F_without_d
  refine wp_runP rfl ?_
  unfold X_without_d
  have q1 : ((W.roads.length : Int) == 1) = true := by simp; omega
  simp -implicitDefEqProofs [q1]
theorem k_less1 (hw : IsWeb W) (hk : k < W.roads.length) : F_liked_less_c [webD W, natD k, .bool true] = some (webD (giveLast W k)) := by
  have rK : roadD (rd W k) = .tuple [endD (rd W k).b, endD (rd W k).e, .int (rd W k).r] := rfl
  have op : F_order_place [.bool true] = some (.int 1) := by
    refine eq_of_wp ?_
    unfold F_order_place
    refine wp_runP rfl ?_
    unfold X_order_place
    simp -implicitDefEqProofs
  refine eq_of_wp ?_
  unfold F_liked_less_c
  refine wp_runP rfl ?_
  unfold X_liked_less_c
  cases q : (rd W k).b with
  | none =>
    have eW : giveLast W k = W := by unfold giveLast; rw [q]; rfl
    rw [q] at rK
    have rK : roadD (rd W k) = .tuple [.none, endD (rd W k).e, .int (rd W k).r] := rK
    rw [eW]
    simp -implicitDefEqProofs [atI_road hk, rK]
  | some h =>
    have hh := (hw.rd hk).2.1 h q
    have eW : giveLast W k = ⟨W.roads, W.gives.set h ((giv W h).filter (fun x => !(x == k)) ++ [k]), W.takes⟩ := by unfold giveLast; rw [q]; rfl
    rw [q] at rK
    have rK : roadD (rd W k) = .tuple [natD h, endD (rd W k).e, .int (rd W k).r] := rK
    have gh : giv W h ∈ W.gives := by unfold giv; rw [List.getD_eq_getElem?_getD, List.getElem?_eq_getElem hh]; exact List.getElem_mem hh
    have ol := (web_olen hw).1 _ gh
    have nl := k_likeG hw hh (perm_last (hw.nd_giv hh) ((hw.mem_giv hh).mpr ⟨hk, q⟩))
    rw [eW]
    have fl := List.length_filter_le (fun x => !(x == k)) (giv W h)
    have a1 : addP (.tuple (((giv W h).filter (fun x => !(x == k))).map natD)) (.tuple [natD k]) = some (natsD ((giv W h).filter (fun x => !(x == k)) ++ [k])) := by
      rw [q_add_t]
      unfold natsD
      simp [grd]
      omega
    simp -implicitDefEqProofs [atI_road hk, rK, op, tup_giv hw hh]
    refine ⟨by omega, wp_lc (fun x => !(x == k)) natD (fun x hx => ?_) ?_⟩
    · simp -implicitDefEqProofs
      exact Bool.eq_iff_iff.mpr (by simp; omega)
    · simp -implicitDefEqProofs [a1, nl]
theorem k_less0 (hw : IsWeb W) (hk : k < W.roads.length) : F_liked_less_c [webD W, natD k, .bool false] = some (webD (takeLast W k)) := by
  have rK : roadD (rd W k) = .tuple [endD (rd W k).b, endD (rd W k).e, .int (rd W k).r] := rfl
  have op : F_order_place [.bool false] = some (.int 2) := by
    refine eq_of_wp ?_
    unfold F_order_place
    refine wp_runP rfl ?_
    unfold X_order_place
    simp -implicitDefEqProofs
  refine eq_of_wp ?_
  unfold F_liked_less_c
  refine wp_runP rfl ?_
  unfold X_liked_less_c
  cases q : (rd W k).e with
  | none =>
    have eW : takeLast W k = W := by unfold takeLast; rw [q]; rfl
    rw [q] at rK
    have rK : roadD (rd W k) = .tuple [endD (rd W k).b, .none, .int (rd W k).r] := rK
    rw [eW]
    simp -implicitDefEqProofs [atI_road hk, rK]
  | some h =>
    have hh := (hw.rd hk).2.2.1 h q
    have hs := hw.same
    have eW : takeLast W k = ⟨W.roads, W.gives, W.takes.set h ((tak W h).filter (fun x => !(x == k)) ++ [k])⟩ := by unfold takeLast; rw [q]; rfl
    rw [q] at rK
    have rK : roadD (rd W k) = .tuple [endD (rd W k).b, natD h, .int (rd W k).r] := rK
    have ht : h < W.takes.length := by omega
    have gh : tak W h ∈ W.takes := by unfold tak; rw [List.getD_eq_getElem?_getD, List.getElem?_eq_getElem ht]; exact List.getElem_mem ht
    have ol := (web_olen hw).2 _ gh
    have nl := k_likeT hw hh (perm_last (hw.nd_tak hh) ((hw.mem_tak hh).mpr ⟨hk, q⟩))
    rw [eW]
    have fl := List.length_filter_le (fun x => !(x == k)) (tak W h)
    have a1 : addP (.tuple (((tak W h).filter (fun x => !(x == k))).map natD)) (.tuple [natD k]) = some (natsD ((tak W h).filter (fun x => !(x == k)) ++ [k])) := by
      rw [q_add_t]
      unfold natsD
      simp [grd]
      omega
    simp -implicitDefEqProofs [atI_road hk, rK, op, tup_tak hw hh]
    refine ⟨by omega, wp_lc (fun x => !(x == k)) natD (fun x hx => ?_) ?_⟩
    · simp -implicitDefEqProofs
      exact Bool.eq_iff_iff.mpr (by simp; omega)
    · simp -implicitDefEqProofs [a1, nl]
end
end Fn

namespace Fn
open PySem PySem.Spec PyProof.Rows L2 Uv
section
variable {W : Web} {k n h : Nat} {x : PD} {o : List Nat}
theorem cut_takeK {ds : List PD} {k : Nat} (hk : k ≤ ds.length) : Uv.cutD ds none (some (k : Int)) = ds.take k := by
  unfold Uv.cutD
  rw [HT.sIx_nat, HT.sIx_none, Nat.min_eq_left hk]; simp
theorem set_parts {α : Type} {l : List α} {a : α} (h : n < l.length) : l.take n ++ [a] ++ l.drop (n + 1) = l.set n a := by
  rw [List.set_eq_take_append_cons_drop, if_pos h, List.append_assoc]
  rfl
theorem l_ord1 (hw : IsWeb W) (hh : h < W.gives.length) {d : PD} : F__law_ordered_b [webD W, natD h, d, .int 1] = some (.tuple [.tuple (W.roads.map roadD), .tuple ((W.gives.map natsD).set h d), .tuple (W.takes.map natsD)]) := by
  have h8 := hw.houses
  have c1 := cut_takeK (ds := W.gives.map natsD) (k := h) (by simp; omega)
  have c2 : Uv.cutD (W.gives.map natsD) (some ((h : Int) + 1)) none = (W.gives.map natsD).drop (h + 1) := cut_from
  have sp := set_parts (l := W.gives.map natsD) (n := h) (a := d) (by simpa using hh)
  refine eq_of_wp ?_
  unfold F__law_ordered_b
  refine wp_runP rfl ?_
  unfold X__law_ordered_b
  simp -implicitDefEqProofs [c1, c2]
  refine ⟨by omega, by omega, ?_⟩
  rw [← sp, List.append_assoc]
  rfl
theorem l_ord2 (hw : IsWeb W) (hh : h < W.gives.length) {d : PD} : F__law_ordered_b [webD W, natD h, d, .int 2] = some (.tuple [.tuple (W.roads.map roadD), .tuple (W.gives.map natsD), .tuple ((W.takes.map natsD).set h d)]) := by
  have h8 := hw.houses
  have hs := hw.same
  have c1 := cut_takeK (ds := W.takes.map natsD) (k := h) (by simp; omega)
  have c2 : Uv.cutD (W.takes.map natsD) (some ((h : Int) + 1)) none = (W.takes.map natsD).drop (h + 1) := cut_from
  have sp := set_parts (l := W.takes.map natsD) (n := h) (a := d) (by rw [List.length_map]; omega)
  refine eq_of_wp ?_
  unfold F__law_ordered_b
  refine wp_runP rfl ?_
  unfold X__law_ordered_b
  simp -implicitDefEqProofs [c1, c2]
  refine ⟨by omega, by omega, ?_⟩
  rw [← sp, List.append_assoc]
  rfl
theorem l_least1 (hw : IsWeb W) (hk : k < W.roads.length) : F__law_least_b [webD W, natD k, .int 1] = some (webD (giveLast W k)) := by
  have rK : roadD (rd W k) = .tuple [endD (rd W k).b, endD (rd W k).e, .int (rd W k).r] := rfl
  refine eq_of_wp ?_
  unfold F__law_least_b
  refine wp_runP rfl ?_
  unfold X__law_least_b
  cases q : (rd W k).b with
  | none =>
    have eW : giveLast W k = W := by unfold giveLast; rw [q]; rfl
    rw [q] at rK
    have rK : roadD (rd W k) = .tuple [.none, endD (rd W k).e, .int (rd W k).r] := rK
    rw [eW]
    simp -implicitDefEqProofs [atI_road hk, rK]
  | some h =>
    have hh := (hw.rd hk).2.1 h q
    have eW : giveLast W k = ⟨W.roads, W.gives.set h ((giv W h).filter (fun x => !(x == k)) ++ [k]), W.takes⟩ := by unfold giveLast; rw [q]; rfl
    rw [q] at rK
    have rK : roadD (rd W k) = .tuple [natD h, endD (rd W k).e, .int (rd W k).r] := rK
    have gh : giv W h ∈ W.gives := by unfold giv; rw [List.getD_eq_getElem?_getD, List.getElem?_eq_getElem hh]; exact List.getElem_mem hh
    have ol := (web_olen hw).1 _ gh
    have fl := List.length_filter_le (fun x => !(x == k)) (giv W h)
    have a1 : addP (.tuple (((giv W h).filter (fun x => !(x == k))).map natD)) (.tuple [natD k]) = some (natsD ((giv W h).filter (fun x => !(x == k)) ++ [k])) := by
      rw [q_add_t]
      unfold natsD
      simp [grd]
      omega
    have od := l_ord1 hw hh (d := natsD ((giv W h).filter (fun x => !(x == k)) ++ [k]))
    rw [eW]
    simp -implicitDefEqProofs [atI_road hk, rK, tup_giv hw hh]
    refine ⟨by omega, wp_lc (fun x => !(x == k)) natD (fun x hx => ?_) ?_⟩
    · simp -implicitDefEqProofs
      exact Bool.eq_iff_iff.mpr (by simp; omega)
    · simp -implicitDefEqProofs [a1, od]
      rw [← List.map_set]
      rfl
theorem l_least2 (hw : IsWeb W) (hk : k < W.roads.length) : F__law_least_b [webD W, natD k, .int 2] = some (webD (takeLast W k)) := by
  have rK : roadD (rd W k) = .tuple [endD (rd W k).b, endD (rd W k).e, .int (rd W k).r] := rfl
  refine eq_of_wp ?_
  unfold F__law_least_b
  refine wp_runP rfl ?_
  unfold X__law_least_b
  cases q : (rd W k).e with
  | none =>
    have eW : takeLast W k = W := by unfold takeLast; rw [q]; rfl
    rw [q] at rK
    have rK : roadD (rd W k) = .tuple [endD (rd W k).b, .none, .int (rd W k).r] := rK
    rw [eW]
    simp -implicitDefEqProofs [atI_road hk, rK]
  | some h =>
    have hh := (hw.rd hk).2.2.1 h q
    have hs := hw.same
    have eW : takeLast W k = ⟨W.roads, W.gives, W.takes.set h ((tak W h).filter (fun x => !(x == k)) ++ [k])⟩ := by unfold takeLast; rw [q]; rfl
    rw [q] at rK
    have rK : roadD (rd W k) = .tuple [endD (rd W k).b, natD h, .int (rd W k).r] := rK
    have ht : h < W.takes.length := by omega
    have gh : tak W h ∈ W.takes := by unfold tak; rw [List.getD_eq_getElem?_getD, List.getElem?_eq_getElem ht]; exact List.getElem_mem ht
    have ol := (web_olen hw).2 _ gh
    have fl := List.length_filter_le (fun x => !(x == k)) (tak W h)
    have a1 : addP (.tuple (((tak W h).filter (fun x => !(x == k))).map natD)) (.tuple [natD k]) = some (natsD ((tak W h).filter (fun x => !(x == k)) ++ [k])) := by
      rw [q_add_t]
      unfold natsD
      simp [grd]
      omega
    have od := l_ord2 hw hh (d := natsD ((tak W h).filter (fun x => !(x == k)) ++ [k]))
    rw [eW]
    simp -implicitDefEqProofs [atI_road hk, rK, tup_tak hw hh]
    refine ⟨by omega, wp_lc (fun x => !(x == k)) natD (fun x hx => ?_) ?_⟩
    · simp -implicitDefEqProofs
      exact Bool.eq_iff_iff.mpr (by simp; omega)
    · simp -implicitDefEqProofs [a1, od]
      rw [← List.map_set]
      rfl
theorem l_wout1 (hw : IsWeb W) (h1 : W.roads.length = 1) : F__law_without_b [webD W, natD k] = some (.list [.str "no roads"]) := by
  refine eq_of_wp ?_
  unfold F__law_without_b
  refine wp_runP rfl ?_
  unfold X__law_without_b
  have q1 : ((W.roads.length : Int) == 1) = true := by simp; omega
  simp -implicitDefEqProofs [q1]
theorem l_wout (hw : IsWeb W) (hk : k < W.roads.length) (h1 : 1 < W.roads.length) : F__law_without_b [webD W, natD k] = some (webD (cutW W k)) := by
  have hc := hw.count
  have hh := hw.houses
  have hs := hw.same
  have ol := web_olen hw
  have c1 := cut_takeK (ds := W.roads.map roadD) (k := k) (by simp; omega)
  have c2 : Uv.cutD (W.roads.map roadD) (some ((k : Int) + 1)) none = (W.roads.map roadD).drop (k + 1) := cut_from
  have q1 : ((W.roads.length : Int) == 1) = false := by simp; omega
  have inner : ∀ (o : List Nat), o.length ≤ 1000 → ∀ (v : VE) (Q : List PD → Prop), v.length = 6 → v[1]? = some (some (natD k)) → Q ((cutO k o).map natD) → wp (lcGo (gvName 5) (xB (xOp neP (xVar 5) (xVar 1))) (xOp subP (xVar 5) (xCB (on1 toIntP) (xCons (xOp gtU (xVar 5) (xVar 1)) xNil))) v (o.map natD)) (tag Q) := by
    intro o ho v Q hv h1 hq
    obtain ⟨v0, v1, v2, v3, v4, v5, rfl⟩ : ∃ a b c d e f, v = [a, b, c, d, e, f] := by
      match v, hv with
      | [a, b, c, d, e, f], _ => exact ⟨a, b, c, d, e, f, rfl⟩
    have h1 : v1 = some (natD k) := by simpa using h1
    subst h1
    refine wp_lc (fun x => !(x == k)) (fun x => natD (decN k x)) (fun x hx => ?_) (by rw [show (o.filter fun x => !(x == k)).map (fun x => natD (decN k x)) = (cutO k o).map natD from by unfold cutO; rw [List.map_map]; rfl]; exact hq)
    by_cases q : x = k
    · subst q
      simp -implicitDefEqProofs
    · have q1 : ((x : Int) == (k : Int)) = false := by simp; omega
      have q2 : (x == k) = false := by simpa using q
      by_cases q3 : k < x
      · have q4 : (k : Int) < (x : Int) := by omega
        have e : natD (decN k x) = .int ((x : Int) - 1) := by
          unfold decN
          rw [if_pos q3]
          show PyData.int ((x - 1 : Nat) : Int) = _
          congr 1
          omega
        simp -implicitDefEqProofs [q1, q2, q4, e]
      · have q4 : ¬ (k : Int) < (x : Int) := by omega
        have e : decN k x = x := by unfold decN; rw [if_neg q3]
        simp -implicitDefEqProofs [q1, q2, q4, e]
  refine eq_of_wp ?_
  unfold F__law_without_b
  refine wp_runP rfl ?_
  unfold X__law_without_b
  simp -implicitDefEqProofs [q1]
  rw [wp_for_cons]
  unfold X__law_without_b_b1
  have step : ∀ (os : List (List Nat)), (∀ o ∈ os, o.length ≤ 1000) → ∀ (v : VE) (Q : List PD → Prop), v.length = 6 → v[1]? = some (some (natD k)) → Q ((os.map (cutO k)).map natsD) →
      wp (lcGo (gvName 4) xYes (xCB (on1 tupP) (xCons (xLc (xiE (xVar 4)) (gvName 5) (xB (xOp neP (xVar 5) (xVar 1))) (xOp subP (xVar 5) (xCB (on1 toIntP) (xCons (xOp gtU (xVar 5) (xVar 1)) xNil))) [5]) xNil)) v (os.map natsD)) (tag Q) := by
    intro os ho v Q hv h1 hq
    obtain ⟨v0, v1, v2, v3, v4, v5, rfl⟩ : ∃ a b c d e f, v = [a, b, c, d, e, f] := by
      match v, hv with
      | [a, b, c, d, e, f], _ => exact ⟨a, b, c, d, e, f, rfl⟩
    have h1 : v1 = some (natD k) := by simpa using h1
    subst h1
    refine wp_lcT (fun o => natsD (cutO k o)) (fun o hm => ?_) (by rw [List.map_map] at hq; exact hq)
    have l := ho o hm
    have cl : (cutO k o).length ≤ o.length := by unfold cutO; rw [List.length_map]; exact List.length_filter_le _ _
    simp -implicitDefEqProofs
    refine ⟨by omega, inner o l _ _ rfl rfl ?_⟩
    simp -implicitDefEqProofs
    first | done | rfl | exact ⟨by omega, rfl⟩
  simp -implicitDefEqProofs
  refine ⟨by omega, step _ ol.1 _ _ rfl rfl ?_⟩
  simp -implicitDefEqProofs
  rw [wp_for_cons]
  simp -implicitDefEqProofs
  refine ⟨by omega, step _ ol.2 _ _ rfl rfl ?_⟩
  simp -implicitDefEqProofs [wp_for_nil]
  simp -implicitDefEqProofs [c1, c2]
  refine ⟨by omega, ?_⟩
  unfold webD cutW
  rw [← List.eraseIdx_eq_take_drop_succ, erase_map]
  simp only [List.map_map]
end
end Fn

namespace Fn
open PySem PySem.Spec PyProof.Rows L2 Uv
section
variable {W : Web} {k n h : Nat} {x : PD} {o : List Nat}
theorem l_wholeK {x : PD} (hx : Uv.full x = false) {m : Int} : F__law_whole_b [x, .int m] = some (.bool (isM m x)) := by
  refine eq_of_wp ?_
  unfold F__law_whole_b
  refine wp_runP rfl ?_
  unfold X__law_whole_b
  cases x <;> simp -implicitDefEqProofs [hx, isTy, isM]
theorem neX_own {a : List Int} {own : List Nat} : neX (.list (a.map PyData.int)) (.list (own.map natD)) = some (.bool (!(a == own.map fun (n : Nat) => (n : Int)))) := by
  cases own with
  | nil => rw [List.map_nil, neX_l]; cases a <;> rfl
  | cons j own =>
    show neP _ (.list ((j :: own).map natD)) = _
    rw [nat_ints, neP_lay lay_ints lay_ints]
    show some (PyData.bool (!PyData.eqvAll _ _)) = _
    rw [eqv_ints]
def likD (W : Web) (s h : Nat) (x : PD) : PD := if ordB (atR W.roads s h) x then (if s = 0 then .tuple [.tuple (W.roads.map roadD), .tuple ((W.gives.map natsD).set h x), .tuple (W.takes.map natsD)] else .tuple [.tuple (W.roads.map roadD), .tuple (W.gives.map natsD), .tuple ((W.takes.map natsD).set h x)]) else .list [.str "bad order"]
theorem l_liking1 (hw : IsWeb W) (hh : h < W.gives.length) (t : Tq x) : F__law_liking_b [webD W, natD h, x, .int 1] = some (likD W 0 h x) := by
  have hc := hw.count
  have hl : ∀ j ∈ atR W.roads 0 h, j ≤ 20 := fun j hj => by have := atR_lt hj; omega
  have so := q_sortP (hw.giv hh) (atR_sorted W.roads 0 h)
  have ga := tup_giv hw hh
  refine eq_of_wp ?_
  unfold F__law_liking_b
  refine wp_runP rfl ?_
  unfold X__law_liking_b
  cases x with
  | tuple ds =>
    have dl := t.len
    have dm := t.mem
    have eo : ordB (atR W.roads 0 h) (.tuple ds) = (ds.all isI0 && (sortI (ds.map toI) == (atR W.roads 0 h).map fun (n : Nat) => (n : Int))) := rfl
    simp -implicitDefEqProofs [isTy]
    rw [show lcGo _ _ _ _ ds = lcGo _ _ _ _ (ds.map id) from by rw [List.map_id]]
    refine ⟨by omega, wp_lc (fun x => !isM 20 x) id (fun x hx => ?_) ?_⟩
    · simp -implicitDefEqProofs [l_wholeK (dm x hx).full]
    rw [List.map_id]
    cases q : ds.all (isM 20) with
    | false =>
      have ne : (ds.filter fun x => !isM 20 x).isEmpty = false := by
        rw [← Bool.not_eq_true, List.isEmpty_iff, List.filter_eq_nil_iff]
        intro z
        rw [← Bool.not_eq_true, List.all_eq_true] at q
        exact q fun x hx => by simpa using z x hx
      have b : ordB (atR W.roads 0 h) (.tuple ds) = false := by
        rw [← Bool.not_eq_true]
        intro z
        rw [← Bool.not_eq_true, List.all_eq_true] at q
        exact q (ord_le hl z)
      simp -implicitDefEqProofs [neX_l, ne, likD, b]
    | true =>
      have ne : (ds.filter fun x => !isM 20 x).isEmpty = true := by
        rw [List.isEmpty_iff, List.filter_eq_nil_iff]
        intro x hx
        rw [List.all_eq_true.mp q x hx]
        simp
      have qi : ds.all isI0 = true := List.all_eq_true.mpr fun x hx => isM_I0 (List.all_eq_true.mp q x hx)
      have sx : sortP (.tuple ds) = some (.list ((sortI (ds.map toI)).map PyData.int)) := by
        conv => lhs; rw [i0_map qi]
        exact sort_ints
      have od := l_ord1 hw hh (d := .tuple ds)
      cases q2 : (sortI (ds.map toI) == (atR W.roads 0 h).map fun (n : Nat) => (n : Int)) with
      | true =>
        have b : ordB (atR W.roads 0 h) (.tuple ds) = true := by rw [eo, qi, q2]; rfl
        simp -implicitDefEqProofs [neX_l, ne, sx, ga, so, neX_own, q2, od, likD, b]
      | false =>
        have b : ordB (atR W.roads 0 h) (.tuple ds) = false := by rw [eo, qi, q2]; rfl
        simp -implicitDefEqProofs [neX_l, ne, sx, ga, so, neX_own, q2, od, likD, b]
  | dict l => simp -implicitDefEqProofs [isTy, t.full]; rfl
  | _ => simp -implicitDefEqProofs [isTy]; rfl
theorem l_liking2 (hw : IsWeb W) (hh : h < W.gives.length) (t : Tq x) : F__law_liking_b [webD W, natD h, x, .int 2] = some (likD W 1 h x) := by
  have hc := hw.count
  have hl : ∀ j ∈ atR W.roads 1 h, j ≤ 20 := fun j hj => by have := atR_lt hj; omega
  have so := q_sortP (hw.tak hh) (atR_sorted W.roads 1 h)
  have ga := tup_tak hw hh
  refine eq_of_wp ?_
  unfold F__law_liking_b
  refine wp_runP rfl ?_
  unfold X__law_liking_b
  cases x with
  | tuple ds =>
    have dl := t.len
    have dm := t.mem
    have eo : ordB (atR W.roads 1 h) (.tuple ds) = (ds.all isI0 && (sortI (ds.map toI) == (atR W.roads 1 h).map fun (n : Nat) => (n : Int))) := rfl
    simp -implicitDefEqProofs [isTy]
    rw [show lcGo _ _ _ _ ds = lcGo _ _ _ _ (ds.map id) from by rw [List.map_id]]
    refine ⟨by omega, wp_lc (fun x => !isM 20 x) id (fun x hx => ?_) ?_⟩
    · simp -implicitDefEqProofs [l_wholeK (dm x hx).full]
    rw [List.map_id]
    cases q : ds.all (isM 20) with
    | false =>
      have ne : (ds.filter fun x => !isM 20 x).isEmpty = false := by
        rw [← Bool.not_eq_true, List.isEmpty_iff, List.filter_eq_nil_iff]
        intro z
        rw [← Bool.not_eq_true, List.all_eq_true] at q
        exact q fun x hx => by simpa using z x hx
      have b : ordB (atR W.roads 1 h) (.tuple ds) = false := by
        rw [← Bool.not_eq_true]
        intro z
        rw [← Bool.not_eq_true, List.all_eq_true] at q
        exact q (ord_le hl z)
      simp -implicitDefEqProofs [neX_l, ne, likD, b]
    | true =>
      have ne : (ds.filter fun x => !isM 20 x).isEmpty = true := by
        rw [List.isEmpty_iff, List.filter_eq_nil_iff]
        intro x hx
        rw [List.all_eq_true.mp q x hx]
        simp
      have qi : ds.all isI0 = true := List.all_eq_true.mpr fun x hx => isM_I0 (List.all_eq_true.mp q x hx)
      have sx : sortP (.tuple ds) = some (.list ((sortI (ds.map toI)).map PyData.int)) := by
        conv => lhs; rw [i0_map qi]
        exact sort_ints
      have od := l_ord2 hw hh (d := .tuple ds)
      cases q2 : (sortI (ds.map toI) == (atR W.roads 1 h).map fun (n : Nat) => (n : Int)) with
      | true =>
        have b : ordB (atR W.roads 1 h) (.tuple ds) = true := by rw [eo, qi, q2]; rfl
        simp -implicitDefEqProofs [neX_l, ne, sx, ga, so, neX_own, q2, od, likD, b]
      | false =>
        have b : ordB (atR W.roads 1 h) (.tuple ds) = false := by rw [eo, qi, q2]; rfl
        simp -implicitDefEqProofs [neX_l, ne, sx, ga, so, neX_own, q2, od, likD, b]
  | dict l => simp -implicitDefEqProofs [isTy, t.full]; rfl
  | _ => simp -implicitDefEqProofs [isTy]; rfl
@[simp] theorem q_sTryAl {ρ : Uv.Env} {em : Nat → Option Bool} {i j : Nat} {tab : Nat → Option Str} {x : XS} : sTryAl em i j tab x ρ = (x ρ).bind (alO em i j tab) := (rfl)
@[simp] theorem q_alO_nxt {ρ : Uv.Env} {em : Nat → Option Bool} {i j : Nat} {tab : Nat → Option Str} : alO em i j tab (.nxt ρ) = some (.nxt ρ) := (rfl)
theorem alO_4 {a b c : Sl} : alO em_k61_WebError 3 2 tab_k61 (.ret (exzD 4 []) [a, b, c, .un]) = some (.nxt [a, b, .dat (.list [.str "no roads"]), .un]) := by kernel_rfl
theorem alO_5 {a b c : Sl} : alO em_k61_WebError 3 2 tab_k61 (.ret (exzD 5 []) [a, b, c, .un]) = some (.nxt [a, b, .dat (.list [.str "bad order"]), .un]) := by kernel_rfl
theorem e_ww : eqP (.str "without") (.str "without") = some (.bool true) := by kernel_rfl
theorem e_lw : eqP (.str "less") (.str "without") = some (.bool false) := by kernel_rfl
theorem e_ll : eqP (.str "less") (.str "less") = some (.bool true) := by kernel_rfl
theorem e_aw : eqP (.str "less at") (.str "without") = some (.bool false) := by kernel_rfl
theorem e_al : eqP (.str "less at") (.str "less") = some (.bool false) := by kernel_rfl
theorem e_aa : eqP (.str "less at") (.str "less at") = some (.bool true) := by kernel_rfl
theorem e_kw : eqP (.str "like") (.str "without") = some (.bool false) := by kernel_rfl
theorem e_kl : eqP (.str "like") (.str "less") = some (.bool false) := by kernel_rfl
theorem e_ka : eqP (.str "like") (.str "less at") = some (.bool false) := by kernel_rfl
theorem e_kk : eqP (.str "like") (.str "like") = some (.bool true) := by kernel_rfl
theorem e_tw : eqP (.str "like at") (.str "without") = some (.bool false) := by kernel_rfl
theorem e_tl : eqP (.str "like at") (.str "less") = some (.bool false) := by kernel_rfl
theorem e_ta : eqP (.str "like at") (.str "less at") = some (.bool false) := by kernel_rfl
theorem e_tk : eqP (.str "like at") (.str "like") = some (.bool false) := by kernel_rfl
def wouD (W : Web) (k : Nat) : PD := if W.roads.length = 1 then .list [.str "no roads"] else webD (cutW W k)
theorem l_wou (hw : IsWeb W) (hk : k < W.roads.length) : F__law_without_b [webD W, natD k] = some (wouD W k) := by
  unfold wouD
  split
  · exact l_wout1 hw ‹_›
  · exact l_wout hw hk (by omega)
theorem t_wou (hw : IsWeb W) (hk : k < W.roads.length) : F__law_told_v [webD W, .tuple [.str "without", natD k]] = some (wouD W k) := by
  refine eq_of_wp ?_
  unfold F__law_told_v
  refine wp_runP rfl ?_
  unfold X__law_told_v
  by_cases c : W.roads.length = 1
  · have e : wouD W k = .list [.str "no roads"] := by unfold wouD; rw [if_pos c]
    simp -implicitDefEqProofs [e_ww, k_without1 hw c, alO_4, e]
  · have e : wouD W k = webD (cutW W k) := by unfold wouD; rw [if_neg c]
    have e2 : webD (cutW W k) = .tuple [.tuple ((cutW W k).roads.map roadD), .tuple ((cutW W k).gives.map natsD), .tuple ((cutW W k).takes.map natsD)] := rfl
    rw [e]
    have kw := k_without hw hk (by omega)
    rw [e2] at kw ⊢
    simp -implicitDefEqProofs [e_ww, kw]
theorem t_less (hw : IsWeb W) (hk : k < W.roads.length) : F__law_told_v [webD W, .tuple [.str "less", natD k]] = some (webD (giveLast W k)) := by
  refine eq_of_wp ?_
  unfold F__law_told_v
  refine wp_runP rfl ?_
  unfold X__law_told_v
  have kw := k_less1 hw hk
  have e2 : webD (giveLast W k) = .tuple [.tuple ((giveLast W k).roads.map roadD), .tuple ((giveLast W k).gives.map natsD), .tuple ((giveLast W k).takes.map natsD)] := rfl
  rw [e2] at kw ⊢
  simp -implicitDefEqProofs [e_lw, e_ll, kw]
theorem t_less1 (hw : IsWeb W) (hk : k < W.roads.length) : F__law_told_v [webD W, .tuple [.str "less at", natD k, .int 1]] = some (webD (giveLast W k)) := by
  refine eq_of_wp ?_
  unfold F__law_told_v
  refine wp_runP rfl ?_
  unfold X__law_told_v
  have kw := k_less1 hw hk
  have e2 : webD (giveLast W k) = .tuple [.tuple ((giveLast W k).roads.map roadD), .tuple ((giveLast W k).gives.map natsD), .tuple ((giveLast W k).takes.map natsD)] := rfl
  rw [e2] at kw ⊢
  simp -implicitDefEqProofs [e_aw, e_al, e_aa, kw]
theorem t_less2 (hw : IsWeb W) (hk : k < W.roads.length) : F__law_told_v [webD W, .tuple [.str "less at", natD k, .int 2]] = some (webD (takeLast W k)) := by
  refine eq_of_wp ?_
  unfold F__law_told_v
  refine wp_runP rfl ?_
  unfold X__law_told_v
  have kw := k_less0 hw hk
  have e2 : webD (takeLast W k) = .tuple [.tuple ((takeLast W k).roads.map roadD), .tuple ((takeLast W k).gives.map natsD), .tuple ((takeLast W k).takes.map natsD)] := rfl
  rw [e2] at kw ⊢
  simp -implicitDefEqProofs [e_aw, e_al, e_aa, kw]
end
end Fn

namespace Fn
open PySem PySem.Spec PyProof.Rows L2 Uv
section
variable {W : Web} {k n h : Nat} {x d w c : PD} {o : List Nat}
theorem t_like (hw : IsWeb W) (hh : h < W.gives.length) (t : Tq x) : F__law_told_v [webD W, .tuple [.str "like", natD h, x]] = some (likD W 0 h x) := by
  have io := p_order1 (own := atR W.roads 0 h) t
  rw [ordQ_eq] at io
  refine eq_of_wp ?_
  unfold F__law_told_v
  refine wp_runP rfl ?_
  unfold X__law_told_v
  rcases k_like0 hw hh io with ⟨o, rfl, _, b, kw⟩ | ⟨b, kw⟩
  · have e : likD W 0 h (natsD o) = .tuple [.tuple (W.roads.map roadD), .tuple ((W.gives.set h o).map natsD), .tuple (W.takes.map natsD)] := by
      unfold likD
      rw [if_pos b, if_pos rfl, set_data]
    rw [e]
    have kw : F_with_like_c [webD W, natD h, natsD o, .bool true] = some (.tuple [.tuple (W.roads.map roadD), .tuple ((W.gives.set h o).map natsD), .tuple (W.takes.map natsD)]) := kw
    simp -implicitDefEqProofs [e_kw, e_kl, e_ka, e_kk, kw]
  · have e : likD W 0 h x = .list [.str "bad order"] := by
      unfold likD
      rw [b]
      rfl
    simp -implicitDefEqProofs [e_kw, e_kl, e_ka, e_kk, kw, alO_5, e]
theorem t_likeAt1 (hw : IsWeb W) (hh : h < W.gives.length) (t : Tq x) : F__law_told_v [webD W, .tuple [.str "like at", natD h, x, .int 1]] = some (likD W 0 h x) := by
  have io := p_order1 (own := atR W.roads 0 h) t
  rw [ordQ_eq] at io
  refine eq_of_wp ?_
  unfold F__law_told_v
  refine wp_runP rfl ?_
  unfold X__law_told_v
  rcases k_like0 hw hh io with ⟨o, rfl, _, b, kw⟩ | ⟨b, kw⟩
  · have e : likD W 0 h (natsD o) = .tuple [.tuple (W.roads.map roadD), .tuple ((W.gives.set h o).map natsD), .tuple (W.takes.map natsD)] := by
      unfold likD
      rw [if_pos b, if_pos rfl, set_data]
    rw [e]
    have kw : F_with_like_c [webD W, natD h, natsD o, .bool true] = some (.tuple [.tuple (W.roads.map roadD), .tuple ((W.gives.set h o).map natsD), .tuple (W.takes.map natsD)]) := kw
    simp -implicitDefEqProofs [e_tw, e_tl, e_ta, e_tk, kw]
  · have e : likD W 0 h x = .list [.str "bad order"] := by
      unfold likD
      rw [b]
      rfl
    simp -implicitDefEqProofs [e_tw, e_tl, e_ta, e_tk, kw, alO_5, e]
theorem t_likeAt2 (hw : IsWeb W) (hh : h < W.gives.length) (t : Tq x) : F__law_told_v [webD W, .tuple [.str "like at", natD h, x, .int 2]] = some (likD W 1 h x) := by
  have io := p_order1 (own := atR W.roads 1 h) t
  rw [ordQ_eq] at io
  refine eq_of_wp ?_
  unfold F__law_told_v
  refine wp_runP rfl ?_
  unfold X__law_told_v
  rcases k_like1 hw hh io with ⟨o, rfl, _, b, kw⟩ | ⟨b, kw⟩
  · have e : likD W 1 h (natsD o) = .tuple [.tuple (W.roads.map roadD), .tuple (W.gives.map natsD), .tuple ((W.takes.set h o).map natsD)] := by
      unfold likD
      rw [if_pos b, if_neg (by decide), set_data]
    rw [e]
    have kw : F_with_like_c [webD W, natD h, natsD o, .bool false] = some (.tuple [.tuple (W.roads.map roadD), .tuple (W.gives.map natsD), .tuple ((W.takes.set h o).map natsD)]) := kw
    simp -implicitDefEqProofs [e_tw, e_tl, e_ta, e_tk, kw]
  · have e : likD W 1 h x = .list [.str "bad order"] := by
      unfold likD
      rw [b]
      rfl
    simp -implicitDefEqProofs [e_tw, e_tl, e_ta, e_tk, kw, alO_5, e]
theorem sho_webK (hw : IsWeb W) : Sho 3 20778 (webD W) := by
  have hc := hw.count
  have hh := hw.houses
  have hm := hw.same
  refine Sho.tup (k := 2) (n := 6923) (L := 3) (fun d hd => ?_) (by simp)
  simp only [List.mem_cons, List.not_mem_nil, or_false] at hd
  rcases hd with rfl | rfl | rfl
  · refine (Sho.tup (k := 1) (n := 132) (L := 20) (fun d hd => ?_) (by simpa using hc.2)).mono (by decide) (by decide)
    obtain ⟨x, hx, rfl⟩ := List.mem_map.mp hd
    exact sho_road (hw.road x hx) (by omega)
  · refine sho_orders hh.2 fun l hl => ?_
    obtain ⟨k, hk⟩ := List.getElem?_of_mem hl
    obtain ⟨h1, h2⟩ := List.getElem?_eq_some_iff.mp hk
    exact ⟨by rw [← h2]; exact give_len hw h1, fun j hj => by have := atR_lt ((hw.give k l hk).mem_iff.mp hj); omega⟩
  · refine sho_orders (by omega) fun l hl => ?_
    obtain ⟨k, hk⟩ := List.getElem?_of_mem hl
    obtain ⟨h1, h2⟩ := List.getElem?_eq_some_iff.mp hk
    exact ⟨by rw [← h2]; exact take_len hw h1, fun j hj => by have := atR_lt ((hw.take k l hk).mem_iff.mp hj); omega⟩
structure Lg (d : PD) : Prop where
  t : Tq d
  s : Sho 50 150000 d
theorem Bn.lg {b n k : Nat} {d : PD} (h : Bn b n k d) (hb : b < 10 ^ 40) (hn : n ≤ 150000) (hk : k ≤ 50) : Lg d := ⟨⟨⟨b, h.q⟩, by have := h.m; omega⟩, (h.q.sho hb).mono (by have := h.p; omega) (by have := h.m; omega)⟩
theorem msrs_leK {c : Nat} : ∀ {ds : List PD}, (∀ x ∈ ds, msr x ≤ c) → msrs ds ≤ ds.length * (c + 2)
  | [], _ => by simp [msrs]
  | x :: ds, h => by
    have h1 := h x (List.mem_cons_self ..)
    have h2 := msrs_leK fun y hy => h y (List.mem_cons_of_mem _ hy)
    rw [msrs, List.length_cons, Nat.succ_mul]
    omega
theorem bn_nats {l : List Nat} (h20 : l.length ≤ 20) (lt : ∀ j ∈ l, j ≤ 1000) : Bn (10 ^ 29) 1000 1 (natsD l) := by
  have m1 := msrs_leK (c := 41) (ds := l.map natD) fun x hx => by
    obtain ⟨y, _, rfl⟩ := List.mem_map.mp hx
    show msr (.int _) ≤ 41
    simp [msr]
  rw [List.length_map] at m1
  refine Bn.tup (k := 0) (fun x hx => ?_) (by omega) fun x hx => ?_
  · obtain ⟨j, hj, rfl⟩ := List.mem_map.mp hx
    have := lt j hj
    exact .int (by
      show (j : Int).natAbs ≤ _
      have : (1000 : Nat) ≤ 10 ^ 29 := by decide
      omega)
  · obtain ⟨j, hj, rfl⟩ := List.mem_map.mp hx
    exact Nat.le_refl 0
theorem sho_word {z : Str} (ok : lfB (.str z) = true) : Sho 50 150000 (.str z) := (Lf.of ok).sho.mono (by decide) (by decide)
theorem sho_i {i : Int} (h : i.natAbs < 10 ^ 40) : Sho 50 150000 (.int i) := (Sho.int (k := 50) h).mono (by decide) (by decide)
theorem sho_call {cs : List PD} (hl : cs.length ≤ 4) (h : ∀ d ∈ cs, Sho 50 150000 d) : Sho 51 700000 (.tuple cs) := (Sho.tup (k := 50) (n := 150000) (L := 4) h hl).mono (by decide) (by decide)
theorem sho_both (hw : IsWeb W) (hc : Sho 51 700000 c) : Sho 60 10000000 (.list [webD W, c]) := (Sho.lst (k := 51) (n := 700000) (L := 2) (fun d hd => by
  simp only [List.mem_cons, List.not_mem_nil, or_false] at hd
  rcases hd with rfl | rfl
  · exact (sho_webK hw).mono (by decide) (by decide)
  · exact hc) (by simp)).mono (by decide) (by decide)
theorem sho_l1 {z : Str} (ok : lfB (.str z) = true) : Sho 60 10000000 (.list [.str z]) := (Sho.lst (k := 1) (n := 60) (L := 1) (fun d hd => by
  rw [List.mem_singleton.mp hd]
  exact (Lf.of ok).sho) (by simp)).mono (by decide) (by decide)
theorem sho_webL (hw : IsWeb W) : Sho 60 10000000 (webD W) := (sho_webK hw).mono (by decide) (by decide)
theorem sho_wou (hw : IsWeb W) (hk : k < W.roads.length) : Sho 60 10000000 (wouD W k) := by
  have hc := hw.count
  unfold wouD
  split
  · exact sho_l1 (by decide +kernel)
  · exact sho_webL (web_cut hw hk (by omega))
theorem sho_lik1 (hw : IsWeb W) : Sho 60 10000000 (likD W 0 h x) := by
  unfold likD
  split
  · rename_i b
    obtain ⟨o, rfl, p⟩ := ordB_perm b
    rw [if_pos rfl, set_data]
    exact sho_webL (web_like0 hw p)
  · exact sho_l1 (by decide +kernel)
theorem sho_lik2 (hw : IsWeb W) : Sho 60 10000000 (likD W 1 h x) := by
  unfold likD
  split
  · rename_i b
    obtain ⟨o, rfl, p⟩ := ordB_perm b
    rw [if_neg (by decide), set_data]
    exact sho_webL (web_like1 hw p)
  · exact sho_l1 (by decide +kernel)
theorem r_right (s1 : Sho 60 10000000 (.list [w, c])) (s2 : Sho 60 10000000 d) (ht : F__law_told_v [w, c] = some d) : F__law_right_z43 [w, c, d] = some (.bool true) := by
  have r1 := rp_of s1
  have r2 := rp_of s2
  have n1 := ne_shown s1
  have n2 := ne_shown s2
  refine eq_of_wp ?_
  unfold F__law_right_z43
  refine wp_runP rfl ?_
  unfold X__law_right_z43
  simp -implicitDefEqProofs [r1]
  refine wp_forR (n := 2) (fun i ρ => ∃ (z : Sl), ρ = [.dat w, .dat c, .dat d, .dat (.str (PyData.shown (.list [w, c]))), z]) ⟨_, rfl⟩ ?_ ?_
  · rintro i hi ρ ⟨z, rfl⟩
    unfold X__law_right_z43_b1
    simp -implicitDefEqProofs [ht, r1, r2, n1, n2]
    first | done | exact ⟨_, rfl⟩
  · rintro ρ ⟨z, rfl⟩
    simp -implicitDefEqProofs
theorem e_oneT {α : Type} {enc : α → PD} {l : List α} {b : Nat} {cs : List Cel} {Q : PD × List Cel → Prop} (h : DkE b cs) (hb : b ≤ 2 ^ 40) (h0 : l ≠ []) (h1 : l.length ≤ 1000000) (hq : ∀ x ∈ l, ∀ cs', DkE (b + 1) cs' → Q (enc x, cs')) : wp (F__law_one_b cs [.tuple (l.map enc)]) (tag Q) := by
  have : 0 < l.length := List.length_pos_iff.mpr h0
  unfold F__law_one_b
  refine wp_runW rfl ?_
  unfold X__law_one_b
  simp -implicitDefEqProofs
  refine e_next h hb (by omega) (by omega) fun r cs' hr d => ?_
  have hr : r < l.length := by omega
  simp -implicitDefEqProofs [atI_map hr]
  exact hq _ (List.getElem_mem hr) _ d
theorem e_orderT {b : Nat} {cs : List Cel} {ns : List Nat} {Q : PD × List Cel → Prop} (h : DkE b cs) (hb : b + ns.length ≤ 2 ^ 40) (hl : ns.length ≤ 1000) (hq : ∀ (es : List Nat) cs', es.Perm ns → DkE (b + ns.length) cs' → Q (natsD es, cs')) : wp (F__law_order_d cs [natsD ns]) (tag Q) := by
  unfold F__law_order_d
  refine wp_runW rfl ?_
  unfold X__law_order_d
  unfold natsD
  simp -implicitDefEqProofs
  refine wp_while (fun k ρ => ∃ (cs : List Cel) (left found : List Nat), ρ = [.own cs, .dat (.tuple (ns.map natD)), .own (dats (left.map natD)), .own (dats (found.map natD))] ∧ left.length = k ∧ (found ++ left).Perm ns ∧ DkE (b + (ns.length - k)) cs) (@fuel_lt kk0 _ (show ns.length < 100000 by omega)) ⟨cs, ns, [], rfl, rfl, .refl _, by simpa using h⟩ ?_
  rintro k ρ ⟨cs, left, found, rfl, e2, p, d⟩
  have ll := p.length_eq
  rw [List.length_append] at ll
  simp -implicitDefEqProofs [ne_nilN]
  refine ⟨fun z => ?_, fun z => ?_⟩
  · subst z
    exact hq _ _ (by simpa using p) (by simpa [← e2] using d)
  · have : left.length ≠ 0 := fun z' => z (List.length_eq_zero_iff.mp z')
    unfold X__law_order_d_b1
    simp -implicitDefEqProofs
    refine e_next d (by omega) (by omega) (by omega) fun r cs' hr d' => ?_
    have hr : r < left.length := by omega
    simp -implicitDefEqProofs [ixN_nat' hr, datAt_map hr, erase_map]
    refine ⟨in63e_nat (by omega), by omega, ⟨k - 1, by omega, cs', left.eraseIdx r, found ++ [left[r]], by simp, ?_, ?_, d'.mono (by omega)⟩⟩
    · rw [List.length_eraseIdx, if_pos hr]; omega
    · rw [List.append_assoc]
      exact (List.Perm.append_left found (erase_perm hr)).trans p
end
end Fn

namespace Fn
open PySem PySem.Spec PyProof.Rows L2 Uv
section
variable {W : Web} {k n h : Nat} {x d w c : PD} {o : List Nat}
theorem q_ix0 {a b c d e : Sl} {x y z : PD} : wIxO 4 (wM (xC (.int 0))) [a, b, c, d, .own [.dat x, .dat y, .dat z], e] = some (x, [a, b, c, d, .own [.dat x, .dat y, .dat z], e]) := by kernel_rfl
theorem q_ix3 {a b c d e : Sl} {x y z t : PD} : wIxO 4 (wM (xC (.int 3))) [a, b, c, d, .own [.dat x, .dat y, .dat z, .dat t], e] = some (t, [a, b, c, d, .own [.dat x, .dat y, .dat z, .dat t], e]) := by kernel_rfl
theorem nat40 {j : Nat} (h : j ≤ 1000) : Sho 50 150000 (natD j) := sho_i (by
  show (j : Int).natAbs < _
  have : (1000 : Nat) < 10 ^ 40 := by decide
  omega)
theorem g_roadK {b : Nat} {cs : List Cel} {Q : PD × List Cel → Prop} (hw : IsWeb W) (hk : k < W.roads.length) (h : DkE b cs) (hb : b ≤ 2 ^ 40) (hq : ∀ cs', DkE (b + 1) cs' → Q (.bool true, cs')) : wp (F__law_road_right_c cs [webD W, natD k]) (tag Q) := by
  have hc := hw.count
  have sk := nat40 (j := k) (by omega)
  have s1 : Sho 60 10000000 (.list [webD W, .tuple [.str "without", natD k]]) := sho_both hw (sho_call (by simp) fun d hd => by
    simp only [List.mem_cons, List.not_mem_nil, or_false] at hd
    rcases hd with rfl | rfl
    · exact sho_word (by decide +kernel)
    · exact sk)
  have s2 : Sho 60 10000000 (.list [webD W, .tuple [.str "less", natD k]]) := sho_both hw (sho_call (by simp) fun d hd => by
    simp only [List.mem_cons, List.not_mem_nil, or_false] at hd
    rcases hd with rfl | rfl
    · exact sho_word (by decide +kernel)
    · exact sk)
  have s3 : ∀ i : Int, i.natAbs < 10 ^ 40 → Sho 60 10000000 (.list [webD W, .tuple [.str "less at", natD k, .int i]]) := fun i hi => sho_both hw (sho_call (by simp) fun d hd => by
    simp only [List.mem_cons, List.not_mem_nil, or_false] at hd
    rcases hd with rfl | rfl | rfl
    · exact sho_word (by decide +kernel)
    · exact sk
    · exact sho_i hi)
  have g1 := sho_webL (web_giveLast hw hk)
  have g2 := sho_webL (web_takeLast hw hk)
  have r1 := r_right s1 (sho_wou hw hk) (t_wou hw hk)
  have r2 := r_right s2 g1 (t_less hw hk)
  have r3 := r_right (s3 1 (by decide)) g1 (t_less1 hw hk)
  have r4 := r_right (s3 2 (by decide)) g2 (t_less2 hw hk)
  unfold F__law_road_right_c
  refine wp_runW rfl ?_
  unfold X__law_road_right_c
  simp -implicitDefEqProofs
  refine e_next h hb (by omega) (by omega) fun r cs1 hr d1 => ?_
  have hr : r = 0 ∨ r = 1 := by omega
  rcases hr with rfl | rfl
  · simp -implicitDefEqProofs [l_wou hw hk, l_least1 hw hk, r1, r2, r3]
    exact hq _ d1
  · simp -implicitDefEqProofs [l_wou hw hk, l_least1 hw hk, l_least2 hw hk, r1, r2, r4]
    exact hq _ d1
theorem g_houseK {b : Nat} {cs : List Cel} {Q : PD × List Cel → Prop} (hw : IsWeb W) (hh : h < W.gives.length) (hd : DkE b cs) (hb : b + 200 ≤ 2 ^ 40) (hq : ∀ cs', DkE (b + 200) cs' → Q (.bool true, cs')) : wp (F__law_house_right_d cs [webD W, natD h]) (tag Q) := by
  have hc := hw.count
  have h8 := hw.houses
  have hs := hw.same
  have p29 : (10 : Nat) ^ 29 + 5 < 10 ^ 30 := by decide
  have p40 : (10 : Nat) ^ 30 < 10 ^ 40 := by decide
  have sh := nat40 (j := h) (by omega)
  have s1 : ∀ {x : PD}, Lg x → Sho 60 10000000 (.list [webD W, .tuple [.str "like", natD h, x]]) := fun l => sho_both hw (sho_call (by simp) fun d hd => by
    simp only [List.mem_cons, List.not_mem_nil, or_false] at hd
    rcases hd with rfl | rfl | rfl
    · exact sho_word (by decide +kernel)
    · exact sh
    · exact l.s)
  have s2 : ∀ {x : PD} (i : Int), i.natAbs < 10 ^ 40 → Lg x → Sho 60 10000000 (.list [webD W, .tuple [.str "like at", natD h, x, .int i]]) := fun i hi l => sho_both hw (sho_call (by simp) fun d hd => by
    simp only [List.mem_cons, List.not_mem_nil, or_false] at hd
    rcases hd with rfl | rfl | rfl | rfl
    · exact sho_word (by decide +kernel)
    · exact sh
    · exact l.s
    · exact sho_i hi)
  have r0 : ∀ {x : PD}, Lg x → F__law_right_z43 [webD W, .tuple [.str "like", natD h, x], likD W 0 h x] = some (.bool true) := fun l => r_right (s1 l) (sho_lik1 hw) (t_like hw hh l.t)
  have r1 : ∀ {x : PD}, Lg x → F__law_right_z43 [webD W, .tuple [.str "like at", natD h, x, .int 1], likD W 0 h x] = some (.bool true) := fun l => r_right (s2 1 (by decide) l) (sho_lik1 hw) (t_likeAt1 hw hh l.t)
  have r2 : ∀ {x : PD}, Lg x → F__law_right_z43 [webD W, .tuple [.str "like at", natD h, x, .int 2], likD W 1 h x] = some (.bool true) := fun l => r_right (s2 2 (by decide) l) (sho_lik2 hw) (t_likeAt2 hw hh l.t)
  have bG : ∀ o ∈ W.gives, Bn (10 ^ 29) 1000 1 (natsD o) := fun o ho => by
    obtain ⟨k, hk⟩ := List.getElem?_of_mem ho
    obtain ⟨q1, q2⟩ := List.getElem?_eq_some_iff.mp hk
    exact bn_nats (by rw [← q2]; exact give_len hw q1) fun j hj => by have := atR_lt ((hw.give k o hk).mem_iff.mp hj); omega
  have bT : ∀ o ∈ W.takes, Bn (10 ^ 29) 1000 1 (natsD o) := fun o ho => by
    obtain ⟨k, hk⟩ := List.getElem?_of_mem ho
    obtain ⟨q1, q2⟩ := List.getElem?_eq_some_iff.mp hk
    exact bn_nats (by rw [← q2]; exact take_len hw q1) fun j hj => by have := atR_lt ((hw.take k o hk).mem_iff.mp hj); omega
  have ht : h < W.takes.length := by omega
  have mg : giv W h ∈ W.gives := by unfold giv; rw [List.getD_eq_getElem?_getD, List.getElem?_eq_getElem hh]; exact List.getElem_mem hh
  have mt : tak W h ∈ W.takes := by unfold tak; rw [List.getD_eq_getElem?_getD, List.getElem?_eq_getElem ht]; exact List.getElem_mem ht
  have lg : (giv W h).length ≤ 20 := by
    obtain ⟨k, hk⟩ := List.getElem?_of_mem mg
    obtain ⟨q1, q2⟩ := List.getElem?_eq_some_iff.mp hk
    rw [← q2]; exact give_len hw q1
  have lt : (tak W h).length ≤ 20 := by
    obtain ⟨k, hk⟩ := List.getElem?_of_mem mt
    obtain ⟨q1, q2⟩ := List.getElem?_eq_some_iff.mp hk
    rw [← q2]; exact take_len hw q1
  unfold F__law_house_right_d
  refine wp_runW rfl ?_
  unfold X__law_house_right_d
  simp -implicitDefEqProofs
  refine e_next hd (by omega) (by omega) (by omega) fun r cs1 hr d1 => ?_
  have hr : r = 0 ∨ r = 1 := by omega
  rcases hr with rfl | rfl
  · simp -implicitDefEqProofs [tup_giv hw hh]
    refine e_orderT d1 (by omega) (by omega) fun es cs2 pe d2 => ?_
    have be : Bn (10 ^ 29) 1000 1 (natsD es) := bn_nats (by rw [pe.length_eq]; exact lg) fun j hj => by have := atR_lt ((hw.giv hh).mem_iff.mp (pe.mem_iff.mp hj)); omega
    simp -implicitDefEqProofs
    refine e_oneT d2 (by omega) (fun z => by rw [z] at mg; exact nomatch mg) (by omega) fun o1 ho1 cs3 d3 => ?_
    have bo := bG o1 ho1
    simp -implicitDefEqProofs
    refine e_odd d3 (by omega) fun od cs4 bd d4 => ?_
    simp -implicitDefEqProofs [q_ix0]
    refine e_bent 1 9 (by omega) (D := 1) rfl d4 (by omega) be (by omega) (by omega) (by omega) fun t1 cs5 b1 d5 => ?_
    simp -implicitDefEqProofs [q_ix3]
    refine e_bent 1 9 (by omega) (D := 1) rfl d5 (by omega) b1 (by omega) (by omega) (by omega) fun t2 cs6 b2 d6 => ?_
    have le := be.lg (by omega) (by omega) (by omega)
    have al : ∀ x ∈ [natsD es, natsD o1, od, t1, t2], Lg x := fun x hx => by
      simp only [List.mem_cons, List.not_mem_nil, or_false] at hx
      rcases hx with rfl | rfl | rfl | rfl | rfl
      · exact le
      · exact bo.lg (by omega) (by omega) (by omega)
      · exact bd.lg (by omega) (by omega) (by omega)
      · exact b1.lg (by omega) (by omega) (by omega)
      · exact b2.lg (by omega) (by omega) (by omega)
    simp -implicitDefEqProofs
    refine wp_for (fun i ρ => ∃ z : Sl, ρ = [.own cs6, .dat (webD W), .dat (natD h), .dat (.int 1), .dat (.list [natsD es, natsD o1, od, t1, t2]), z]) ⟨_, rfl⟩ (fun i hi ρ hI => ?_) (fun ρ hI => ?_)
    · obtain ⟨z, rfl⟩ := hI
      have lx := al _ (List.getElem_mem hi)
      obtain ⟨x, hx⟩ : ∃ x, x = [natsD es, natsD o1, od, t1, t2][i] := ⟨_, rfl⟩
      rw [← hx] at lx ⊢
      unfold X__law_house_right_d_b1
      simp -implicitDefEqProofs [l_liking1 hw hh lx.t, r1 lx]
      first | done | exact ⟨_, rfl⟩
    · obtain ⟨z, rfl⟩ := hI
      have ai : ixP (.list [natsD es, natsD o1, od, t1, t2]) (.int 0) = some (natsD es) := rfl
      simp -implicitDefEqProofs [ai, l_liking1 hw hh le.t, r0 le]
      exact hq _ (d6.mono (by omega))
  · simp -implicitDefEqProofs [tup_tak hw hh]
    refine e_orderT d1 (by omega) (by omega) fun es cs2 pe d2 => ?_
    have be : Bn (10 ^ 29) 1000 1 (natsD es) := bn_nats (by rw [pe.length_eq]; exact lt) fun j hj => by have := atR_lt ((hw.tak hh).mem_iff.mp (pe.mem_iff.mp hj)); omega
    simp -implicitDefEqProofs
    refine e_oneT d2 (by omega) (fun z => by rw [z] at mt; exact nomatch mt) (by omega) fun o1 ho1 cs3 d3 => ?_
    have bo := bT o1 ho1
    simp -implicitDefEqProofs
    refine e_odd d3 (by omega) fun od cs4 bd d4 => ?_
    simp -implicitDefEqProofs [q_ix0]
    refine e_bent 1 9 (by omega) (D := 1) rfl d4 (by omega) be (by omega) (by omega) (by omega) fun t1 cs5 b1 d5 => ?_
    simp -implicitDefEqProofs [q_ix3]
    refine e_bent 1 9 (by omega) (D := 1) rfl d5 (by omega) b1 (by omega) (by omega) (by omega) fun t2 cs6 b2 d6 => ?_
    have le := be.lg (by omega) (by omega) (by omega)
    have al : ∀ x ∈ [natsD es, natsD o1, od, t1, t2], Lg x := fun x hx => by
      simp only [List.mem_cons, List.not_mem_nil, or_false] at hx
      rcases hx with rfl | rfl | rfl | rfl | rfl
      · exact le
      · exact bo.lg (by omega) (by omega) (by omega)
      · exact bd.lg (by omega) (by omega) (by omega)
      · exact b1.lg (by omega) (by omega) (by omega)
      · exact b2.lg (by omega) (by omega) (by omega)
    simp -implicitDefEqProofs
    refine wp_for (fun i ρ => ∃ z : Sl, ρ = [.own cs6, .dat (webD W), .dat (natD h), .dat (.int 2), .dat (.list [natsD es, natsD o1, od, t1, t2]), z]) ⟨_, rfl⟩ (fun i hi ρ hI => ?_) (fun ρ hI => ?_)
    · obtain ⟨z, rfl⟩ := hI
      have lx := al _ (List.getElem_mem hi)
      obtain ⟨x, hx⟩ : ∃ x, x = [natsD es, natsD o1, od, t1, t2][i] := ⟨_, rfl⟩
      rw [← hx] at lx ⊢
      unfold X__law_house_right_d_b1
      simp -implicitDefEqProofs [l_liking2 hw hh lx.t, r2 lx]
      first | done | exact ⟨_, rfl⟩
    · obtain ⟨z, rfl⟩ := hI
      have ai : ixP (.list [natsD es, natsD o1, od, t1, t2]) (.int 0) = some (natsD es) := rfl
      simp -implicitDefEqProofs [ai, l_liking1 hw hh le.t, r0 le]
      exact hq _ (d6.mono (by omega))
end
end Fn

namespace Fn
open PySem PySem.Spec PyProof.Rows L2 Uv
theorem k61 (ns : List Int) (h : ns.length ≤ 63) : F_law_z199 [scrD (ns.map PyData.int)] = some (.bool true) := by
  refine eq_of_wp ?_
  unfold F_law_z199
  refine wp_runP rfl ?_
  unfold X_law_z199
  simp -implicitDefEqProofs
  refine e_deck h fun cs d => ?_
  simp -implicitDefEqProofs
  refine wp_forR (n := 3) (fun k ρ => ∃ (cs : List Cel) (z2 z3 z4 : Sl), ρ = [.dat (scrD (ns.map PyData.int)), .own cs, z2, z3, z4] ∧ DkE (10000 * k) cs) ⟨cs, _, _, _, rfl, d⟩ ?_ ?_
  · rintro k hk ρ ⟨cs, z2, z3, z4, rfl, d⟩
    refine wp_of (show gName' 2 (natD k) [.dat (scrD (ns.map PyData.int)), .own cs, z2, z3, z4] = some [.dat (scrD (ns.map PyData.int)), .own cs, .dat (natD k), z3, z4] from rfl) ?_
    unfold X_law_z199_b2
    simp -implicitDefEqProofs
    refine e_web (most := 3) (many := 6) d (by omega) (by omega) (by omega) (by omega) (by omega) fun W1 cs1 hw1 _ _ _ d1 => ?_
    simp -implicitDefEqProofs
    refine e_wide d1 (by omega) fun W2 cs2 hw2 d2 => ?_
    simp -implicitDefEqProofs
    refine e_web (most := 2) (many := 1) d2 (by omega) (by omega) (by omega) (by omega) (by omega) fun W3 cs3 hw3 _ _ _ d3 => ?_
    simp -implicitDefEqProofs
    refine e_next d3 (by omega) (by omega) (by omega) fun r cs4 hr d4 => ?_
    obtain ⟨W, hw, ix⟩ : ∃ W, IsWeb W ∧ atI [webD W1, webD W2, webD W3] ((r : Nat) : Int) = some (webD W) := by
      have : r = 0 ∨ r = 1 ∨ r = 2 := by omega
      rcases this with rfl | rfl | rfl
      · exact ⟨W1, hw1, rfl⟩
      · exact ⟨W2, hw2, rfl⟩
      · exact ⟨W3, hw3, rfl⟩
    have hc := hw.count
    have h8 := hw.houses
    simp -implicitDefEqProofs [ix]
    refine wp_forR (n := 4) (fun i ρ => ∃ (cs : List Cel) (z4 : Sl), ρ = [.dat (scrD (ns.map PyData.int)), .own cs, .dat (natD k), .dat (webD W), z4] ∧ DkE (10000 * k + 3001 + 500 * i) cs) ⟨cs4, _, rfl, d4.mono (by omega)⟩ ?_ ?_
    · rintro i hi ρ ⟨cs, z4, rfl, d⟩
      refine wp_of (show gName' 4 (natD i) [.dat (scrD (ns.map PyData.int)), .own cs, .dat (natD k), .dat (webD W), z4] = some [.dat (scrD (ns.map PyData.int)), .own cs, .dat (natD k), .dat (webD W), .dat (natD i)] from rfl) ?_
      unfold X_law_z199_b1
      simp -implicitDefEqProofs
      refine e_next d (by omega) (by omega) (by omega) fun a cs5 ha d5 => ?_
      simp -implicitDefEqProofs
      refine g_roadK hw (k := a) (by omega) d5 (by omega) fun cs6 d6 => ?_
      simp -implicitDefEqProofs
      refine e_next d6 (by omega) (by omega) (by omega) fun b cs7 hb d7 => ?_
      simp -implicitDefEqProofs
      refine g_houseK hw (h := b) (by omega) d7 (by omega) fun cs8 d8 => ?_
      simp -implicitDefEqProofs
      exact ⟨cs8, _, rfl, d8.mono (by omega)⟩
    · rintro ρ ⟨cs, z4, rfl, d⟩
      simp -implicitDefEqProofs
      exact ⟨cs, _, _, _, rfl, d.mono (by omega)⟩
  · rintro ρ ⟨cs, z2, z3, z4, rfl, d⟩
    simp -implicitDefEqProofs
end Fn



namespace Row
open PySem PySem.Spec PyProof.Rows L2 Uv Fn Hed
abbrev N__law_deck : List Str := ["_law_script", "_law_cell"]
theorem sc__law_deck : FnScope N__law_deck ["_law_script"] (defScope s__law_deck) := ⟨rfl, rfl, rfl, by decide +kernel, rfl, by decide +kernel, by decide +kernel⟩
abbrev N__law_mixed : List Str := ["_law_cell", "_law_turn"]
theorem sc__law_mixed : FnScope N__law_mixed ["_law_cell", "_law_turn"] (defScope s__law_mixed) := ⟨rfl, rfl, rfl, by decide +kernel, rfl, by decide +kernel, by decide +kernel⟩
abbrev N__law_next : List Str := ["_law_deck_here", "_law_many", "_law_cell", "_law_digit", "_law_number"]
theorem sc__law_next : FnScope N__law_next ["_law_deck_here", "_law_many"] (defScope s__law_next) := ⟨rfl, rfl, rfl, by decide +kernel, rfl, by decide +kernel, by decide +kernel⟩
abbrev N__law_odd : List Str := ["_law_deck_here", "_law_some"]
theorem sc__law_odd : FnScope N__law_odd ["_law_deck_here"] (defScope s__law_odd) := ⟨rfl, rfl, rfl, by decide +kernel, rfl, by decide +kernel, by decide +kernel⟩
abbrev N__law_bent : List Str := ["_law_deck_here", "_law_thing", "_law_deep", "_law_at"]
theorem sc__law_bent : FnScope N__law_bent ["_law_deck_here", "_law_thing", "_law_deep"] (defScope s__law_bent) := ⟨rfl, rfl, rfl, by decide +kernel, rfl, by decide +kernel, by decide +kernel⟩
abbrev N__law_ordered : List Str := ["_law_web_here", "_law_house", "_law_order_here", "_law_side", "_law_some"]
theorem sc__law_ordered : FnScope N__law_ordered ["_law_web_here", "_law_house", "_law_order_here", "_law_side"] (defScope s__law_ordered) := ⟨rfl, rfl, rfl, by decide +kernel, rfl, by decide +kernel, by decide +kernel⟩
abbrev N__law_whole : List Str := ["_law_thing", "_law_most"]
theorem sc__law_whole : FnScope N__law_whole ["_law_thing", "_law_most"] (defScope s__law_whole) := ⟨rfl, rfl, rfl, by decide +kernel, rfl, by decide +kernel, by decide +kernel⟩
abbrev N__law_liking : List Str := ["_law_web_here", "_law_house", "_law_order_here", "_law_side", "_law_k"]
theorem sc__law_liking : FnScope N__law_liking ["_law_web_here", "_law_house", "_law_order_here", "_law_side"] (defScope s__law_liking) := ⟨rfl, rfl, rfl, by decide +kernel, rfl, by decide +kernel, by decide +kernel⟩
abbrev N__law_one : List Str := ["_law_deck_here", "_law_things"]
theorem sc__law_one : FnScope N__law_one ["_law_deck_here", "_law_things"] (defScope s__law_one) := ⟨rfl, rfl, rfl, by decide +kernel, rfl, by decide +kernel, by decide +kernel⟩
abbrev N__law_order : List Str := ["_law_deck_here", "_law_some", "_law_left", "_law_found"]
theorem sc__law_order : FnScope N__law_order ["_law_deck_here", "_law_some"] (defScope s__law_order) := ⟨rfl, rfl, rfl, by decide +kernel, rfl, by decide +kernel, by decide +kernel⟩
abbrev N__law_alone : List Str := ["_law_e", "_law_kinds", "_law_good", "_law_one_here"]
theorem sc__law_alone : FnScope N__law_alone ["_law_e"] (defScope s__law_alone) := ⟨rfl, rfl, rfl, by decide +kernel, rfl, by decide +kernel, by decide +kernel⟩
abbrev N_order_place : List Str := ["giving"]
theorem sc_order_place : FnScope N_order_place ["giving"] (defScope s_order_place) := ⟨rfl, rfl, rfl, by decide +kernel, rfl, by decide +kernel, by decide +kernel⟩
abbrev N_exchanged : List Str := ["things", "at", "thing"]
theorem sc_exchanged : FnScope N_exchanged ["things", "at", "thing"] (defScope s_exchanged) := ⟨rfl, rfl, rfl, by decide +kernel, rfl, by decide +kernel, by decide +kernel⟩
abbrev N_is_number : List Str := ["thing"]
theorem sc_is_number : FnScope N_is_number ["thing"] (defScope s_is_number) := ⟨rfl, rfl, rfl, by decide +kernel, rfl, by decide +kernel, by decide +kernel⟩
abbrev N_is_order : List Str := ["thing", "numbers", "number"]
theorem sc_is_order : FnScope N_is_order ["thing", "numbers"] (defScope s_is_order) := ⟨rfl, rfl, rfl, by decide +kernel, rfl, by decide +kernel, by decide +kernel⟩
abbrev N_with_like : List Str := ["web", "house", "order", "giving", "place", "orders"]
theorem sc_with_like : FnScope N_with_like ["web", "house", "order", "giving"] (defScope s_with_like) := ⟨rfl, rfl, rfl, by decide +kernel, rfl, by decide +kernel, by decide +kernel⟩
abbrev N_liked_less : List Str := ["web", "road", "giving", "house", "order", "least", "number"]
theorem sc_liked_less : FnScope N_liked_less ["web", "road", "giving"] (defScope s_liked_less) := ⟨rfl, rfl, rfl, by decide +kernel, rfl, by decide +kernel, by decide +kernel⟩
abbrev N_orders_without : List Str := ["orders", "road", "order", "number"]
theorem sc_orders_without : FnScope N_orders_without ["orders", "road"] (defScope s_orders_without) := ⟨rfl, rfl, rfl, by decide +kernel, rfl, by decide +kernel, by decide +kernel⟩
abbrev N_without : List Str := ["web", "road", "roads", "gives", "takes"]
theorem sc_without : FnScope N_without ["web", "road"] (defScope s_without) := ⟨rfl, rfl, rfl, by decide +kernel, rfl, by decide +kernel, by decide +kernel⟩
abbrev N__law_told : List Str := ["_law_web_here", "_law_call", "_law_found", "_law_e"]
theorem sc__law_told : FnScope N__law_told ["_law_web_here", "_law_call"] (defScope s__law_told) := ⟨rfl, rfl, rfl, by decide +kernel, rfl, by decide +kernel, by decide +kernel⟩
abbrev N__law_right : List Str := ["_law_web_here", "_law_call", "_law_due", "_law_kept", "_law_again"]
theorem sc__law_right : FnScope N__law_right ["_law_web_here", "_law_call", "_law_due"] (defScope s__law_right) := ⟨rfl, rfl, rfl, by decide +kernel, rfl, by decide +kernel, by decide +kernel⟩
abbrev N__law_house_right : List Str := ["_law_deck_here", "_law_web_here", "_law_house", "_law_side", "_law_orders", "_law_order_here"]
theorem sc__law_house_right : FnScope N__law_house_right ["_law_deck_here", "_law_web_here", "_law_house"] (defScope s__law_house_right) := ⟨rfl, rfl, rfl, by decide +kernel, rfl, by decide +kernel, by decide +kernel⟩
abbrev N__law_least : List Str := ["_law_web_here", "_law_road", "_law_side", "_law_house", "_law_k"]
theorem sc__law_least : FnScope N__law_least ["_law_web_here", "_law_road", "_law_side"] (defScope s__law_least) := ⟨rfl, rfl, rfl, by decide +kernel, rfl, by decide +kernel, by decide +kernel⟩
abbrev N__law_without : List Str := ["_law_web_here", "_law_road", "_law_sides", "_law_side", "_law_order_here", "_law_k"]
theorem sc__law_without : FnScope N__law_without ["_law_web_here", "_law_road"] (defScope s__law_without) := ⟨rfl, rfl, rfl, by decide +kernel, rfl, by decide +kernel, by decide +kernel⟩
abbrev N__law_road_right : List Str := ["_law_deck_here", "_law_web_here", "_law_road", "_law_side"]
theorem sc__law_road_right : FnScope N__law_road_right ["_law_deck_here", "_law_web_here", "_law_road"] (defScope s__law_road_right) := ⟨rfl, rfl, rfl, by decide +kernel, rfl, by decide +kernel, by decide +kernel⟩
abbrev N__law_web : List Str := ["_law_deck_here", "_law_most", "_law_many", "_law_kind", "_law_houses", "_law_roads", "_law_k", "_law_spots", "_law_begin", "_law_gives", "_law_takes", "_law_house", "_law_row"]
theorem sc__law_web : FnScope N__law_web ["_law_deck_here", "_law_most", "_law_many"] (defScope s__law_web) := ⟨rfl, rfl, rfl, by decide +kernel, rfl, by decide +kernel, by decide +kernel⟩
abbrev N__law_wide : List Str := ["_law_deck_here", "_law_houses", "_law_roads", "_law_k", "_law_spots", "_law_begin", "_law_room", "_law_gives", "_law_takes", "_law_house"]
theorem sc__law_wide : FnScope N__law_wide ["_law_deck_here"] (defScope s__law_wide) := ⟨rfl, rfl, rfl, by decide +kernel, rfl, by decide +kernel, by decide +kernel⟩
abbrev N_law : List Str := ["_law_script", "_law_deck_here", "_law_turn", "_law_web_here", "_law_k"]
theorem sc_law : FnScope N_law ["_law_script"] (defScope s_law) := ⟨rfl, rfl, rfl, by decide +kernel, rfl, by decide +kernel, by decide +kernel⟩
structure Bm (mg : Str → Option Value) : Prop where
  n_ValueError : mg "ValueError" = none
  n_abs : mg "abs" = none
  n_all : mg "all" = none
  n_bool : mg "bool" = none
  n_int : mg "int" = none
  n_isinstance : mg "isinstance" = none
  n_len : mg "len" = none
  n_list : mg "list" = none
  n_max : mg "max" = none
  n_range : mg "range" = none
  n_repr : mg "repr" = none
  n_sorted : mg "sorted" = none
  n_sum : mg "sum" = none
  n_tuple : mg "tuple" = none
section
variable [kk : KK] {P : Program} {w : World} {mg : Str → Option Value} {base : Heap} {cA : Nat → Addr} {dA : Addr}
structure HR (P : Program) (w : World) (mg : Str → Option Value) (base : Heap) (cA : Nat → Addr) : Prop where
  z : True
theorem eq_F__law_deck_f : F__law_deck_f = runD 1 1 X__law_deck_f := by unfold F__law_deck_f; rfl
theorem c__law_deck (F : Dfn K mg "_law_deck" s__law_deck ["_law_script"]) (B : Bm mg) : CalG P w K mg base 1 "_law_deck" (spD F__law_deck_f) := by
  rw [eq_F__law_deck_f]
  refine cal_g F sc__law_deck (fun vs H Q E h => len_D h) (fun f cdv A outer s H E hG hr => ⟨T__law_deck_f, ?_, fun vs Q h => go_D (n := 1) (k := 1) (ss__law_deck_f) rfl h⟩)
  unfold T__law_deck_f
  exact pss_one (ps_ret (pe_lst (pa_cons (pe_lc (own := [("_law_cell", 1)]) rfl sc__law_deck.nd (PI.or (pi_list (pe_slice sl_U (pv 0) po_none (po_some pe_int))) (pi_tup (pe_slice sl_U (pv 0) po_none (po_some pe_int)))) (blkOk_by (N := N__law_deck) (sc := defScope s__law_deck) (by decide +kernel)) (fun _ _ _ _ _ => (pg_name (i := 1) sc__law_deck.nd rfl (.inl rfl))) (fun _ _ _ _ _ => pts_nil) (fun _ _ _ _ _ => pe_callB call_abs (by rfl) B.n_abs (by decide +kernel) (pa_cons (pv 1) pa_nil))) (pa_cons pe_int (pa_cons pe_int (pa_cons pe_int pa_nil))))))
theorem eq_F__law_mixed_b : F__law_mixed_b = runP 2 0 X__law_mixed_b := by unfold F__law_mixed_b; rfl
theorem c__law_mixed (F : Dfn K mg "_law_mixed" s__law_mixed ["_law_cell", "_law_turn"]) (B : Bm mg) : CalG P w K mg base 1 "_law_mixed" (spF F__law_mixed_b) := by
  rw [eq_F__law_mixed_b]
  refine cal_g F sc__law_mixed (fun vs H Q E h => len_F h) (fun f cdv A outer s H E hG hr => ⟨T__law_mixed_b, ?_, fun vs Q h => go_P (n := 2) (k := 0) (ss__law_mixed_b) rfl h⟩)
  unfold T__law_mixed_b
  exact pss_one (ps_ret (pe_op op_fdivW (pe_op op_mod (pe_op op_pow (pe_op op_addU (pe_op op_addU (pe_op op_mod (pv 0) pe_int) (pe_op op_mulV (pv 1) pe_int)) pe_int) pe_int) pe_int) pe_int))
theorem eq_F__law_next_c : F__law_next_c = runW 1 3 X__law_next_c := by unfold F__law_next_c; rfl
theorem c__law_next (F : Dfn K mg "_law_next" s__law_next ["_law_deck_here", "_law_many"]) (B : Bm mg) (c__law_mixed : CalG P w K mg base 1 "_law_mixed" (spF F__law_mixed_b)) : CalG P w K mg base 2 "_law_next" (spW F__law_next_c) := by
  rw [eq_F__law_next_c]
  refine cal_g F sc__law_next (fun vs H Q E h => len_W h) (fun f cdv A outer s H E hG hr => ⟨T__law_next_c, ?_, fun vs Q h => go_W (n := 1) (k := 3) (ss__law_next_c) rfl h⟩)
  unfold T__law_next_c
  exact pss_cons (ps_asg (pe_op op_addU (pe_ix ix_seq (pv 0) pe_int (fun _ _ => rfl)) pe_int) (pg_sub (pv 0) pe_int set_list))
      (pss_cons (ps_if (PW.pt (pw_and (pt_cmpR (op_eqX hr.units) (pe_ix ix_seq (pv 0) pe_int (fun _ _ => rfl)) pe_int (nomark _)) (pw_and1 (pt_cmpR op_lt (pe_ix ix_seq (pv 0) pe_int (fun _ _ => rfl)) (pe_callB call_len_seq (by rfl) B.n_len (by decide +kernel) (pa_cons (pe_ix ix_seq (pv 0) pe_int (fun _ _ => rfl)) pa_nil)) (nomark _))))) (pss_cons (ps_set (i := 2) sc__law_next.nd rfl (.inl rfl) (pe_ix ix_seq (pe_ix ix_seq (pv 0) pe_int (fun _ _ => rfl)) (pe_ix ix_seq (pv 0) pe_int (fun _ _ => rfl)) (fun _ _ => rfl)))
      (pss_cons (ps_asg (pe_op op_addU (pe_ix ix_seq (pv 0) pe_int (fun _ _ => rfl)) pe_int) (pg_sub (pv 0) pe_int set_list))
      (pss_cons (ps_if (pt_cmpR op_lt (pv 2) (pe_op op_pow pe_int pe_int) (nomark _)) (pss_one (ps_ret (pe_op op_mod (pe_g c__law_mixed hr (by decide) hG (by rfl) (pa_cons (pv 2) (pa_cons (pe_ix ix_seq (pv 0) pe_int (fun _ _ => rfl)) pa_nil))) (pv 1)))) pss_nil)
      (pss_one (ps_asg (pv 2) (pg_sub (pv 0) pe_int set_list)))))) pss_nil)
      (pss_cons (ps_if (pt_cmpR (op_gtU hr.units) (pe_ix ix_seq (pv 0) pe_int (fun _ _ => rfl)) pe_int (nomark _)) (pss_cons (ps_set (i := 3) sc__law_next.nd rfl (.inl rfl) (pe_op op_mod (pe_ix ix_seq (pv 0) pe_int (fun _ _ => rfl)) (pv 1)))
      (pss_cons (ps_asg (pe_op op_fdivW (pe_ix ix_seq (pv 0) pe_int (fun _ _ => rfl)) (pv 1)) (pg_sub (pv 0) pe_int set_list))
      (pss_one (ps_ret (pv 3))))) pss_nil)
      (pss_cons (ps_set (i := 4) sc__law_next.nd rfl (.inl rfl) (pe_op op_mulV (pe_ix ix_seq (pv 0) pe_int (fun _ _ => rfl)) pe_int))
      (pss_cons (ps_if (pt_cmpR (op_neD hr.units) (pe_ix ix_seq (pv 0) pe_int (fun _ _ => rfl)) (pe_lst pa_nil) (nomark _)) (pss_one (ps_set (i := 4) sc__law_next.nd rfl (.inl rfl) (pe_op op_addU (pv 4) (pe_ix ix_seq (pe_ix ix_seq (pv 0) pe_int (fun _ _ => rfl)) (pe_op op_mod (pe_op op_mulV (pe_ix ix_seq (pv 0) pe_int (fun _ _ => rfl)) pe_int) (pe_callB call_len_seq (by rfl) B.n_len (by decide +kernel) (pa_cons (pe_ix ix_seq (pv 0) pe_int (fun _ _ => rfl)) pa_nil))) (fun _ _ => rfl))))) pss_nil)
      (pss_one (ps_ret (pe_op op_mod (pe_g c__law_mixed hr (by decide) hG (by rfl) (pa_cons (pv 4) (pa_cons (pe_ix ix_seq (pv 0) pe_int (fun _ _ => rfl)) pa_nil))) (pv 1))))))))
theorem eq_F__law_odd_e : F__law_odd_e = runW 0 1 X__law_odd_e := by unfold F__law_odd_e; rfl
theorem c__law_odd (F : Dfn K mg "_law_odd" s__law_odd ["_law_deck_here"]) (B : Bm mg) (c__law_next : CalG P w K mg base 2 "_law_next" (spW F__law_next_c)) : CalG P w K mg base 3 "_law_odd" (spW F__law_odd_e) := by
  rw [eq_F__law_odd_e]
  refine cal_g F sc__law_odd (fun vs H Q E h => len_W h) (fun f cdv A outer s H E hG hr => ⟨T__law_odd_e, ?_, fun vs Q h => go_W (n := 0) (k := 1) (ss__law_odd_e) rfl h⟩)
  unfold T__law_odd_e
  exact pss_cons (ps_set (i := 1) sc__law_odd.nd rfl (.inl rfl) (pe_lst (pa_cons pe_non (pa_cons pe_bl (pa_cons pe_bl (pa_cons pe_int (pa_cons pe_int (pa_cons (pe_un un_neg pe_int) (pa_cons pe_int (pa_cons (pe_op op_pow pe_int pe_int) (pa_cons (pe_op op_pow pe_int pe_int) (pa_cons pe_str (pa_cons pe_str (pa_cons (pe_tupF pa_nil) (pa_cons (pe_lst pa_nil) (pa_cons pe_dnewK (pa_cons (pe_tupF (pa_cons pe_int pa_nil)) (pa_cons (pe_lst (pa_cons pe_int pa_nil)) (pa_cons (pe_tupF (pa_cons pe_int (pa_cons pe_int pa_nil))) (pa_cons (pe_tupF (pa_cons pe_int (pa_cons pe_int pa_nil))) (pa_cons (pe_tupF (pa_cons pe_bl pa_nil)) pa_nil)))))))))))))))))))))
      (pss_one (ps_ret (pe_ix ix_seq (pe_op op_addU (pv 1) (pe_lst (pa_cons (pe_tupF (pa_cons pe_non pa_nil)) (pa_cons (pe_tupF (pa_cons (pe_tupF pa_nil) (pa_cons (pe_tupF pa_nil) pa_nil))) (pa_cons (pe_tupF (pa_cons (pe_tupF (pa_cons pe_int pa_nil)) (pa_cons (pe_tupF pa_nil) pa_nil))) (pa_cons (pe_tupF (pa_cons (pe_tupF (pa_cons pe_int pa_nil)) (pa_cons (pe_tupF (pa_cons pe_int pa_nil)) pa_nil))) (pa_cons (pe_disp (pps_cons pe_str pe_int pps_nil) rfl rfl (by simp) (by decide)) (pa_cons (pe_tupF (pa_cons (pe_tupF pa_nil) pa_nil)) pa_nil)))))))) (pe_g c__law_next hr (by decide) hG (by rfl) (pa_cons (pv 0) (pa_cons pe_int pa_nil))) (fun _ _ => rfl))))
theorem c__law_bent (F : Dfn K mg "_law_bent" s__law_bent ["_law_deck_here", "_law_thing", "_law_deep"]) (B : Bm mg) (c__law_next : CalG P w K mg base 2 "_law_next" (spW F__law_next_c)) (c__law_odd : CalG P w K mg base 3 "_law_odd" (spW F__law_odd_e)) : ∀ n : Nat, CalG P w K mg base (3 + n) "_law_bent" (spW (F__law_bent_e n))
  | 0 => cal_noneW F
  | n + 1 => by
    have c_self := c__law_bent F B c__law_next c__law_odd n
    have e : F__law_bent_e (n + 1) = runW 2 1 (X__law_bent_e (F__law_bent_e n)) := rfl
    rw [e]
    refine cal_g (k := 3 + n) F sc__law_bent (fun vs H Q E h => len_W h) (fun f cdv A outer s H E hG hr => ⟨T__law_bent_e (F__law_bent_e n), ?_, fun vs Q h => go_W (n := 2) (k := 1) (ss__law_bent_e _) rfl h⟩)
    unfold T__law_bent_e
    exact pss_cons (ps_if (PW.pt (pw_or (pt_cmpR (op_eqX hr.units) (pv 2) pe_int (nomark _)) (pw_or (pt_not (pt_val (pe_callB call_isi (by rfl) B.n_isinstance (by decide +kernel) (pa_cons (pv 1) (pa_cons (pe_bltn (v := .ty "tuple") (by rfl) B.n_tuple (by decide +kernel) rfl) pa_nil))))) (pw_or (pt_cmpR (op_eqX hr.units) (pv 1) (pe_tupF pa_nil) (nomark _)) (pw_or1 (pt_cmpR (op_eqX hr.units) (pe_g c__law_next hr (by omega) hG (by rfl) (pa_cons (pv 0) (pa_cons pe_int pa_nil))) pe_int (nomark _))))))) (pss_cons (ps_if (PW.pt (pw_and (pt_val (pe_callB call_isi (by rfl) B.n_isinstance (by decide +kernel) (pa_cons (pv 1) (pa_cons (pe_bltn (v := .ty "tuple") (by rfl) B.n_tuple (by decide +kernel) rfl) pa_nil)))) (pw_and1 (pt_cmpR (op_gtU hr.units) (pe_g c__law_next hr (by omega) hG (by rfl) (pa_cons (pv 0) (pa_cons pe_int pa_nil))) pe_int (nomark _))))) (pss_one (ps_ret (pe_ix ix_seq (pe_lst (pa_cons (pe_callTy call_list_of (by rfl) B.n_list (by decide +kernel) (pa_cons (pv 1) pa_nil)) (pa_cons (pe_back (pv 1)) (pa_cons (pe_op op_addB (pv 1) (pe_slice sl_U (pv 1) (po_some (pe_un un_neg pe_int)) po_none)) (pa_cons (pe_slice sl_U (pv 1) (po_some pe_int) po_none) pa_nil))))) (pe_g c__law_next hr (by omega) hG (by rfl) (pa_cons (pv 0) (pa_cons pe_int pa_nil))) (fun _ _ => rfl)))) pss_nil)
      (pss_cons (ps_if (PW.pt (pw_and (pt_val (pe_callB call_isi (by rfl) B.n_isinstance (by decide +kernel) (pa_cons (pv 1) (pa_cons (pe_bltn (v := .ty "int") (by rfl) B.n_int (by decide +kernel) rfl) pa_nil)))) (pw_and1 (pt_cmpR (op_gtU hr.units) (pe_g c__law_next hr (by omega) hG (by rfl) (pa_cons (pv 0) (pa_cons pe_int pa_nil))) pe_int (nomark _))))) (pss_one (ps_ret (pe_ix ix_seq (pe_lst (pa_cons (pe_op op_addB (pv 1) pe_int) (pa_cons (pe_op op_subB (pv 1) pe_int) (pa_cons (pe_cmpR (op_eqX hr.units) (pv 1) pe_int (nomark _)) pa_nil)))) (pe_g c__law_next hr (by omega) hG (by rfl) (pa_cons (pv 0) (pa_cons pe_int pa_nil))) (fun _ _ => rfl)))) pss_nil)
      (pss_one (ps_ret (pe_g c__law_odd hr (by omega) hG (by rfl) (pa_cons (pv 0) pa_nil)))))) pss_nil)
      (pss_cons (ps_set (i := 3) sc__law_bent.nd rfl (.inl rfl) (pe_g c__law_next hr (by omega) hG (by rfl) (pa_cons (pv 0) (pa_cons (pe_callB call_len_seq (by rfl) B.n_len (by decide +kernel) (pa_cons (pv 1) pa_nil)) pa_nil))))
      (pss_one (ps_ret (pe_op op_addB (pe_op op_addB (pe_slice sl_U (pv 1) po_none (po_some (pv 3))) (pe_tupF (pa_cons (pe_g c_self hr (by omega) hG (by rfl) (pa_cons (pv 0) (pa_cons (pe_ix ix_seq (pv 1) (pv 3) (fun _ _ => rfl)) (pa_cons (pe_op op_subB (pv 2) pe_int) pa_nil)))) pa_nil))) (pe_slice sl_U (pv 1) (po_some (pe_op op_addB (pv 3) pe_int)) po_none)))))
theorem eq_F__law_ordered_b : F__law_ordered_b = runP 4 1 X__law_ordered_b := by unfold F__law_ordered_b; rfl
theorem c__law_ordered (F : Dfn K mg "_law_ordered" s__law_ordered ["_law_web_here", "_law_house", "_law_order_here", "_law_side"]) (B : Bm mg) : CalG P w K mg base 1 "_law_ordered" (spF F__law_ordered_b) := by
  rw [eq_F__law_ordered_b]
  refine cal_g F sc__law_ordered (fun vs H Q E h => len_F h) (fun f cdv A outer s H E hG hr => ⟨T__law_ordered_b, ?_, fun vs Q h => go_P (n := 4) (k := 1) (ss__law_ordered_b) rfl h⟩)
  unfold T__law_ordered_b
  exact pss_cons (ps_set (i := 4) sc__law_ordered.nd rfl (.inl rfl) (pe_op op_addU (pe_op op_addU (pe_slice sl_U (pe_ix ix_seq (pv 0) (pv 3) (fun _ _ => rfl)) po_none (po_some (pv 1))) (pe_tupF (pa_cons (pv 2) pa_nil))) (pe_slice sl_U (pe_ix ix_seq (pv 0) (pv 3) (fun _ _ => rfl)) (po_some (pe_op op_addU (pv 1) pe_int)) po_none)))
      (pss_one (ps_ret (pe_tupF (pa_cons (pe_ix ix_seq (pv 0) pe_int (fun _ _ => rfl)) (pa_cons (pe_ix ix_seq (pe_lst (pa_cons (pv 4) (pa_cons (pe_ix ix_seq (pv 0) pe_int (fun _ _ => rfl)) pa_nil))) (pe_op op_sub (pv 3) pe_int) (fun _ _ => rfl)) (pa_cons (pe_ix ix_seq (pe_lst (pa_cons (pe_ix ix_seq (pv 0) pe_int (fun _ _ => rfl)) (pa_cons (pv 4) pa_nil))) (pe_op op_sub (pv 3) pe_int) (fun _ _ => rfl)) pa_nil))))))
theorem eq_F__law_whole_b : F__law_whole_b = runP 2 0 X__law_whole_b := by unfold F__law_whole_b; rfl
theorem c__law_whole (F : Dfn K mg "_law_whole" s__law_whole ["_law_thing", "_law_most"]) (B : Bm mg) : CalG P w K mg base 1 "_law_whole" (spF F__law_whole_b) := by
  rw [eq_F__law_whole_b]
  refine cal_g F sc__law_whole (fun vs H Q E h => len_F h) (fun f cdv A outer s H E hG hr => ⟨T__law_whole_b, ?_, fun vs Q h => go_P (n := 2) (k := 0) (ss__law_whole_b) rfl h⟩)
  unfold T__law_whole_b
  exact pss_one (ps_ret (pe_and (pe_callB call_isi (by rfl) B.n_isinstance (by decide +kernel) (pa_cons (pv 0) (pa_cons (pe_bltn (v := .ty "int") (by rfl) B.n_int (by decide +kernel) rfl) pa_nil))) (pe_and (pe_not (pe_callB call_isi (by rfl) B.n_isinstance (by decide +kernel) (pa_cons (pv 0) (pa_cons (pe_bltn (v := .ty "bool") (by rfl) B.n_bool (by decide +kernel) rfl) pa_nil)))) (pe_one (pe_chain op_le op_le pe_int (pv 0) (pv 1))))))
theorem eq_F__law_liking_b : F__law_liking_b = runP 4 1 X__law_liking_b := by unfold F__law_liking_b; rfl
theorem c__law_liking (F : Dfn K mg "_law_liking" s__law_liking ["_law_web_here", "_law_house", "_law_order_here", "_law_side"]) (B : Bm mg) (c__law_ordered : CalG P w K mg base 1 "_law_ordered" (spF F__law_ordered_b)) (c__law_whole : CalG P w K mg base 1 "_law_whole" (spF F__law_whole_b)) : CalG P w K mg base 2 "_law_liking" (spF F__law_liking_b) := by
  rw [eq_F__law_liking_b]
  refine cal_g F sc__law_liking (fun vs H Q E h => len_F h) (fun f cdv A outer s H E hG hr => ⟨T__law_liking_b, ?_, fun vs Q h => go_P (n := 4) (k := 1) (ss__law_liking_b) rfl h⟩)
  unfold T__law_liking_b
  exact pss_cons (ps_if (PW.pt (pw_or (pt_not (pt_val (pe_callB call_isi (by rfl) B.n_isinstance (by decide +kernel) (pa_cons (pv 2) (pa_cons (pe_bltn (v := .ty "tuple") (by rfl) B.n_tuple (by decide +kernel) rfl) pa_nil))))) (pw_or1 (pt_cmpR (op_neX hr.units) (pe_lc (own := [("_law_k", 4)]) rfl sc__law_liking.nd (PI.or (pi_list (pv 2)) (pi_tup (pv 2))) (blkOk_by (N := N__law_liking) (sc := defScope s__law_liking) (by decide +kernel)) (fun _ _ _ _ _ => (pg_name (i := 4) sc__law_liking.nd rfl (.inl rfl))) (fun _ _ _ _ _ => pts_one (pt_not (pt_val (pe_g c__law_whole hr (by decide) hG (by rfl) (pa_cons (pv 4) (pa_cons pe_int pa_nil)))))) (fun _ _ _ _ _ => (pv 4))) (pe_lst pa_nil) (nomark _))))) (pss_one (ps_ret (pe_lst (pa_cons pe_str pa_nil)))) pss_nil)
      (pss_cons (ps_if (pt_cmpR (op_neX hr.units) (pe_callB cr_sortedU (by rfl) B.n_sorted (by decide +kernel) (pa_cons (pv 2) pa_nil)) (pe_callB cr_sortedU (by rfl) B.n_sorted (by decide +kernel) (pa_cons (pe_ix ix_seq (pe_ix ix_seq (pv 0) (pv 3) (fun _ _ => rfl)) (pv 1) (fun _ _ => rfl)) pa_nil)) (nomark _)) (pss_one (ps_ret (pe_lst (pa_cons pe_str pa_nil)))) pss_nil)
      (pss_one (ps_ret (pe_g c__law_ordered hr (by decide) hG (by rfl) (pa_cons (pv 0) (pa_cons (pv 1) (pa_cons (pv 2) (pa_cons (pv 3) pa_nil))))))))
theorem eq_F__law_one_b : F__law_one_b = runW 1 0 X__law_one_b := by unfold F__law_one_b; rfl
theorem c__law_one (F : Dfn K mg "_law_one" s__law_one ["_law_deck_here", "_law_things"]) (B : Bm mg) (c__law_next : CalG P w K mg base 2 "_law_next" (spW F__law_next_c)) : CalG P w K mg base 3 "_law_one" (spW F__law_one_b) := by
  rw [eq_F__law_one_b]
  refine cal_g F sc__law_one (fun vs H Q E h => len_W h) (fun f cdv A outer s H E hG hr => ⟨T__law_one_b, ?_, fun vs Q h => go_W (n := 1) (k := 0) (ss__law_one_b) rfl h⟩)
  unfold T__law_one_b
  exact pss_one (ps_ret (pe_ix ix_seq (pv 1) (pe_g c__law_next hr (by decide) hG (by rfl) (pa_cons (pv 0) (pa_cons (pe_callB call_len_seq (by rfl) B.n_len (by decide +kernel) (pa_cons (pv 1) pa_nil)) pa_nil))) (fun _ _ => rfl)))
theorem eq_F__law_order_d : F__law_order_d = runW 1 2 X__law_order_d := by unfold F__law_order_d; rfl
theorem c__law_order (F : Dfn K mg "_law_order" s__law_order ["_law_deck_here", "_law_some"]) (B : Bm mg) (c__law_next : CalG P w K mg base 2 "_law_next" (spW F__law_next_c)) : CalG P w K mg base 3 "_law_order" (spW F__law_order_d) := by
  rw [eq_F__law_order_d]
  refine cal_g F sc__law_order (fun vs H Q E h => len_W h) (fun f cdv A outer s H E hG hr => ⟨T__law_order_d, ?_, fun vs Q h => go_W (n := 1) (k := 2) (ss__law_order_d) rfl h⟩)
  unfold T__law_order_d
  exact pss_cons (ps_par (i := 2) (j := 3) rfl sc__law_order.nd rfl rfl (by decide) rfl rfl (pa_cons (pe_callTy call_list_of (by rfl) B.n_list (by decide +kernel) (pa_cons (pv 1) pa_nil)) (pa_cons (pe_lst pa_nil) pa_nil)) rfl)
      (pss_cons (ps_while PassesOwn.never (pt_cmpR (op_neD hr.units) (pv 2) (pe_lst pa_nil) (nomark _)) (pss_one (ps_expr (pe_bm PySem.F.plainAttrs_list PySem.F.slot_list_append PySem.F.type_list_append mt_append (pv 3) (pa_cons (pe_bm PySem.F.plainAttrs_list PySem.F.slot_list_pop PySem.F.type_list_pop mt_popAt (pv 2) (pa_cons (pe_g c__law_next hr (by decide) hG (by rfl) (pa_cons (pv 0) (pa_cons (pe_callB call_len_seq (by rfl) B.n_len (by decide +kernel) (pa_cons (pv 2) pa_nil)) pa_nil))) pa_nil)) pa_nil)))))
      (pss_one (ps_ret (pe_callTy cr_tupF (by rfl) B.n_tuple (by decide +kernel) (pa_cons (pv 3) pa_nil)))))
theorem c__law_alone (F : Dfn K mg "_law_alone" s__law_alone ["_law_e"]) (B : Bm mg) (Z : HF mg w cA dA) (V : HR P w mg base cA) : CalP P w K mg base 1 "_law_alone" "_law_e" (spAl tab_k61) := by
  refine cal_P F sc__law_alone (fun f cdv A outer s H a oe D Q hG hr hot hz hsp => ?_)
  obtain ⟨n, z, hn, ht, hq⟩ := hsp
  have hE := Z.ex n D hn
  have hV : ∃ vs, oe.data = .fields vs := ⟨_, hot.2.choose_spec.1⟩
  refine ⟨tAlone K D a (cA 4) (cA 5) (cA 3) (cA 2), ?_, ?_⟩
  · unfold tAlone tAlRet
    exact pss_cons (ps_set (i := 1) sc__law_alone.nd rfl (.inl rfl) (pe_lst (pa_cons (pe_callB (call_isPn List.mem_cons_self hE hz hV) (by rfl) B.n_isinstance (by decide +kernel) (pa_cons (pv 0) (pa_cons (pe_glob (v := .ref (cA 4)) (by rfl) Z.g_NoRoads rfl) pa_nil))) (pa_cons (pe_callB (call_isPn List.mem_cons_self hE hz hV) (by rfl) B.n_isinstance (by decide +kernel) (pa_cons (pv 0) (pa_cons (pe_glob (v := .ref (cA 5)) (by rfl) Z.g_BadOrder rfl) pa_nil))) (pa_cons (pe_callB (call_isPn List.mem_cons_self hE hz hV) (by rfl) B.n_isinstance (by decide +kernel) (pa_cons (pv 0) (pa_cons (pe_glob (v := .ref (cA 3)) (by rfl) Z.g_Full rfl) pa_nil))) (pa_cons (pe_callB (call_isPn List.mem_cons_self hE hz hV) (by rfl) B.n_isinstance (by decide +kernel) (pa_cons (pv 0) (pa_cons (pe_glob (v := .ref (cA 2)) (by rfl) Z.g_TooGreat rfl) pa_nil))) (pa_cons pe_bl pa_nil)))))))
      (pss_cons (ps_set (i := 2) sc__law_alone.nd rfl (.inl rfl) (pe_and (pe_callB (call_isPn List.mem_cons_self hE hz hV) (by rfl) B.n_isinstance (by decide +kernel) (pa_cons (pv 0) (pa_cons (pe_bltn (v := .ty "ValueError") (by rfl) B.n_ValueError (by decide +kernel) rfl) pa_nil))) (pe_one (pe_cmpR (op_eqX (u64T hr)) (pe_callB (cr_sumH hot List.mem_cons_self) (by rfl) B.n_sum (by decide +kernel) (pa_cons (pe_lcH (own := [("_law_one_here", 3)]) hot List.mem_cons_self sc__law_alone.nd (pv 1) (blkOk_by (N := N__law_alone) (sc := defScope s__law_alone) (by decide +kernel)) (fun _ _ _ _ _ => (pg_name (i := 3) sc__law_alone.nd rfl (.inl rfl))) (fun _ _ _ _ _ => pe_callTy call_int1 (by rfl) B.n_int (by decide +kernel) (pa_cons (pv 3) pa_nil))) pa_nil)) pe_int (nomark _)))))
      (pss_one (ps_ret (pe_op op_mulS1 (pe_ix ix_seq (pe_lst (pa_cons pe_str (pa_cons pe_str (pa_cons pe_str (pa_cons pe_str (pa_cons pe_str pa_nil)))))) (PE.or (pe_bmF PySem.F.slot_tuple_index PySem.F.type_tuple_index (mt_indexF (u65T hr)) (pv 1) (pa_cons pe_bl pa_nil)) (pe_bm PySem.F.plainAttrs_list PySem.F.slot_list_index PySem.F.type_list_index (mt_indexD (u65T hr)) (pv 1) (pa_cons pe_bl pa_nil))) (fun _ _ => rfl)) (pe_callTy call_int1 (by rfl) B.n_int (by decide +kernel) (pa_cons (pv 2) pa_nil))))))
  · unfold tab_k61 at ht
    split at ht
    · cases ht
      exact alone_ok (b1 := true) (b2 := false) (b3 := false) (b4 := false) (Z.it_NoRoads _ D _ hn (by rfl)) (Z.it_BadOrder _ D _ hn (by rfl)) (Z.it_Full _ D _ hn (by rfl)) (Z.it_TooGreat _ D _ hn (by rfl)) (Z.it_ValueError _ D _ hn (by rfl)) (by decide) (by kernel_rfl) hq
    · cases ht
      exact alone_ok (b1 := false) (b2 := true) (b3 := false) (b4 := false) (Z.it_NoRoads _ D _ hn (by rfl)) (Z.it_BadOrder _ D _ hn (by rfl)) (Z.it_Full _ D _ hn (by rfl)) (Z.it_TooGreat _ D _ hn (by rfl)) (Z.it_ValueError _ D _ hn (by rfl)) (by decide) (by kernel_rfl) hq
    · cases ht
theorem eq_F_order_place : F_order_place = runP 1 0 X_order_place := by unfold F_order_place; rfl
theorem c_order_place (F : Dfn K mg "order_place" s_order_place ["giving"]) (B : Bm mg) : CalG P w K mg base 1 "order_place" (spF F_order_place) := by
  rw [eq_F_order_place]
  refine cal_g F sc_order_place (fun vs H Q E h => len_F h) (fun f cdv A outer s H E hG hr => ⟨T_order_place, ?_, fun vs Q h => go_P (n := 1) (k := 0) (ss_order_place) rfl h⟩)
  unfold T_order_place
  exact pss_one (ps_ret (pe_ifExp (pt_val (pv 0)) pe_int pe_int))
theorem eq_F_exchanged : F_exchanged = runP 3 0 X_exchanged := by unfold F_exchanged; rfl
theorem c_exchanged (F : Dfn K mg "exchanged" s_exchanged ["things", "at", "thing"]) (B : Bm mg) : CalG P w K mg base 1 "exchanged" (spF F_exchanged) := by
  rw [eq_F_exchanged]
  refine cal_g F sc_exchanged (fun vs H Q E h => len_F h) (fun f cdv A outer s H E hG hr => ⟨T_exchanged, ?_, fun vs Q h => go_P (n := 3) (k := 0) (ss_exchanged) rfl h⟩)
  unfold T_exchanged
  exact pss_one (ps_ret (pe_op op_addU (pe_op op_addU (pe_slice sl_U (pv 0) po_none (po_some (pv 1))) (pe_tupF (pa_cons (pv 2) pa_nil))) (pe_slice sl_U (pv 0) (po_some (pe_op op_addU (pv 1) pe_int)) po_none)))
theorem eq_F_is_number : F_is_number = runP 1 0 X_is_number := by unfold F_is_number; rfl
theorem c_is_number (F : Dfn K mg "is_number" s_is_number ["thing"]) (B : Bm mg) : CalG P w K mg base 1 "is_number" (spF F_is_number) := by
  rw [eq_F_is_number]
  refine cal_g F sc_is_number (fun vs H Q E h => len_F h) (fun f cdv A outer s H E hG hr => ⟨T_is_number, ?_, fun vs Q h => go_P (n := 1) (k := 0) (ss_is_number) rfl h⟩)
  unfold T_is_number
  exact pss_one (ps_ret (pe_and (pe_callB call_isi (by rfl) B.n_isinstance (by decide +kernel) (pa_cons (pv 0) (pa_cons (pe_bltn (v := .ty "int") (by rfl) B.n_int (by decide +kernel) rfl) pa_nil))) (pe_one (pe_not (pe_callB call_isi (by rfl) B.n_isinstance (by decide +kernel) (pa_cons (pv 0) (pa_cons (pe_bltn (v := .ty "bool") (by rfl) B.n_bool (by decide +kernel) rfl) pa_nil)))))))
theorem eq_F_is_order : F_is_order = runP 2 1 X_is_order := by unfold F_is_order; rfl
theorem c_is_order (F : Dfn K mg "is_order" s_is_order ["thing", "numbers"]) (B : Bm mg) (c_is_number : CalG P w K mg base 1 "is_number" (spF F_is_number)) : CalG P w K mg base 2 "is_order" (spF F_is_order) := by
  rw [eq_F_is_order]
  refine cal_g F sc_is_order (fun vs H Q E h => len_F h) (fun f cdv A outer s H E hG hr => ⟨T_is_order, ?_, fun vs Q h => go_P (n := 2) (k := 1) (ss_is_order) rfl h⟩)
  unfold T_is_order
  exact pss_one (ps_ret (pe_and (pe_callB call_isi (by rfl) B.n_isinstance (by decide +kernel) (pa_cons (pv 0) (pa_cons (pe_bltn (v := .ty "tuple") (by rfl) B.n_tuple (by decide +kernel) rfl) pa_nil))) (pe_and (pe_callB (cr_all rfl) (by rfl) B.n_all (by decide +kernel) (pa_cons (pe_lc (own := [("number", 2)]) rfl sc_is_order.nd (PI.or (pi_list (pv 0)) (pi_tup (pv 0))) (blkOk_by (N := N_is_order) (sc := defScope s_is_order) (by decide +kernel)) (fun _ _ _ _ _ => (pg_name (i := 2) sc_is_order.nd rfl (.inl rfl))) (fun _ _ _ _ _ => pts_nil) (fun _ _ _ _ _ => pe_g c_is_number hr (by decide) hG (by rfl) (pa_cons (pv 2) pa_nil))) pa_nil)) (pe_one (pe_cmpR (op_eqX hr.units) (pe_callB cr_sortedU (by rfl) B.n_sorted (by decide +kernel) (pa_cons (pv 0) pa_nil)) (pv 1) (nomark _))))))
theorem eq_F_with_like_c : F_with_like_c = runP 4 2 X_with_like_c := by unfold F_with_like_c; rfl
theorem c_with_like (F : DfnK K mg "with_like" s_with_like ["web", "house", "order", "giving"] "giving") (B : Bm mg) (Z : HF mg w cA dA) (V : HR P w mg base cA) (c_exchanged : CalG P w K mg base 1 "exchanged" (spF F_exchanged)) (c_is_order : CalG P w K mg base 2 "is_order" (spF F_is_order)) (c_order_place : CalG P w K mg base 1 "order_place" (spF F_order_place)) : CalKXN P w K mg base 3 "with_like" "giving" (spZ F_with_like_c) := by
  rw [eq_F_with_like_c]
  refine cal_kxN F sc_with_like (fun vs H Q E h => len_Z h) (fun f cdv A outer s H E hG hr => ⟨T_with_like_c (fun cls d _ H => E cls d H) w cA dA, ?_, fun vs Q h => go_Z (n := 4) (k := 2) (ss_with_like_c Z) rfl h⟩)
  unfold T_with_like_c
  exact pss_cons (ps_set (i := 4) sc_with_like.nd rfl (.inl rfl) (pe_g c_order_place hr (by decide) hG (by rfl) (pa_cons (pv 3) pa_nil)))
      (pss_cons (ps_set (i := 5) sc_with_like.nd rfl (.inl rfl) (pe_ix ix_seq (pv 0) (pv 4) (fun _ _ => rfl)))
      (pss_cons (ps_if (pt_not (pt_val (pe_g c_is_order hr (by decide) hG (by rfl) (pa_cons (pv 2) (pa_cons (pe_callB cr_sortedU (by rfl) B.n_sorted (by decide +kernel) (pa_cons (pe_ix ix_seq (pv 5) (pv 1) (fun _ _ => rfl)) pa_nil)) pa_nil))))) (pss_one (L2N.ps_raise rfl (L2N.takes_of rfl rfl rfl rfl) (pmk_own0N PySem.F.excBase_ValueError Z.x_BadOrder Z.g_BadOrder Z.k_BadOrder (raises_own Z.b_BadOrder Z.t_BadOrder) (by rfl)))) pss_nil)
      (pss_one (ps_ret (pe_g c_exchanged hr (by decide) hG (by rfl) (pa_cons (pv 0) (pa_cons (pv 4) (pa_cons (pe_g c_exchanged hr (by decide) hG (by rfl) (pa_cons (pv 5) (pa_cons (pv 1) (pa_cons (pv 2) pa_nil)))) pa_nil))))))))
theorem eq_F_liked_less_c : F_liked_less_c = runP 3 4 X_liked_less_c := by unfold F_liked_less_c; rfl
theorem c_liked_less (F : DfnK K mg "liked_less" s_liked_less ["web", "road", "giving"] "giving") (B : Bm mg) (Z : HF mg w cA dA) (V : HR P w mg base cA) (c_order_place : CalG P w K mg base 1 "order_place" (spF F_order_place)) (c_with_like : CalKXN P w K mg base 3 "with_like" "giving" (spZ F_with_like_c)) : CalKXN P w K mg base 4 "liked_less" "giving" (spZ F_liked_less_c) := by
  rw [eq_F_liked_less_c]
  refine cal_kxN F sc_liked_less (fun vs H Q E h => len_Z h) (fun f cdv A outer s H E hG hr => ⟨T_liked_less_c (fun cls d _ H => E cls d H) w cA dA, ?_, fun vs Q h => go_Z (n := 3) (k := 4) (ss_liked_less_c Z) rfl h⟩)
  unfold T_liked_less_c
  exact pss_cons (ps_set (i := 3) sc_liked_less.nd rfl (.inl rfl) (pe_ix ix_seq (pe_ix ix_seq (pe_ix ix_seq (pv 0) pe_int (fun _ _ => rfl)) (pv 1) (fun _ _ => rfl)) (pe_ifExp (pt_val (pv 2)) pe_int pe_int) (fun _ _ => rfl)))
      (pss_cons (ps_if (pt_cmpR op_isU (pv 3) pe_non (nomark _)) (pss_one (ps_ret (pv 0))) pss_nil)
      (pss_cons (ps_set (i := 4) sc_liked_less.nd rfl (.inl rfl) (pe_ix ix_seq (pe_ix ix_seq (pv 0) (pe_g c_order_place hr (by decide) hG (by rfl) (pa_cons (pv 2) pa_nil)) (fun _ _ => rfl)) (pv 3) (fun _ _ => rfl)))
      (pss_cons (ps_set (i := 5) sc_liked_less.nd rfl (.inl rfl) (pe_op op_addU (pe_callTy cr_tupF (by rfl) B.n_tuple (by decide +kernel) (pa_cons (pe_lc (own := [("number", 6)]) rfl sc_liked_less.nd (PI.or (pi_list (pv 4)) (pi_tup (pv 4))) (blkOk_by (N := N_liked_less) (sc := defScope s_liked_less) (by decide +kernel)) (fun _ _ _ _ _ => (pg_name (i := 6) sc_liked_less.nd rfl (.inl rfl))) (fun _ _ _ _ _ => pts_one (pt_cmpR (op_neD hr.units) (pv 6) (pv 1) (nomark _))) (fun _ _ _ _ _ => (pv 6))) pa_nil)) (pe_tupF (pa_cons (pv 1) pa_nil))))
      (pss_one (ps_ret (pe_gKxN c_with_like hr (by decide) hG (by rfl) (L2N.takes_of rfl rfl rfl rfl) (pa_cons (pv 0) (pa_cons (pv 3) (pa_cons (pv 5) pa_nil))) (pv 2)))))))
theorem eq_F_orders_without : F_orders_without = runP 2 2 X_orders_without := by unfold F_orders_without; rfl
theorem c_orders_without (F : Dfn K mg "orders_without" s_orders_without ["orders", "road"]) (B : Bm mg) : CalG P w K mg base 1 "orders_without" (spF F_orders_without) := by
  rw [eq_F_orders_without]
  refine cal_g F sc_orders_without (fun vs H Q E h => len_F h) (fun f cdv A outer s H E hG hr => ⟨T_orders_without, ?_, fun vs Q h => go_P (n := 2) (k := 2) (ss_orders_without) rfl h⟩)
  unfold T_orders_without
  exact pss_one (ps_ret (pe_callTy cr_tupF (by rfl) B.n_tuple (by decide +kernel) (pa_cons (pe_lc (own := [("order", 2)]) rfl sc_orders_without.nd (PI.or (pi_list (pv 0)) (pi_tup (pv 0))) (blkOk_by (N := N_orders_without) (sc := defScope s_orders_without) (by decide +kernel)) (fun _ _ _ _ _ => (pg_name (i := 2) sc_orders_without.nd rfl (.inl rfl))) (fun _ _ _ _ _ => pts_nil) (fun _ _ _ _ _ => pe_callTy cr_tupF (by rfl) B.n_tuple (by decide +kernel) (pa_cons (pe_lc (own := [("number", 3)]) rfl sc_orders_without.nd (PI.or (pi_list (pv 2)) (pi_tup (pv 2))) (blkOk_in (N := N_orders_without) rfl (by decide +kernel)) (fun _ _ _ _ _ => (pg_name (i := 3) sc_orders_without.nd rfl (.inl rfl))) (fun _ _ _ _ _ => pts_one (pt_cmpR (op_neD hr.units) (pv 3) (pv 1) (nomark _))) (fun _ _ _ _ _ => pe_ifExp (pt_cmpR (op_gtU hr.units) (pv 3) (pv 1) (nomark _)) (pe_op op_sub (pv 3) pe_int) (pv 3))) pa_nil))) pa_nil)))
theorem eq_F_without_d : F_without_d = runP 2 3 X_without_d := by unfold F_without_d; rfl
theorem c_without (F : Dfn K mg "without" s_without ["web", "road"]) (B : Bm mg) (Z : HF mg w cA dA) (V : HR P w mg base cA) (c_orders_without : CalG P w K mg base 1 "orders_without" (spF F_orders_without)) : CalXN P w K mg base 3 "without" (spZ F_without_d) := by
  rw [eq_F_without_d]
  refine cal_xN F sc_without (fun vs H Q E h => len_Z h) (fun f cdv A outer s H E hG hr => ⟨T_without_d (fun cls d _ H => E cls d H) w cA dA, ?_, fun vs Q h => go_Z (n := 2) (k := 3) (ss_without_d Z) rfl h⟩)
  unfold T_without_d
  exact pss_cons (ps_asg (pv 0) (PG.or (pg_tup rfl (pgs_cons (pg_name (i := 2) sc_without.nd rfl (.inl rfl)) (pgs_cons (pg_name (i := 3) sc_without.nd rfl (.inl rfl)) (pgs_cons (pg_name (i := 4) sc_without.nd rfl (.inl rfl)) pgs_nil)))) (pg_unl rfl (pgs_cons (pg_name (i := 2) sc_without.nd rfl (.inl rfl)) (pgs_cons (pg_name (i := 3) sc_without.nd rfl (.inl rfl)) (pgs_cons (pg_name (i := 4) sc_without.nd rfl (.inl rfl)) pgs_nil))))))
      (pss_cons (ps_if (pt_cmpR (op_eqX hr.units) (pe_callB call_len_seq (by rfl) B.n_len (by decide +kernel) (pa_cons (pv 2) pa_nil)) pe_int (nomark _)) (pss_one (L2N.ps_raise rfl (L2N.takes_of rfl rfl rfl rfl) (pmk_own0N PySem.F.excBase_ValueError Z.x_NoRoads Z.g_NoRoads Z.k_NoRoads (raises_own Z.b_NoRoads Z.t_NoRoads) (by rfl)))) pss_nil)
      (pss_one (ps_ret (pe_tupF (pa_cons (pe_op op_addU (pe_slice sl_U (pv 2) po_none (po_some (pv 1))) (pe_slice sl_U (pv 2) (po_some (pe_op op_addU (pv 1) pe_int)) po_none)) (pa_cons (pe_g c_orders_without hr (by decide) hG (by rfl) (pa_cons (pv 3) (pa_cons (pv 1) pa_nil))) (pa_cons (pe_g c_orders_without hr (by decide) hG (by rfl) (pa_cons (pv 4) (pa_cons (pv 1) pa_nil))) pa_nil)))))))
theorem eq_F__law_told_v : F__law_told_v = runP 2 2 X__law_told_v := by unfold F__law_told_v; rfl
theorem c__law_told (F : Dfn K mg "_law_told" s__law_told ["_law_web_here", "_law_call"]) (B : Bm mg) (Z : HF mg w cA dA) (V : HR P w mg base cA) (c__law_alone : CalP P w K mg base 1 "_law_alone" "_law_e" (spAl tab_k61)) (c_liked_less : CalKXN P w K mg base 4 "liked_less" "giving" (spZ F_liked_less_c)) (c_with_like : CalKXN P w K mg base 3 "with_like" "giving" (spZ F_with_like_c)) (c_without : CalXN P w K mg base 3 "without" (spZ F_without_d)) : CalG P w K mg base 5 "_law_told" (spF F__law_told_v) := by
  rw [eq_F__law_told_v]
  refine cal_g F sc__law_told (fun vs H Q E h => len_F h) (fun f cdv A outer s H E hG hr => ⟨T__law_told_v w cA dA, ?_, fun vs Q h => go_P (n := 2) (k := 2) (ss__law_told_v Z) rfl h⟩)
  unfold T__law_told_v
  exact pss_cons (ps_set (i := 2) sc__law_told.nd rfl (.inl rfl) pe_non)
      (pss_cons (ps_tryAl rfl rfl sc__law_told.nd rfl rfl (txm_name ⟨rfl, by decide, .inl Z.g_WebError⟩) (fun W pn xe tk _ => pss_one (ps_if (pt_cmpR (op_eqX hr.units) (pe_ix ix_seq (pv 1) pe_int (fun _ _ => rfl)) pe_str (nomark _)) (pss_one (ps_set (i := 2) sc__law_told.nd rfl (.inl rfl) (pe_gxN c_without hr (by decide) hG (by rfl) tk (pa_cons (pv 0) (pa_cons (pe_ix ix_seq (pv 1) pe_int (fun _ _ => rfl)) pa_nil))))) (pss_one (ps_if (pt_cmpR (op_eqX hr.units) (pe_ix ix_seq (pv 1) pe_int (fun _ _ => rfl)) pe_str (nomark _)) (pss_one (ps_set (i := 2) sc__law_told.nd rfl (.inl rfl) (pe_gDxN c_liked_less hr (by decide) hG (by rfl) tk (pa_cons (pv 0) (pa_cons (pe_ix ix_seq (pv 1) pe_int (fun _ _ => rfl)) pa_nil))))) (pss_one (ps_if (pt_cmpR (op_eqX hr.units) (pe_ix ix_seq (pv 1) pe_int (fun _ _ => rfl)) pe_str (nomark _)) (pss_one (ps_set (i := 2) sc__law_told.nd rfl (.inl rfl) (pe_gKxN c_liked_less hr (by decide) hG (by rfl) tk (pa_cons (pv 0) (pa_cons (pe_ix ix_seq (pv 1) pe_int (fun _ _ => rfl)) pa_nil)) (pe_cmpR (op_eqX hr.units) (pe_ix ix_seq (pv 1) pe_int (fun _ _ => rfl)) pe_int (nomark _))))) (pss_one (ps_if (pt_cmpR (op_eqX hr.units) (pe_ix ix_seq (pv 1) pe_int (fun _ _ => rfl)) pe_str (nomark _)) (pss_one (ps_set (i := 2) sc__law_told.nd rfl (.inl rfl) (pe_gDxN c_with_like hr (by decide) hG (by rfl) tk (pa_cons (pv 0) (pa_cons (pe_ix ix_seq (pv 1) pe_int (fun _ _ => rfl)) (pa_cons (pe_ix ix_seq (pv 1) pe_int (fun _ _ => rfl)) pa_nil)))))) (pss_one (ps_set (i := 2) sc__law_told.nd rfl (.inl rfl) (pe_gKxN c_with_like hr (by decide) hG (by rfl) tk (pa_cons (pv 0) (pa_cons (pe_ix ix_seq (pv 1) pe_int (fun _ _ => rfl)) (pa_cons (pe_ix ix_seq (pv 1) pe_int (fun _ _ => rfl)) pa_nil))) (pe_cmpR (op_eqX hr.units) (pe_ix ix_seq (pv 1) pe_int (fun _ _ => rfl)) pe_int (nomark _))))))))))))) (fun a oe C0 pn hz hv hE => pss_one (ps_set (i := 2) sc__law_told.nd rfl (.inl rfl) (pe_lst (pa_cons (pe_callP c__law_alone (roomT hr) (by decide) hG (let ⟨vs, e⟩ := hv; ⟨rfl, vs, e, hz.2.2 vs e⟩) List.mem_cons_self ⟨hz.1, hz.2.1⟩ (by rfl) rfl (.inl rfl)) pa_nil)))))
      (pss_one (ps_ret (pv 2))))
theorem eq_F__law_right_z43 : F__law_right_z43 = runP 3 2 X__law_right_z43 := by unfold F__law_right_z43; rfl
theorem c__law_right (F : Dfn K mg "_law_right" s__law_right ["_law_web_here", "_law_call", "_law_due"]) (B : Bm mg) (c__law_told : CalG P w K mg base 5 "_law_told" (spF F__law_told_v)) : CalG P w K mg base 6 "_law_right" (spF F__law_right_z43) := by
  rw [eq_F__law_right_z43]
  refine cal_g F sc__law_right (fun vs H Q E h => len_F h) (fun f cdv A outer s H E hG hr => ⟨T__law_right_z43, ?_, fun vs Q h => go_P (n := 3) (k := 2) (ss__law_right_z43) rfl h⟩)
  unfold T__law_right_z43
  exact pss_cons (ps_set (i := 3) sc__law_right.nd rfl (.inl rfl) (pe_callB (cr_repr hG (u65 hr)) (by rfl) B.n_repr (by decide +kernel) (pa_cons (pe_lst (pa_cons (pv 0) (pa_cons (pv 1) pa_nil))) pa_nil)))
      (pss_cons (ps_for PassesOwn.never rfl (pi_range1 (by rfl) B.n_range (pa_cons pe_int pa_nil)) (pg_name (i := 4) sc__law_right.nd rfl (.inl rfl)) (pss_one (ps_if (PW.pt (pw_or (pt_cmpR (op_neD hr.units) (pe_callB (cr_repr hG (u65 hr)) (by rfl) B.n_repr (by decide +kernel) (pa_cons (pe_g c__law_told hr (by decide) hG (by rfl) (pa_cons (pv 0) (pa_cons (pv 1) pa_nil))) pa_nil)) (pe_callB (cr_repr hG (u65 hr)) (by rfl) B.n_repr (by decide +kernel) (pa_cons (pv 2) pa_nil)) (nomark _)) (pw_or1 (pt_cmpR (op_neD hr.units) (pe_callB (cr_repr hG (u65 hr)) (by rfl) B.n_repr (by decide +kernel) (pa_cons (pe_lst (pa_cons (pv 0) (pa_cons (pv 1) pa_nil))) pa_nil)) (pv 3) (nomark _))))) (pss_one (ps_ret pe_bl)) pss_nil)))
      (pss_one (ps_ret pe_bl)))
theorem eq_F__law_house_right_d : F__law_house_right_d = runW 2 3 X__law_house_right_d := by unfold F__law_house_right_d; rfl
theorem c__law_house_right (F : Dfn K mg "_law_house_right" s__law_house_right ["_law_deck_here", "_law_web_here", "_law_house"]) (B : Bm mg) (c__law_bent : CalG P w K mg base 12 "_law_bent" (spW (F__law_bent_e 9))) (c__law_liking : CalG P w K mg base 2 "_law_liking" (spF F__law_liking_b)) (c__law_next : CalG P w K mg base 2 "_law_next" (spW F__law_next_c)) (c__law_odd : CalG P w K mg base 3 "_law_odd" (spW F__law_odd_e)) (c__law_one : CalG P w K mg base 3 "_law_one" (spW F__law_one_b)) (c__law_order : CalG P w K mg base 3 "_law_order" (spW F__law_order_d)) (c__law_right : CalG P w K mg base 6 "_law_right" (spF F__law_right_z43)) : CalG P w K mg base 13 "_law_house_right" (spW F__law_house_right_d) := by
  rw [eq_F__law_house_right_d]
  refine cal_g F sc__law_house_right (fun vs H Q E h => len_W h) (fun f cdv A outer s H E hG hr => ⟨T__law_house_right_d, ?_, fun vs Q h => go_W (n := 2) (k := 3) (ss__law_house_right_d) rfl h⟩)
  unfold T__law_house_right_d
  exact pss_cons (ps_set (i := 3) sc__law_house_right.nd rfl (.inl rfl) (pe_op op_addU pe_int (pe_g c__law_next hr (by decide) hG (by rfl) (pa_cons (pv 0) (pa_cons pe_int pa_nil)))))
      (pss_cons (ps_set (i := 4) sc__law_house_right.nd rfl (.inl rfl) (pe_lst (pa_cons (pe_g c__law_order hr (by decide) hG (by rfl) (pa_cons (pv 0) (pa_cons (pe_ix ix_seq (pe_ix ix_seq (pv 1) (pv 3) (fun _ _ => rfl)) (pv 2) (fun _ _ => rfl)) pa_nil))) (pa_cons (pe_g c__law_one hr (by decide) hG (by rfl) (pa_cons (pv 0) (pa_cons (pe_ix ix_seq (pv 1) (pv 3) (fun _ _ => rfl)) pa_nil))) (pa_cons (pe_g c__law_odd hr (by decide) hG (by rfl) (pa_cons (pv 0) pa_nil)) pa_nil)))))
      (pss_cons (ps_expr (pe_bm PySem.F.plainAttrs_list PySem.F.slot_list_append PySem.F.type_list_append mt_append (pv 4) (pa_cons (pe_g c__law_bent hr (by decide) hG (by rfl) (pa_cons (pv 0) (pa_cons (pe_ix ix_seq (pv 4) pe_int (fun _ _ => rfl)) (pa_cons pe_int pa_nil)))) pa_nil)))
      (pss_cons (ps_expr (pe_bm PySem.F.plainAttrs_list PySem.F.slot_list_append PySem.F.type_list_append mt_append (pv 4) (pa_cons (pe_g c__law_bent hr (by decide) hG (by rfl) (pa_cons (pv 0) (pa_cons (pe_ix ix_seq (pv 4) pe_int (fun _ _ => rfl)) (pa_cons pe_int pa_nil)))) pa_nil)))
      (pss_cons (ps_for PassesOwn.never rfl (PI.or (pi_list (pv 4)) (pi_tup (pv 4))) (pg_name (i := 5) sc__law_house_right.nd rfl (.inl rfl)) (pss_one (ps_if (pt_not (pt_val (pe_g c__law_right hr (by decide) hG (by rfl) (pa_cons (pv 1) (pa_cons (pe_tupF (pa_cons pe_str (pa_cons (pv 2) (pa_cons (pv 5) (pa_cons (pv 3) pa_nil))))) (pa_cons (pe_g c__law_liking hr (by decide) hG (by rfl) (pa_cons (pv 1) (pa_cons (pv 2) (pa_cons (pv 5) (pa_cons (pv 3) pa_nil))))) pa_nil)))))) (pss_one (ps_ret pe_bl)) pss_nil)))
      (pss_one (ps_ret (pe_g c__law_right hr (by decide) hG (by rfl) (pa_cons (pv 1) (pa_cons (pe_tupF (pa_cons pe_str (pa_cons (pv 2) (pa_cons (pe_ix ix_seq (pv 4) pe_int (fun _ _ => rfl)) pa_nil)))) (pa_cons (pe_g c__law_liking hr (by decide) hG (by rfl) (pa_cons (pv 1) (pa_cons (pv 2) (pa_cons (pe_ix ix_seq (pv 4) pe_int (fun _ _ => rfl)) (pa_cons pe_int pa_nil))))) pa_nil))))))))))
theorem eq_F__law_least_b : F__law_least_b = runP 3 2 X__law_least_b := by unfold F__law_least_b; rfl
theorem c__law_least (F : Dfn K mg "_law_least" s__law_least ["_law_web_here", "_law_road", "_law_side"]) (B : Bm mg) (c__law_ordered : CalG P w K mg base 1 "_law_ordered" (spF F__law_ordered_b)) : CalG P w K mg base 2 "_law_least" (spF F__law_least_b) := by
  rw [eq_F__law_least_b]
  refine cal_g F sc__law_least (fun vs H Q E h => len_F h) (fun f cdv A outer s H E hG hr => ⟨T__law_least_b, ?_, fun vs Q h => go_P (n := 3) (k := 2) (ss__law_least_b) rfl h⟩)
  unfold T__law_least_b
  exact pss_cons (ps_set (i := 3) sc__law_least.nd rfl (.inl rfl) (pe_ix ix_seq (pe_ix ix_seq (pe_ix ix_seq (pv 0) pe_int (fun _ _ => rfl)) (pv 1) (fun _ _ => rfl)) (pe_op op_sub (pv 2) pe_int) (fun _ _ => rfl)))
      (pss_cons (ps_if (pt_cmpR op_isU (pv 3) pe_non (nomark _)) (pss_one (ps_ret (pv 0))) pss_nil)
      (pss_one (ps_ret (pe_g c__law_ordered hr (by decide) hG (by rfl) (pa_cons (pv 0) (pa_cons (pv 3) (pa_cons (pe_op op_addU (pe_callTy cr_tupF (by rfl) B.n_tuple (by decide +kernel) (pa_cons (pe_lc (own := [("_law_k", 4)]) rfl sc__law_least.nd (PI.or (pi_list (pe_ix ix_seq (pe_ix ix_seq (pv 0) (pv 2) (fun _ _ => rfl)) (pv 3) (fun _ _ => rfl))) (pi_tup (pe_ix ix_seq (pe_ix ix_seq (pv 0) (pv 2) (fun _ _ => rfl)) (pv 3) (fun _ _ => rfl)))) (blkOk_by (N := N__law_least) (sc := defScope s__law_least) (by decide +kernel)) (fun _ _ _ _ _ => (pg_name (i := 4) sc__law_least.nd rfl (.inl rfl))) (fun _ _ _ _ _ => pts_one (pt_cmpR (op_neD hr.units) (pv 4) (pv 1) (nomark _))) (fun _ _ _ _ _ => (pv 4))) pa_nil)) (pe_tupF (pa_cons (pv 1) pa_nil))) (pa_cons (pv 2) pa_nil))))))))
theorem eq_F__law_without_b : F__law_without_b = runP 2 4 X__law_without_b := by unfold F__law_without_b; rfl
theorem c__law_without (F : Dfn K mg "_law_without" s__law_without ["_law_web_here", "_law_road"]) (B : Bm mg) : CalG P w K mg base 1 "_law_without" (spF F__law_without_b) := by
  rw [eq_F__law_without_b]
  refine cal_g F sc__law_without (fun vs H Q E h => len_F h) (fun f cdv A outer s H E hG hr => ⟨T__law_without_b, ?_, fun vs Q h => go_P (n := 2) (k := 4) (ss__law_without_b) rfl h⟩)
  unfold T__law_without_b
  exact pss_cons (ps_if (pt_cmpR (op_eqX hr.units) (pe_callB call_len_seq (by rfl) B.n_len (by decide +kernel) (pa_cons (pe_ix ix_seq (pv 0) pe_int (fun _ _ => rfl)) pa_nil)) pe_int (nomark _)) (pss_one (ps_ret (pe_lst (pa_cons pe_str pa_nil)))) pss_nil)
      (pss_cons (ps_set (i := 2) sc__law_without.nd rfl (.inl rfl) (pe_lst pa_nil))
      (pss_cons (ps_for PassesOwn.never rfl (PI.or (pi_list (pe_lst (pa_cons pe_int (pa_cons pe_int pa_nil)))) (pi_tup (pe_lst (pa_cons pe_int (pa_cons pe_int pa_nil))))) (pg_name (i := 3) sc__law_without.nd rfl (.inl rfl)) (pss_one (ps_expr (pe_bm PySem.F.plainAttrs_list PySem.F.slot_list_append PySem.F.type_list_append mt_append (pv 2) (pa_cons (pe_callTy cr_tupF (by rfl) B.n_tuple (by decide +kernel) (pa_cons (pe_lc (own := [("_law_order_here", 4)]) rfl sc__law_without.nd (PI.or (pi_list (pe_ix ix_seq (pv 0) (pv 3) (fun _ _ => rfl))) (pi_tup (pe_ix ix_seq (pv 0) (pv 3) (fun _ _ => rfl)))) (blkOk_by (N := N__law_without) (sc := defScope s__law_without) (by decide +kernel)) (fun _ _ _ _ _ => (pg_name (i := 4) sc__law_without.nd rfl (.inl rfl))) (fun _ _ _ _ _ => pts_nil) (fun _ _ _ _ _ => pe_callTy cr_tupF (by rfl) B.n_tuple (by decide +kernel) (pa_cons (pe_lc (own := [("_law_k", 5)]) rfl sc__law_without.nd (PI.or (pi_list (pv 4)) (pi_tup (pv 4))) (blkOk_in (N := N__law_without) rfl (by decide +kernel)) (fun _ _ _ _ _ => (pg_name (i := 5) sc__law_without.nd rfl (.inl rfl))) (fun _ _ _ _ _ => pts_one (pt_cmpR (op_neD hr.units) (pv 5) (pv 1) (nomark _))) (fun _ _ _ _ _ => pe_op op_sub (pv 5) (pe_callTy call_int1 (by rfl) B.n_int (by decide +kernel) (pa_cons (pe_cmpR (op_gtU hr.units) (pv 5) (pv 1) (nomark _)) pa_nil)))) pa_nil))) pa_nil)) pa_nil)))))
      (pss_one (ps_ret (pe_tupF (pa_cons (pe_op op_addU (pe_slice sl_U (pe_ix ix_seq (pv 0) pe_int (fun _ _ => rfl)) po_none (po_some (pv 1))) (pe_slice sl_U (pe_ix ix_seq (pv 0) pe_int (fun _ _ => rfl)) (po_some (pe_op op_addU (pv 1) pe_int)) po_none)) (pa_cons (pe_ix ix_seq (pv 2) pe_int (fun _ _ => rfl)) (pa_cons (pe_ix ix_seq (pv 2) pe_int (fun _ _ => rfl)) pa_nil))))))))
theorem eq_F__law_road_right_c : F__law_road_right_c = runW 2 1 X__law_road_right_c := by unfold F__law_road_right_c; rfl
theorem c__law_road_right (F : Dfn K mg "_law_road_right" s__law_road_right ["_law_deck_here", "_law_web_here", "_law_road"]) (B : Bm mg) (c__law_least : CalG P w K mg base 2 "_law_least" (spF F__law_least_b)) (c__law_next : CalG P w K mg base 2 "_law_next" (spW F__law_next_c)) (c__law_right : CalG P w K mg base 6 "_law_right" (spF F__law_right_z43)) (c__law_without : CalG P w K mg base 1 "_law_without" (spF F__law_without_b)) : CalG P w K mg base 7 "_law_road_right" (spW F__law_road_right_c) := by
  rw [eq_F__law_road_right_c]
  refine cal_g F sc__law_road_right (fun vs H Q E h => len_W h) (fun f cdv A outer s H E hG hr => ⟨T__law_road_right_c, ?_, fun vs Q h => go_W (n := 2) (k := 1) (ss__law_road_right_c) rfl h⟩)
  unfold T__law_road_right_c
  exact pss_cons (ps_set (i := 3) sc__law_road_right.nd rfl (.inl rfl) (pe_op op_addU pe_int (pe_g c__law_next hr (by decide) hG (by rfl) (pa_cons (pv 0) (pa_cons pe_int pa_nil)))))
      (pss_cons (ps_if (pt_not (pt_val (pe_g c__law_right hr (by decide) hG (by rfl) (pa_cons (pv 1) (pa_cons (pe_tupF (pa_cons pe_str (pa_cons (pv 2) pa_nil))) (pa_cons (pe_g c__law_without hr (by decide) hG (by rfl) (pa_cons (pv 1) (pa_cons (pv 2) pa_nil))) pa_nil)))))) (pss_one (ps_ret pe_bl)) pss_nil)
      (pss_cons (ps_if (pt_not (pt_val (pe_g c__law_right hr (by decide) hG (by rfl) (pa_cons (pv 1) (pa_cons (pe_tupF (pa_cons pe_str (pa_cons (pv 2) pa_nil))) (pa_cons (pe_g c__law_least hr (by decide) hG (by rfl) (pa_cons (pv 1) (pa_cons (pv 2) (pa_cons pe_int pa_nil)))) pa_nil)))))) (pss_one (ps_ret pe_bl)) pss_nil)
      (pss_one (ps_ret (pe_g c__law_right hr (by decide) hG (by rfl) (pa_cons (pv 1) (pa_cons (pe_tupF (pa_cons pe_str (pa_cons (pv 2) (pa_cons (pv 3) pa_nil)))) (pa_cons (pe_g c__law_least hr (by decide) hG (by rfl) (pa_cons (pv 1) (pa_cons (pv 2) (pa_cons (pv 3) pa_nil)))) pa_nil))))))))
theorem eq_F__law_web_f : F__law_web_f = runW 2 10 X__law_web_f := by unfold F__law_web_f; rfl
theorem c__law_web (F : Dfn K mg "_law_web" s__law_web ["_law_deck_here", "_law_most", "_law_many"]) (B : Bm mg) (c__law_next : CalG P w K mg base 2 "_law_next" (spW F__law_next_c)) (c__law_one : CalG P w K mg base 3 "_law_one" (spW F__law_one_b)) (c__law_order : CalG P w K mg base 3 "_law_order" (spW F__law_order_d)) : CalG P w K mg base 4 "_law_web" (spW F__law_web_f) := by
  rw [eq_F__law_web_f]
  refine cal_g F sc__law_web (fun vs H Q E h => len_W h) (fun f cdv A outer s H E hG hr => ⟨T__law_web_f, ?_, fun vs Q h => go_W (n := 2) (k := 10) (ss__law_web_f) rfl h⟩)
  unfold T__law_web_f
  exact pss_cons (ps_asg (pe_tupF (pa_cons (pe_g c__law_next hr (by decide) hG (by rfl) (pa_cons (pv 0) (pa_cons pe_int pa_nil))) (pa_cons (pe_op op_addU pe_int (pe_g c__law_next hr (by decide) hG (by rfl) (pa_cons (pv 0) (pa_cons (pv 1) pa_nil)))) (pa_cons (pe_lst pa_nil) pa_nil)))) (PG.or (pg_tup rfl (pgs_cons (pg_name (i := 3) sc__law_web.nd rfl (.inl rfl)) (pgs_cons (pg_name (i := 4) sc__law_web.nd rfl (.inl rfl)) (pgs_cons (pg_name (i := 5) sc__law_web.nd rfl (.inr rfl)) pgs_nil)))) (pg_unl rfl (pgs_cons (pg_name (i := 3) sc__law_web.nd rfl (.inl rfl)) (pgs_cons (pg_name (i := 4) sc__law_web.nd rfl (.inl rfl)) (pgs_cons (pg_name (i := 5) sc__law_web.nd rfl (.inr rfl)) pgs_nil))))))
      (pss_cons (ps_if (PW.pt (pw_and (pt_cmpR (op_eqX hr.units) (pv 3) pe_int (nomark _)) (pw_and1 (pt_cmpR (op_gtU hr.units) (pv 2) pe_int (nomark _))))) (pss_cons (ps_set (i := 4) sc__law_web.nd rfl (.inl rfl) (pe_callB (cr_maxU rfl) (by rfl) B.n_max (by decide +kernel) (pa_cons pe_int (pa_cons (pv 4) pa_nil))))
      (pss_one (ps_set (i := 5) sc__law_web.nd rfl (.inr rfl) (pe_lst (pa_cons (pe_tupF (pa_cons pe_non (pa_cons pe_int (pa_cons pe_int pa_nil)))) (pa_cons (pe_tupF (pa_cons pe_int (pa_cons pe_int (pa_cons (pe_op op_addU pe_int (pe_g c__law_next hr (by decide) hG (by rfl) (pa_cons (pv 0) (pa_cons pe_int pa_nil)))) pa_nil)))) (pa_cons (pe_tupF (pa_cons pe_int (pa_cons pe_int (pa_cons (pe_op op_addU pe_int (pe_g c__law_next hr (by decide) hG (by rfl) (pa_cons (pv 0) (pa_cons pe_int pa_nil)))) pa_nil)))) (pa_cons (pe_tupF (pa_cons pe_int (pa_cons pe_non (pa_cons pe_int pa_nil)))) pa_nil)))))))) pss_nil)
      (pss_cons (ps_for PassesOwn.never rfl (pi_range1 (by rfl) B.n_range (pa_cons (pe_op op_sub (pe_op op_addU pe_int (pe_g c__law_next hr (by decide) hG (by rfl) (pa_cons (pv 0) (pa_cons (pv 2) pa_nil)))) (pe_callB call_len_seq (by rfl) B.n_len (by decide +kernel) (pa_cons (pv 5) pa_nil))) pa_nil)) (pg_name (i := 6) sc__law_web.nd rfl (.inl rfl)) (pss_cons (ps_set (i := 7) sc__law_web.nd rfl (.inl rfl) (pe_op op_addU (pe_lst (pa_cons pe_non pa_nil)) (pe_listRg rfl (by rfl) B.n_list (prg_1 (by rfl) B.n_range (pv 4)))))
      (pss_cons (ps_set (i := 8) sc__law_web.nd rfl (.inl rfl) (pe_bm PySem.F.plainAttrs_list PySem.F.slot_list_pop PySem.F.type_list_pop mt_popAt (pv 7) (pa_cons (pe_g c__law_next hr (by decide) hG (by rfl) (pa_cons (pv 0) (pa_cons (pe_callB call_len_seq (by rfl) B.n_len (by decide +kernel) (pa_cons (pv 7) pa_nil)) pa_nil))) pa_nil)))
      (pss_one (ps_expr (pe_bm PySem.F.plainAttrs_list PySem.F.slot_list_append PySem.F.type_list_append mt_append (pv 5) (pa_cons (pe_tupF (pa_cons (pv 8) (pa_cons (pe_g c__law_one hr (by decide) hG (by rfl) (pa_cons (pv 0) (pa_cons (pv 7) pa_nil))) (pa_cons (pe_ix ix_seq (pe_lst (pa_cons pe_int (pa_cons pe_int (pa_cons pe_int (pa_cons pe_int (pa_cons pe_int (pa_cons pe_int pa_nil))))))) (pe_g c__law_next hr (by decide) hG (by rfl) (pa_cons (pv 0) (pa_cons pe_int pa_nil))) (fun _ _ => rfl)) pa_nil)))) pa_nil)))))))
      (pss_cons (ps_setLc (i := 9) (own := [("_law_house", 11)]) rfl sc__law_web.nd rfl rfl (sw_true rfl rfl rfl (by decide +kernel)) (pi_range1 (by rfl) B.n_range (pa_cons (pv 4) pa_nil)) (blkOk_by (N := N__law_web) (sc := defScope s__law_web) (by decide +kernel)) (fun _ _ _ _ _ => (pg_name (i := 11) sc__law_web.nd rfl (.inr rfl))) (fun _ _ _ _ _ => pts_nil) (fun _ _ _ _ _ => pe_lc (own := [("_law_k", 6)]) rfl sc__law_web.nd (pi_range1 (by rfl) B.n_range (pa_cons (pe_callB call_len_seq (by rfl) B.n_len (by decide +kernel) (pa_cons (pv 5) pa_nil)) pa_nil)) (blkOk_in (N := N__law_web) rfl (by decide +kernel)) (fun _ _ _ _ _ => (pg_name (i := 6) sc__law_web.nd rfl (.inl rfl))) (fun _ _ _ _ _ => pts_one (pt_cmpR (op_eqX hr.units) (pe_ix ix_seq (pe_ix ix_seq (pv 5) (pv 6) (fun _ _ => rfl)) pe_int (fun _ _ => rfl)) (pv 11) (nomark _))) (fun _ _ _ _ _ => (pv 6))))
      (pss_cons (ps_setLc (i := 10) (own := [("_law_house", 11)]) rfl sc__law_web.nd rfl rfl (sw_true rfl rfl rfl (by decide +kernel)) (pi_range1 (by rfl) B.n_range (pa_cons (pv 4) pa_nil)) (blkOk_by (N := N__law_web) (sc := defScope s__law_web) (by decide +kernel)) (fun _ _ _ _ _ => (pg_name (i := 11) sc__law_web.nd rfl (.inr rfl))) (fun _ _ _ _ _ => pts_nil) (fun _ _ _ _ _ => pe_lc (own := [("_law_k", 6)]) rfl sc__law_web.nd (pi_range1 (by rfl) B.n_range (pa_cons (pe_callB call_len_seq (by rfl) B.n_len (by decide +kernel) (pa_cons (pv 5) pa_nil)) pa_nil)) (blkOk_in (N := N__law_web) rfl (by decide +kernel)) (fun _ _ _ _ _ => (pg_name (i := 6) sc__law_web.nd rfl (.inl rfl))) (fun _ _ _ _ _ => pts_one (pt_cmpR (op_eqX hr.units) (pe_ix ix_seq (pe_ix ix_seq (pv 5) (pv 6) (fun _ _ => rfl)) pe_int (fun _ _ => rfl)) (pv 11) (nomark _))) (fun _ _ _ _ _ => (pv 6))))
      (pss_cons (ps_if (pt_cmpR op_lt (pv 3) pe_int (nomark _)) (pss_one (ps_ret (pe_tupF (pa_cons (pe_callTy cr_tupF (by rfl) B.n_tuple (by decide +kernel) (pa_cons (pv 5) pa_nil)) (pa_cons (pe_callTy cr_tupF (by rfl) B.n_tuple (by decide +kernel) (pa_cons (pe_lc (own := [("_law_row", 12)]) rfl sc__law_web.nd (PI.or (pi_list (pv 9)) (pi_tup (pv 9))) (blkOk_by (N := N__law_web) (sc := defScope s__law_web) (by decide +kernel)) (fun _ _ _ _ _ => (pg_name (i := 12) sc__law_web.nd rfl (.inl rfl))) (fun _ _ _ _ _ => pts_nil) (fun _ _ _ _ _ => pe_callTy cr_tupF (by rfl) B.n_tuple (by decide +kernel) (pa_cons (pv 12) pa_nil))) pa_nil)) (pa_cons (pe_callTy cr_tupF (by rfl) B.n_tuple (by decide +kernel) (pa_cons (pe_lc (own := [("_law_row", 12)]) rfl sc__law_web.nd (PI.or (pi_list (pv 10)) (pi_tup (pv 10))) (blkOk_by (N := N__law_web) (sc := defScope s__law_web) (by decide +kernel)) (fun _ _ _ _ _ => (pg_name (i := 12) sc__law_web.nd rfl (.inl rfl))) (fun _ _ _ _ _ => pts_nil) (fun _ _ _ _ _ => pe_callTy cr_tupF (by rfl) B.n_tuple (by decide +kernel) (pa_cons (pe_back (pv 12)) pa_nil))) pa_nil)) pa_nil)))))) pss_nil)
      (pss_cons (ps_set (i := 9) sc__law_web.nd rfl (.inl rfl) (pe_callTy cr_tupF (by rfl) B.n_tuple (by decide +kernel) (pa_cons (pe_lc (own := [("_law_row", 12)]) rfl sc__law_web.nd (PI.or (pi_list (pv 9)) (pi_tup (pv 9))) (blkOk_by (N := N__law_web) (sc := defScope s__law_web) (by decide +kernel)) (fun _ _ _ _ _ => (pg_name (i := 12) sc__law_web.nd rfl (.inl rfl))) (fun _ _ _ _ _ => pts_nil) (fun _ _ _ _ _ => pe_g c__law_order hr (by decide) hG (by rfl) (pa_cons (pv 0) (pa_cons (pv 12) pa_nil)))) pa_nil)))
      (pss_one (ps_ret (pe_tupF (pa_cons (pe_callTy cr_tupF (by rfl) B.n_tuple (by decide +kernel) (pa_cons (pv 5) pa_nil)) (pa_cons (pv 9) (pa_cons (pe_callTy cr_tupF (by rfl) B.n_tuple (by decide +kernel) (pa_cons (pe_lc (own := [("_law_row", 12)]) rfl sc__law_web.nd (PI.or (pi_list (pv 10)) (pi_tup (pv 10))) (blkOk_by (N := N__law_web) (sc := defScope s__law_web) (by decide +kernel)) (fun _ _ _ _ _ => (pg_name (i := 12) sc__law_web.nd rfl (.inl rfl))) (fun _ _ _ _ _ => pts_nil) (fun _ _ _ _ _ => pe_g c__law_order hr (by decide) hG (by rfl) (pa_cons (pv 0) (pa_cons (pv 12) pa_nil)))) pa_nil)) pa_nil))))))))))))
theorem eq_F__law_wide_d : F__law_wide_d = runW 0 9 X__law_wide_d := by unfold F__law_wide_d; rfl
theorem c__law_wide (F : Dfn K mg "_law_wide" s__law_wide ["_law_deck_here"]) (B : Bm mg) (c__law_next : CalG P w K mg base 2 "_law_next" (spW F__law_next_c)) (c__law_one : CalG P w K mg base 3 "_law_one" (spW F__law_one_b)) (c__law_order : CalG P w K mg base 3 "_law_order" (spW F__law_order_d)) : CalG P w K mg base 4 "_law_wide" (spW F__law_wide_d) := by
  rw [eq_F__law_wide_d]
  refine cal_g F sc__law_wide (fun vs H Q E h => len_W h) (fun f cdv A outer s H E hG hr => ⟨T__law_wide_d, ?_, fun vs Q h => go_W (n := 0) (k := 9) (ss__law_wide_d) rfl h⟩)
  unfold T__law_wide_d
  exact pss_cons (ps_set (i := 1) sc__law_wide.nd rfl (.inl rfl) (pe_op op_addU pe_int (pe_g c__law_next hr (by decide) hG (by rfl) (pa_cons (pv 0) (pa_cons pe_int pa_nil)))))
      (pss_cons (ps_set (i := 2) sc__law_wide.nd rfl (.inr rfl) (pe_lst pa_nil))
      (pss_cons (ps_for PassesOwn.never rfl (pi_range1 (by rfl) B.n_range (pa_cons (pe_op op_addU pe_int (pe_g c__law_next hr (by decide) hG (by rfl) (pa_cons (pv 0) (pa_cons pe_int pa_nil)))) pa_nil)) (pg_name (i := 3) sc__law_wide.nd rfl (.inl rfl)) (pss_cons (ps_set (i := 4) sc__law_wide.nd rfl (.inl rfl) (pe_op op_addU (pe_lst (pa_cons pe_non pa_nil)) (pe_listRg rfl (by rfl) B.n_list (prg_1 (by rfl) B.n_range (pv 1)))))
      (pss_cons (ps_set (i := 5) sc__law_wide.nd rfl (.inl rfl) (pe_bm PySem.F.plainAttrs_list PySem.F.slot_list_pop PySem.F.type_list_pop mt_popAt (pv 4) (pa_cons (pe_g c__law_next hr (by decide) hG (by rfl) (pa_cons (pv 0) (pa_cons (pe_callB call_len_seq (by rfl) B.n_len (by decide +kernel) (pa_cons (pv 4) pa_nil)) pa_nil))) pa_nil)))
      (pss_cons (ps_set (i := 6) sc__law_wide.nd rfl (.inl rfl) (pe_ix ix_seq (pe_lst (pa_cons pe_int (pa_cons pe_int (pa_cons pe_int (pa_cons (pe_g c__law_next hr (by decide) hG (by rfl) (pa_cons (pv 0) (pa_cons (pe_op op_pow pe_int pe_int) pa_nil))) (pa_cons (pe_op op_sub (pe_op op_pow pe_int pe_int) (pe_g c__law_next hr (by decide) hG (by rfl) (pa_cons (pv 0) (pa_cons pe_int pa_nil)))) pa_nil)))))) (pe_g c__law_next hr (by decide) hG (by rfl) (pa_cons (pv 0) (pa_cons pe_int pa_nil))) (fun _ _ => rfl)))
      (pss_one (ps_expr (pe_bm PySem.F.plainAttrs_list PySem.F.slot_list_append PySem.F.type_list_append mt_append (pv 2) (pa_cons (pe_tupF (pa_cons (pv 5) (pa_cons (pe_g c__law_one hr (by decide) hG (by rfl) (pa_cons (pv 0) (pa_cons (pv 4) pa_nil))) (pa_cons (pv 6) pa_nil)))) pa_nil))))))))
      (pss_cons (ps_par (i := 7) (j := 8) rfl sc__law_wide.nd rfl rfl (by decide) rfl rfl (pa_cons (pe_lst pa_nil) (pa_cons (pe_lst pa_nil) pa_nil)) rfl)
      (pss_cons (ps_for PassesOwn.never rfl (pi_range1 (by rfl) B.n_range (pa_cons (pv 1) pa_nil)) (pg_name (i := 9) sc__law_wide.nd rfl (.inr rfl)) (pss_cons (ps_expr (pe_bm PySem.F.plainAttrs_list PySem.F.slot_list_append PySem.F.type_list_append mt_append (pv 7) (pa_cons (pe_g c__law_order hr (by decide) hG (by rfl) (pa_cons (pv 0) (pa_cons (pe_lc (own := [("_law_k", 3)]) rfl sc__law_wide.nd (pi_range1 (by rfl) B.n_range (pa_cons (pe_callB call_len_seq (by rfl) B.n_len (by decide +kernel) (pa_cons (pv 2) pa_nil)) pa_nil)) (blkOk_by (N := N__law_wide) (sc := defScope s__law_wide) (by decide +kernel)) (fun _ _ _ _ _ => (pg_name (i := 3) sc__law_wide.nd rfl (.inl rfl))) (fun _ _ _ _ _ => pts_one (pt_cmpR (op_eqX hr.units) (pe_ix ix_seq (pe_ix ix_seq (pv 2) (pv 3) (fun _ _ => rfl)) pe_int (fun _ _ => rfl)) (pv 9) (nomark _))) (fun _ _ _ _ _ => (pv 3))) pa_nil))) pa_nil)))
      (pss_one (ps_expr (pe_bm PySem.F.plainAttrs_list PySem.F.slot_list_append PySem.F.type_list_append mt_append (pv 8) (pa_cons (pe_g c__law_order hr (by decide) hG (by rfl) (pa_cons (pv 0) (pa_cons (pe_lc (own := [("_law_k", 3)]) rfl sc__law_wide.nd (pi_range1 (by rfl) B.n_range (pa_cons (pe_callB call_len_seq (by rfl) B.n_len (by decide +kernel) (pa_cons (pv 2) pa_nil)) pa_nil)) (blkOk_by (N := N__law_wide) (sc := defScope s__law_wide) (by decide +kernel)) (fun _ _ _ _ _ => (pg_name (i := 3) sc__law_wide.nd rfl (.inl rfl))) (fun _ _ _ _ _ => pts_one (pt_cmpR (op_eqX hr.units) (pe_ix ix_seq (pe_ix ix_seq (pv 2) (pv 3) (fun _ _ => rfl)) pe_int (fun _ _ => rfl)) (pv 9) (nomark _))) (fun _ _ _ _ _ => (pv 3))) pa_nil))) pa_nil))))))
      (pss_one (ps_ret (pe_tupF (pa_cons (pe_callTy cr_tupF (by rfl) B.n_tuple (by decide +kernel) (pa_cons (pv 2) pa_nil)) (pa_cons (pe_callTy cr_tupF (by rfl) B.n_tuple (by decide +kernel) (pa_cons (pv 7) pa_nil)) (pa_cons (pe_callTy cr_tupF (by rfl) B.n_tuple (by decide +kernel) (pa_cons (pv 8) pa_nil)) pa_nil))))))))))
theorem eq_F_law_z199 : F_law_z199 = runP 1 4 X_law_z199 := by unfold F_law_z199; rfl
theorem ok_law {f : Addr} {fd : FuncData} (F : Fun K "law" "law" s_law f fd) (B : Bm mg) (c__law_deck : CalG P w K mg base 1 "_law_deck" (spD F__law_deck_f)) (c__law_house_right : CalG P w K mg base 13 "_law_house_right" (spW F__law_house_right_d)) (c__law_next : CalG P w K mg base 2 "_law_next" (spW F__law_next_c)) (c__law_road_right : CalG P w K mg base 7 "_law_road_right" (spW F__law_road_right_c)) (c__law_web : CalG P w K mg base 4 "_law_web" (spW F__law_web_f)) (c__law_wide : CalG P w K mg base 4 "_law_wide" (spW F__law_wide_d)) : FnG P w K mg base 14 f fd ["_law_script"] (spF F_law_z199) := by
  rw [eq_F_law_z199]
  refine fn_g F sc_law (fun vs H Q E h => len_F h) (fun cdv A outer s H E hG hr => ⟨T_law_z199, ?_, fun vs Q h => go_P (n := 1) (k := 4) (ss_law_z199) rfl h⟩)
  unfold T_law_z199
  exact pss_cons (ps_set (i := 1) sc_law.nd rfl (.inl rfl) (pe_g c__law_deck hr (by decide) hG (by rfl) (pa_cons (pv 0) pa_nil)))
      (pss_cons (ps_for PassesOwn.never rfl (pi_range1 (by rfl) B.n_range (pa_cons pe_int pa_nil)) (pg_name (i := 2) sc_law.nd rfl (.inl rfl)) (pss_cons (ps_set (i := 3) sc_law.nd rfl (.inl rfl) (pe_ix ix_seq (pe_lst (pa_cons (pe_g c__law_web hr (by decide) hG (by rfl) (pa_cons (pv 1) (pa_cons pe_int (pa_cons pe_int pa_nil)))) (pa_cons (pe_g c__law_wide hr (by decide) hG (by rfl) (pa_cons (pv 1) pa_nil)) (pa_cons (pe_g c__law_web hr (by decide) hG (by rfl) (pa_cons (pv 1) (pa_cons pe_int (pa_cons pe_int pa_nil)))) pa_nil)))) (pe_g c__law_next hr (by decide) hG (by rfl) (pa_cons (pv 1) (pa_cons pe_int pa_nil))) (fun _ _ => rfl)))
      (pss_one (ps_for PassesOwn.never rfl (pi_range1 (by rfl) B.n_range (pa_cons pe_int pa_nil)) (pg_name (i := 4) sc_law.nd rfl (.inl rfl)) (pss_cons (ps_if (pt_not (pt_val (pe_g c__law_road_right hr (by decide) hG (by rfl) (pa_cons (pv 1) (pa_cons (pv 3) (pa_cons (pe_g c__law_next hr (by decide) hG (by rfl) (pa_cons (pv 1) (pa_cons (pe_callB call_len_seq (by rfl) B.n_len (by decide +kernel) (pa_cons (pe_ix ix_seq (pv 3) pe_int (fun _ _ => rfl)) pa_nil)) pa_nil))) pa_nil)))))) (pss_one (ps_ret pe_bl)) pss_nil)
      (pss_one (ps_if (pt_not (pt_val (pe_g c__law_house_right hr (by decide) hG (by rfl) (pa_cons (pv 1) (pa_cons (pv 3) (pa_cons (pe_g c__law_next hr (by decide) hG (by rfl) (pa_cons (pv 1) (pa_cons (pe_callB call_len_seq (by rfl) B.n_len (by decide +kernel) (pa_cons (pe_ix ix_seq (pv 3) pe_int (fun _ _ => rfl)) pa_nil)) pa_nil))) pa_nil)))))) (pss_one (ps_ret pe_bl)) pss_nil)))))))
      (pss_one (ps_ret pe_bl)))
end
theorem bi0 (kV doc pm : Value) (an : Option Addr) (cdv ct : Value) (us : List Value) (hl : us.length = 1) : bindArgs (PySem.W.fnOf "_law_deck" "_law_deck" (defArgs s__law_deck) (defBody s__law_deck) (defScope s__law_deck) .none kV doc pm an cdv ct) ⟨us, []⟩ = pure ((["_law_script"] : List Str).zip us) := match us, hl with | [_], _ => rfl
theorem bi1 (kV doc pm : Value) (an : Option Addr) (cdv ct : Value) (us : List Value) (hl : us.length = 2) : bindArgs (PySem.W.fnOf "_law_mixed" "_law_mixed" (defArgs s__law_mixed) (defBody s__law_mixed) (defScope s__law_mixed) .none kV doc pm an cdv ct) ⟨us, []⟩ = pure ((["_law_cell", "_law_turn"] : List Str).zip us) := match us, hl with | [_, _], _ => rfl
theorem bi2 (kV doc pm : Value) (an : Option Addr) (cdv ct : Value) (us : List Value) (hl : us.length = 2) : bindArgs (PySem.W.fnOf "_law_next" "_law_next" (defArgs s__law_next) (defBody s__law_next) (defScope s__law_next) .none kV doc pm an cdv ct) ⟨us, []⟩ = pure ((["_law_deck_here", "_law_many"] : List Str).zip us) := match us, hl with | [_, _], _ => rfl
theorem bi3 (kV doc pm : Value) (an : Option Addr) (cdv ct : Value) (us : List Value) (hl : us.length = 1) : bindArgs (PySem.W.fnOf "_law_odd" "_law_odd" (defArgs s__law_odd) (defBody s__law_odd) (defScope s__law_odd) .none kV doc pm an cdv ct) ⟨us, []⟩ = pure ((["_law_deck_here"] : List Str).zip us) := match us, hl with | [_], _ => rfl
theorem bi4 (kV doc pm : Value) (an : Option Addr) (cdv ct : Value) (us : List Value) (hl : us.length = 3) : bindArgs (PySem.W.fnOf "_law_bent" "_law_bent" (defArgs s__law_bent) (defBody s__law_bent) (defScope s__law_bent) .none kV doc pm an cdv ct) ⟨us, []⟩ = pure ((["_law_deck_here", "_law_thing", "_law_deep"] : List Str).zip us) := match us, hl with | [_, _, _], _ => rfl
theorem bi5 (kV doc pm : Value) (an : Option Addr) (cdv ct : Value) (us : List Value) (hl : us.length = 4) : bindArgs (PySem.W.fnOf "_law_ordered" "_law_ordered" (defArgs s__law_ordered) (defBody s__law_ordered) (defScope s__law_ordered) .none kV doc pm an cdv ct) ⟨us, []⟩ = pure ((["_law_web_here", "_law_house", "_law_order_here", "_law_side"] : List Str).zip us) := match us, hl with | [_, _, _, _], _ => rfl
theorem bi6 (kV doc pm : Value) (an : Option Addr) (cdv ct : Value) (us : List Value) (hl : us.length = 2) : bindArgs (PySem.W.fnOf "_law_whole" "_law_whole" (defArgs s__law_whole) (defBody s__law_whole) (defScope s__law_whole) .none kV doc pm an cdv ct) ⟨us, []⟩ = pure ((["_law_thing", "_law_most"] : List Str).zip us) := match us, hl with | [_, _], _ => rfl
theorem bi7 (kV doc pm : Value) (an : Option Addr) (cdv ct : Value) (us : List Value) (hl : us.length = 4) : bindArgs (PySem.W.fnOf "_law_liking" "_law_liking" (defArgs s__law_liking) (defBody s__law_liking) (defScope s__law_liking) .none kV doc pm an cdv ct) ⟨us, []⟩ = pure ((["_law_web_here", "_law_house", "_law_order_here", "_law_side"] : List Str).zip us) := match us, hl with | [_, _, _, _], _ => rfl
theorem bi8 (kV doc pm : Value) (an : Option Addr) (cdv ct : Value) (us : List Value) (hl : us.length = 2) : bindArgs (PySem.W.fnOf "_law_one" "_law_one" (defArgs s__law_one) (defBody s__law_one) (defScope s__law_one) .none kV doc pm an cdv ct) ⟨us, []⟩ = pure ((["_law_deck_here", "_law_things"] : List Str).zip us) := match us, hl with | [_, _], _ => rfl
theorem bi9 (kV doc pm : Value) (an : Option Addr) (cdv ct : Value) (us : List Value) (hl : us.length = 2) : bindArgs (PySem.W.fnOf "_law_order" "_law_order" (defArgs s__law_order) (defBody s__law_order) (defScope s__law_order) .none kV doc pm an cdv ct) ⟨us, []⟩ = pure ((["_law_deck_here", "_law_some"] : List Str).zip us) := match us, hl with | [_, _], _ => rfl
theorem bi10 (kV doc pm : Value) (an : Option Addr) (cdv ct : Value) (us : List Value) (hl : us.length = 1) : bindArgs (PySem.W.fnOf "_law_alone" "_law_alone" (defArgs s__law_alone) (defBody s__law_alone) (defScope s__law_alone) .none kV doc pm an cdv ct) ⟨us, []⟩ = pure ((["_law_e"] : List Str).zip us) := match us, hl with | [_], _ => rfl
theorem bi11 (kV doc pm : Value) (an : Option Addr) (cdv ct : Value) (us : List Value) (hl : us.length = 1) : bindArgs (PySem.W.fnOf "order_place" "order_place" (defArgs s_order_place) (defBody s_order_place) (defScope s_order_place) .none kV doc pm an cdv ct) ⟨us, []⟩ = pure ((["giving"] : List Str).zip us) := match us, hl with | [_], _ => rfl
theorem bi12 (kV doc pm : Value) (an : Option Addr) (cdv ct : Value) (us : List Value) (hl : us.length = 3) : bindArgs (PySem.W.fnOf "exchanged" "exchanged" (defArgs s_exchanged) (defBody s_exchanged) (defScope s_exchanged) .none kV doc pm an cdv ct) ⟨us, []⟩ = pure ((["things", "at", "thing"] : List Str).zip us) := match us, hl with | [_, _, _], _ => rfl
theorem bi13 (kV doc pm : Value) (an : Option Addr) (cdv ct : Value) (us : List Value) (hl : us.length = 1) : bindArgs (PySem.W.fnOf "is_number" "is_number" (defArgs s_is_number) (defBody s_is_number) (defScope s_is_number) .none kV doc pm an cdv ct) ⟨us, []⟩ = pure ((["thing"] : List Str).zip us) := match us, hl with | [_], _ => rfl
theorem bi14 (kV doc pm : Value) (an : Option Addr) (cdv ct : Value) (us : List Value) (hl : us.length = 2) : bindArgs (PySem.W.fnOf "is_order" "is_order" (defArgs s_is_order) (defBody s_is_order) (defScope s_is_order) .none kV doc pm an cdv ct) ⟨us, []⟩ = pure ((["thing", "numbers"] : List Str).zip us) := match us, hl with | [_, _], _ => rfl
theorem bi17 (kV doc pm : Value) (an : Option Addr) (cdv ct : Value) (us : List Value) (hl : us.length = 2) : bindArgs (PySem.W.fnOf "orders_without" "orders_without" (defArgs s_orders_without) (defBody s_orders_without) (defScope s_orders_without) .none kV doc pm an cdv ct) ⟨us, []⟩ = pure ((["orders", "road"] : List Str).zip us) := match us, hl with | [_, _], _ => rfl
theorem bi18 (kV doc pm : Value) (an : Option Addr) (cdv ct : Value) (us : List Value) (hl : us.length = 2) : bindArgs (PySem.W.fnOf "without" "without" (defArgs s_without) (defBody s_without) (defScope s_without) .none kV doc pm an cdv ct) ⟨us, []⟩ = pure ((["web", "road"] : List Str).zip us) := match us, hl with | [_, _], _ => rfl
theorem bi19 (kV doc pm : Value) (an : Option Addr) (cdv ct : Value) (us : List Value) (hl : us.length = 2) : bindArgs (PySem.W.fnOf "_law_told" "_law_told" (defArgs s__law_told) (defBody s__law_told) (defScope s__law_told) .none kV doc pm an cdv ct) ⟨us, []⟩ = pure ((["_law_web_here", "_law_call"] : List Str).zip us) := match us, hl with | [_, _], _ => rfl
theorem bi20 (kV doc pm : Value) (an : Option Addr) (cdv ct : Value) (us : List Value) (hl : us.length = 3) : bindArgs (PySem.W.fnOf "_law_right" "_law_right" (defArgs s__law_right) (defBody s__law_right) (defScope s__law_right) .none kV doc pm an cdv ct) ⟨us, []⟩ = pure ((["_law_web_here", "_law_call", "_law_due"] : List Str).zip us) := match us, hl with | [_, _, _], _ => rfl
theorem bi21 (kV doc pm : Value) (an : Option Addr) (cdv ct : Value) (us : List Value) (hl : us.length = 3) : bindArgs (PySem.W.fnOf "_law_house_right" "_law_house_right" (defArgs s__law_house_right) (defBody s__law_house_right) (defScope s__law_house_right) .none kV doc pm an cdv ct) ⟨us, []⟩ = pure ((["_law_deck_here", "_law_web_here", "_law_house"] : List Str).zip us) := match us, hl with | [_, _, _], _ => rfl
theorem bi22 (kV doc pm : Value) (an : Option Addr) (cdv ct : Value) (us : List Value) (hl : us.length = 3) : bindArgs (PySem.W.fnOf "_law_least" "_law_least" (defArgs s__law_least) (defBody s__law_least) (defScope s__law_least) .none kV doc pm an cdv ct) ⟨us, []⟩ = pure ((["_law_web_here", "_law_road", "_law_side"] : List Str).zip us) := match us, hl with | [_, _, _], _ => rfl
theorem bi23 (kV doc pm : Value) (an : Option Addr) (cdv ct : Value) (us : List Value) (hl : us.length = 2) : bindArgs (PySem.W.fnOf "_law_without" "_law_without" (defArgs s__law_without) (defBody s__law_without) (defScope s__law_without) .none kV doc pm an cdv ct) ⟨us, []⟩ = pure ((["_law_web_here", "_law_road"] : List Str).zip us) := match us, hl with | [_, _], _ => rfl
theorem bi24 (kV doc pm : Value) (an : Option Addr) (cdv ct : Value) (us : List Value) (hl : us.length = 3) : bindArgs (PySem.W.fnOf "_law_road_right" "_law_road_right" (defArgs s__law_road_right) (defBody s__law_road_right) (defScope s__law_road_right) .none kV doc pm an cdv ct) ⟨us, []⟩ = pure ((["_law_deck_here", "_law_web_here", "_law_road"] : List Str).zip us) := match us, hl with | [_, _, _], _ => rfl
theorem bi25 (kV doc pm : Value) (an : Option Addr) (cdv ct : Value) (us : List Value) (hl : us.length = 3) : bindArgs (PySem.W.fnOf "_law_web" "_law_web" (defArgs s__law_web) (defBody s__law_web) (defScope s__law_web) .none kV doc pm an cdv ct) ⟨us, []⟩ = pure ((["_law_deck_here", "_law_most", "_law_many"] : List Str).zip us) := match us, hl with | [_, _, _], _ => rfl
theorem bi26 (kV doc pm : Value) (an : Option Addr) (cdv ct : Value) (us : List Value) (hl : us.length = 1) : bindArgs (PySem.W.fnOf "_law_wide" "_law_wide" (defArgs s__law_wide) (defBody s__law_wide) (defScope s__law_wide) .none kV doc pm an cdv ct) ⟨us, []⟩ = pure ((["_law_deck_here"] : List Str).zip us) := match us, hl with | [_], _ => rfl
theorem all_mk {l : PySem.W.OpenLaw} {w : World} {K : PySem.W.Frag} {h : Heap} {mg : Str → Option Value} {fa : Addr} (X : K.In h) (G : h.Ns mainGlobals mg) (hfa : mg "law" = some (.ref fa))
    {f0 : Addr} {od0 an0 : Option Addr} {sl0 : Array (Option Value)} {oc0 kV0 dc0 pm0 cd0 ct0 : Value}
    {f1 : Addr} {od1 an1 : Option Addr} {sl1 : Array (Option Value)} {oc1 kV1 dc1 pm1 cd1 ct1 : Value}
    {f2 : Addr} {od2 an2 : Option Addr} {sl2 : Array (Option Value)} {oc2 kV2 dc2 pm2 cd2 ct2 : Value}
    {f3 : Addr} {od3 an3 : Option Addr} {sl3 : Array (Option Value)} {oc3 kV3 dc3 pm3 cd3 ct3 : Value}
    {f4 : Addr} {od4 an4 : Option Addr} {sl4 : Array (Option Value)} {oc4 kV4 dc4 pm4 cd4 ct4 : Value}
    {f5 : Addr} {od5 an5 : Option Addr} {sl5 : Array (Option Value)} {oc5 kV5 dc5 pm5 cd5 ct5 : Value}
    {f6 : Addr} {od6 an6 : Option Addr} {sl6 : Array (Option Value)} {oc6 kV6 dc6 pm6 cd6 ct6 : Value}
    {f7 : Addr} {od7 an7 : Option Addr} {sl7 : Array (Option Value)} {oc7 kV7 dc7 pm7 cd7 ct7 : Value}
    {f8 : Addr} {od8 an8 : Option Addr} {sl8 : Array (Option Value)} {oc8 kV8 dc8 pm8 cd8 ct8 : Value}
    {f9 : Addr} {od9 an9 : Option Addr} {sl9 : Array (Option Value)} {oc9 kV9 dc9 pm9 cd9 ct9 : Value}
    {f10 : Addr} {od10 an10 : Option Addr} {sl10 : Array (Option Value)} {oc10 kV10 dc10 pm10 cd10 ct10 : Value}
    {f11 : Addr} {od11 an11 : Option Addr} {sl11 : Array (Option Value)} {oc11 kV11 dc11 pm11 cd11 ct11 : Value}
    {f12 : Addr} {od12 an12 : Option Addr} {sl12 : Array (Option Value)} {oc12 kV12 dc12 pm12 cd12 ct12 : Value}
    {f13 : Addr} {od13 an13 : Option Addr} {sl13 : Array (Option Value)} {oc13 kV13 dc13 pm13 cd13 ct13 : Value}
    {f14 : Addr} {od14 an14 : Option Addr} {sl14 : Array (Option Value)} {oc14 kV14 dc14 pm14 cd14 ct14 : Value}
    {f15 kD15 : Addr} {od15 an15 : Option Addr} {sl15 : Array (Option Value)} {oc15 dc15 pm15 cd15 ct15 : Value}
    {f16 kD16 : Addr} {od16 an16 : Option Addr} {sl16 : Array (Option Value)} {oc16 dc16 pm16 cd16 ct16 : Value}
    {f17 : Addr} {od17 an17 : Option Addr} {sl17 : Array (Option Value)} {oc17 kV17 dc17 pm17 cd17 ct17 : Value}
    {f18 : Addr} {od18 an18 : Option Addr} {sl18 : Array (Option Value)} {oc18 kV18 dc18 pm18 cd18 ct18 : Value}
    {f19 : Addr} {od19 an19 : Option Addr} {sl19 : Array (Option Value)} {oc19 kV19 dc19 pm19 cd19 ct19 : Value}
    {f20 : Addr} {od20 an20 : Option Addr} {sl20 : Array (Option Value)} {oc20 kV20 dc20 pm20 cd20 ct20 : Value}
    {f21 : Addr} {od21 an21 : Option Addr} {sl21 : Array (Option Value)} {oc21 kV21 dc21 pm21 cd21 ct21 : Value}
    {f22 : Addr} {od22 an22 : Option Addr} {sl22 : Array (Option Value)} {oc22 kV22 dc22 pm22 cd22 ct22 : Value}
    {f23 : Addr} {od23 an23 : Option Addr} {sl23 : Array (Option Value)} {oc23 kV23 dc23 pm23 cd23 ct23 : Value}
    {f24 : Addr} {od24 an24 : Option Addr} {sl24 : Array (Option Value)} {oc24 kV24 dc24 pm24 cd24 ct24 : Value}
    {f25 : Addr} {od25 an25 : Option Addr} {sl25 : Array (Option Value)} {oc25 kV25 dc25 pm25 cd25 ct25 : Value}
    {f26 : Addr} {od26 an26 : Option Addr} {sl26 : Array (Option Value)} {oc26 kV26 dc26 pm26 cd26 ct26 : Value}
    {f27 : Addr} {od27 an27 : Option Addr} {sl27 : Array (Option Value)} {oc27 kV27 dc27 pm27 cd27 ct27 : Value}
    {C_WebError : Addr}
    {C_TooGreat : Addr}
    {C_Full : Addr}
    {C_NoRoads : Addr}
    {C_BadOrder : Addr}
    (a0 : PySem.W.nsIn K mainGlobals "_law_deck" = some (some (.ref f0)))
    (l0 : K.lookup f0 = some ⟨oc0, od0, .func (PySem.W.fnOf "_law_deck" "_law_deck" (defArgs s__law_deck) (defBody s__law_deck) (defScope s__law_deck) .none kV0 dc0 pm0 an0 cd0 ct0), sl0⟩)
    (c0 : PySem.W.codeIn K cd0 "_law_deck" = true)
    (k0 : PySem.W.keepIn K (.ref f0) = true)
    (a1 : PySem.W.nsIn K mainGlobals "_law_mixed" = some (some (.ref f1)))
    (l1 : K.lookup f1 = some ⟨oc1, od1, .func (PySem.W.fnOf "_law_mixed" "_law_mixed" (defArgs s__law_mixed) (defBody s__law_mixed) (defScope s__law_mixed) .none kV1 dc1 pm1 an1 cd1 ct1), sl1⟩)
    (c1 : PySem.W.codeIn K cd1 "_law_mixed" = true)
    (k1 : PySem.W.keepIn K (.ref f1) = true)
    (a2 : PySem.W.nsIn K mainGlobals "_law_next" = some (some (.ref f2)))
    (l2 : K.lookup f2 = some ⟨oc2, od2, .func (PySem.W.fnOf "_law_next" "_law_next" (defArgs s__law_next) (defBody s__law_next) (defScope s__law_next) .none kV2 dc2 pm2 an2 cd2 ct2), sl2⟩)
    (c2 : PySem.W.codeIn K cd2 "_law_next" = true)
    (k2 : PySem.W.keepIn K (.ref f2) = true)
    (a3 : PySem.W.nsIn K mainGlobals "_law_odd" = some (some (.ref f3)))
    (l3 : K.lookup f3 = some ⟨oc3, od3, .func (PySem.W.fnOf "_law_odd" "_law_odd" (defArgs s__law_odd) (defBody s__law_odd) (defScope s__law_odd) .none kV3 dc3 pm3 an3 cd3 ct3), sl3⟩)
    (c3 : PySem.W.codeIn K cd3 "_law_odd" = true)
    (k3 : PySem.W.keepIn K (.ref f3) = true)
    (a4 : PySem.W.nsIn K mainGlobals "_law_bent" = some (some (.ref f4)))
    (l4 : K.lookup f4 = some ⟨oc4, od4, .func (PySem.W.fnOf "_law_bent" "_law_bent" (defArgs s__law_bent) (defBody s__law_bent) (defScope s__law_bent) .none kV4 dc4 pm4 an4 cd4 ct4), sl4⟩)
    (c4 : PySem.W.codeIn K cd4 "_law_bent" = true)
    (k4 : PySem.W.keepIn K (.ref f4) = true)
    (a5 : PySem.W.nsIn K mainGlobals "_law_ordered" = some (some (.ref f5)))
    (l5 : K.lookup f5 = some ⟨oc5, od5, .func (PySem.W.fnOf "_law_ordered" "_law_ordered" (defArgs s__law_ordered) (defBody s__law_ordered) (defScope s__law_ordered) .none kV5 dc5 pm5 an5 cd5 ct5), sl5⟩)
    (c5 : PySem.W.codeIn K cd5 "_law_ordered" = true)
    (k5 : PySem.W.keepIn K (.ref f5) = true)
    (a6 : PySem.W.nsIn K mainGlobals "_law_whole" = some (some (.ref f6)))
    (l6 : K.lookup f6 = some ⟨oc6, od6, .func (PySem.W.fnOf "_law_whole" "_law_whole" (defArgs s__law_whole) (defBody s__law_whole) (defScope s__law_whole) .none kV6 dc6 pm6 an6 cd6 ct6), sl6⟩)
    (c6 : PySem.W.codeIn K cd6 "_law_whole" = true)
    (k6 : PySem.W.keepIn K (.ref f6) = true)
    (a7 : PySem.W.nsIn K mainGlobals "_law_liking" = some (some (.ref f7)))
    (l7 : K.lookup f7 = some ⟨oc7, od7, .func (PySem.W.fnOf "_law_liking" "_law_liking" (defArgs s__law_liking) (defBody s__law_liking) (defScope s__law_liking) .none kV7 dc7 pm7 an7 cd7 ct7), sl7⟩)
    (c7 : PySem.W.codeIn K cd7 "_law_liking" = true)
    (k7 : PySem.W.keepIn K (.ref f7) = true)
    (a8 : PySem.W.nsIn K mainGlobals "_law_one" = some (some (.ref f8)))
    (l8 : K.lookup f8 = some ⟨oc8, od8, .func (PySem.W.fnOf "_law_one" "_law_one" (defArgs s__law_one) (defBody s__law_one) (defScope s__law_one) .none kV8 dc8 pm8 an8 cd8 ct8), sl8⟩)
    (c8 : PySem.W.codeIn K cd8 "_law_one" = true)
    (k8 : PySem.W.keepIn K (.ref f8) = true)
    (a9 : PySem.W.nsIn K mainGlobals "_law_order" = some (some (.ref f9)))
    (l9 : K.lookup f9 = some ⟨oc9, od9, .func (PySem.W.fnOf "_law_order" "_law_order" (defArgs s__law_order) (defBody s__law_order) (defScope s__law_order) .none kV9 dc9 pm9 an9 cd9 ct9), sl9⟩)
    (c9 : PySem.W.codeIn K cd9 "_law_order" = true)
    (k9 : PySem.W.keepIn K (.ref f9) = true)
    (a10 : PySem.W.nsIn K mainGlobals "_law_alone" = some (some (.ref f10)))
    (l10 : K.lookup f10 = some ⟨oc10, od10, .func (PySem.W.fnOf "_law_alone" "_law_alone" (defArgs s__law_alone) (defBody s__law_alone) (defScope s__law_alone) .none kV10 dc10 pm10 an10 cd10 ct10), sl10⟩)
    (c10 : PySem.W.codeIn K cd10 "_law_alone" = true)
    (k10 : PySem.W.keepIn K (.ref f10) = true)
    (a11 : PySem.W.nsIn K mainGlobals "order_place" = some (some (.ref f11)))
    (l11 : K.lookup f11 = some ⟨oc11, od11, .func (PySem.W.fnOf "order_place" "order_place" (defArgs s_order_place) (defBody s_order_place) (defScope s_order_place) .none kV11 dc11 pm11 an11 cd11 ct11), sl11⟩)
    (c11 : PySem.W.codeIn K cd11 "order_place" = true)
    (k11 : PySem.W.keepIn K (.ref f11) = true)
    (a12 : PySem.W.nsIn K mainGlobals "exchanged" = some (some (.ref f12)))
    (l12 : K.lookup f12 = some ⟨oc12, od12, .func (PySem.W.fnOf "exchanged" "exchanged" (defArgs s_exchanged) (defBody s_exchanged) (defScope s_exchanged) .none kV12 dc12 pm12 an12 cd12 ct12), sl12⟩)
    (c12 : PySem.W.codeIn K cd12 "exchanged" = true)
    (k12 : PySem.W.keepIn K (.ref f12) = true)
    (a13 : PySem.W.nsIn K mainGlobals "is_number" = some (some (.ref f13)))
    (l13 : K.lookup f13 = some ⟨oc13, od13, .func (PySem.W.fnOf "is_number" "is_number" (defArgs s_is_number) (defBody s_is_number) (defScope s_is_number) .none kV13 dc13 pm13 an13 cd13 ct13), sl13⟩)
    (c13 : PySem.W.codeIn K cd13 "is_number" = true)
    (k13 : PySem.W.keepIn K (.ref f13) = true)
    (a14 : PySem.W.nsIn K mainGlobals "is_order" = some (some (.ref f14)))
    (l14 : K.lookup f14 = some ⟨oc14, od14, .func (PySem.W.fnOf "is_order" "is_order" (defArgs s_is_order) (defBody s_is_order) (defScope s_is_order) .none kV14 dc14 pm14 an14 cd14 ct14), sl14⟩)
    (c14 : PySem.W.codeIn K cd14 "is_order" = true)
    (k14 : PySem.W.keepIn K (.ref f14) = true)
    (a15 : PySem.W.nsIn K mainGlobals "with_like" = some (some (.ref f15)))
    (l15 : K.lookup f15 = some ⟨oc15, od15, .func (PySem.W.fnOf "with_like" "with_like" (defArgs s_with_like) (defBody s_with_like) (defScope s_with_like) .none (.ref kD15) dc15 pm15 an15 cd15 ct15), sl15⟩)
    (c15 : PySem.W.codeIn K cd15 "with_like" = true)
    (k15 : PySem.W.keepIn K (.ref f15) = true)
    (d15 : PySem.W.nsIn K kD15 "giving" = some (some (.bool true)))
    (a16 : PySem.W.nsIn K mainGlobals "liked_less" = some (some (.ref f16)))
    (l16 : K.lookup f16 = some ⟨oc16, od16, .func (PySem.W.fnOf "liked_less" "liked_less" (defArgs s_liked_less) (defBody s_liked_less) (defScope s_liked_less) .none (.ref kD16) dc16 pm16 an16 cd16 ct16), sl16⟩)
    (c16 : PySem.W.codeIn K cd16 "liked_less" = true)
    (k16 : PySem.W.keepIn K (.ref f16) = true)
    (d16 : PySem.W.nsIn K kD16 "giving" = some (some (.bool true)))
    (a17 : PySem.W.nsIn K mainGlobals "orders_without" = some (some (.ref f17)))
    (l17 : K.lookup f17 = some ⟨oc17, od17, .func (PySem.W.fnOf "orders_without" "orders_without" (defArgs s_orders_without) (defBody s_orders_without) (defScope s_orders_without) .none kV17 dc17 pm17 an17 cd17 ct17), sl17⟩)
    (c17 : PySem.W.codeIn K cd17 "orders_without" = true)
    (k17 : PySem.W.keepIn K (.ref f17) = true)
    (a18 : PySem.W.nsIn K mainGlobals "without" = some (some (.ref f18)))
    (l18 : K.lookup f18 = some ⟨oc18, od18, .func (PySem.W.fnOf "without" "without" (defArgs s_without) (defBody s_without) (defScope s_without) .none kV18 dc18 pm18 an18 cd18 ct18), sl18⟩)
    (c18 : PySem.W.codeIn K cd18 "without" = true)
    (k18 : PySem.W.keepIn K (.ref f18) = true)
    (a19 : PySem.W.nsIn K mainGlobals "_law_told" = some (some (.ref f19)))
    (l19 : K.lookup f19 = some ⟨oc19, od19, .func (PySem.W.fnOf "_law_told" "_law_told" (defArgs s__law_told) (defBody s__law_told) (defScope s__law_told) .none kV19 dc19 pm19 an19 cd19 ct19), sl19⟩)
    (c19 : PySem.W.codeIn K cd19 "_law_told" = true)
    (k19 : PySem.W.keepIn K (.ref f19) = true)
    (a20 : PySem.W.nsIn K mainGlobals "_law_right" = some (some (.ref f20)))
    (l20 : K.lookup f20 = some ⟨oc20, od20, .func (PySem.W.fnOf "_law_right" "_law_right" (defArgs s__law_right) (defBody s__law_right) (defScope s__law_right) .none kV20 dc20 pm20 an20 cd20 ct20), sl20⟩)
    (c20 : PySem.W.codeIn K cd20 "_law_right" = true)
    (k20 : PySem.W.keepIn K (.ref f20) = true)
    (a21 : PySem.W.nsIn K mainGlobals "_law_house_right" = some (some (.ref f21)))
    (l21 : K.lookup f21 = some ⟨oc21, od21, .func (PySem.W.fnOf "_law_house_right" "_law_house_right" (defArgs s__law_house_right) (defBody s__law_house_right) (defScope s__law_house_right) .none kV21 dc21 pm21 an21 cd21 ct21), sl21⟩)
    (c21 : PySem.W.codeIn K cd21 "_law_house_right" = true)
    (k21 : PySem.W.keepIn K (.ref f21) = true)
    (a22 : PySem.W.nsIn K mainGlobals "_law_least" = some (some (.ref f22)))
    (l22 : K.lookup f22 = some ⟨oc22, od22, .func (PySem.W.fnOf "_law_least" "_law_least" (defArgs s__law_least) (defBody s__law_least) (defScope s__law_least) .none kV22 dc22 pm22 an22 cd22 ct22), sl22⟩)
    (c22 : PySem.W.codeIn K cd22 "_law_least" = true)
    (k22 : PySem.W.keepIn K (.ref f22) = true)
    (a23 : PySem.W.nsIn K mainGlobals "_law_without" = some (some (.ref f23)))
    (l23 : K.lookup f23 = some ⟨oc23, od23, .func (PySem.W.fnOf "_law_without" "_law_without" (defArgs s__law_without) (defBody s__law_without) (defScope s__law_without) .none kV23 dc23 pm23 an23 cd23 ct23), sl23⟩)
    (c23 : PySem.W.codeIn K cd23 "_law_without" = true)
    (k23 : PySem.W.keepIn K (.ref f23) = true)
    (a24 : PySem.W.nsIn K mainGlobals "_law_road_right" = some (some (.ref f24)))
    (l24 : K.lookup f24 = some ⟨oc24, od24, .func (PySem.W.fnOf "_law_road_right" "_law_road_right" (defArgs s__law_road_right) (defBody s__law_road_right) (defScope s__law_road_right) .none kV24 dc24 pm24 an24 cd24 ct24), sl24⟩)
    (c24 : PySem.W.codeIn K cd24 "_law_road_right" = true)
    (k24 : PySem.W.keepIn K (.ref f24) = true)
    (a25 : PySem.W.nsIn K mainGlobals "_law_web" = some (some (.ref f25)))
    (l25 : K.lookup f25 = some ⟨oc25, od25, .func (PySem.W.fnOf "_law_web" "_law_web" (defArgs s__law_web) (defBody s__law_web) (defScope s__law_web) .none kV25 dc25 pm25 an25 cd25 ct25), sl25⟩)
    (c25 : PySem.W.codeIn K cd25 "_law_web" = true)
    (k25 : PySem.W.keepIn K (.ref f25) = true)
    (a26 : PySem.W.nsIn K mainGlobals "_law_wide" = some (some (.ref f26)))
    (l26 : K.lookup f26 = some ⟨oc26, od26, .func (PySem.W.fnOf "_law_wide" "_law_wide" (defArgs s__law_wide) (defBody s__law_wide) (defScope s__law_wide) .none kV26 dc26 pm26 an26 cd26 ct26), sl26⟩)
    (c26 : PySem.W.codeIn K cd26 "_law_wide" = true)
    (k26 : PySem.W.keepIn K (.ref f26) = true)
    (a27 : PySem.W.nsIn K mainGlobals "law" = some (some (.ref f27)))
    (l27 : K.lookup f27 = some ⟨oc27, od27, .func (PySem.W.fnOf "law" "law" (defArgs s_law) (defBody s_law) (defScope s_law) .none kV27 dc27 pm27 an27 cd27 ct27), sl27⟩)
    (c27 : PySem.W.codeIn K cd27 "law" = true)
    (k27 : PySem.W.keepIn K (.ref f27) = true)
    (z_ValueError : PySem.W.nsIn K mainGlobals "ValueError" = some none)
    (z_abs : PySem.W.nsIn K mainGlobals "abs" = some none)
    (z_all : PySem.W.nsIn K mainGlobals "all" = some none)
    (z_bool : PySem.W.nsIn K mainGlobals "bool" = some none)
    (z_int : PySem.W.nsIn K mainGlobals "int" = some none)
    (z_isinstance : PySem.W.nsIn K mainGlobals "isinstance" = some none)
    (z_len : PySem.W.nsIn K mainGlobals "len" = some none)
    (z_list : PySem.W.nsIn K mainGlobals "list" = some none)
    (z_max : PySem.W.nsIn K mainGlobals "max" = some none)
    (z_range : PySem.W.nsIn K mainGlobals "range" = some none)
    (z_repr : PySem.W.nsIn K mainGlobals "repr" = some none)
    (z_sorted : PySem.W.nsIn K mainGlobals "sorted" = some none)
    (z_sum : PySem.W.nsIn K mainGlobals "sum" = some none)
    (z_tuple : PySem.W.nsIn K mainGlobals "tuple" = some none)
    (y_WebError : PySem.W.nsIn K mainGlobals "WebError" = some (some (.ref C_WebError)))
    (y_TooGreat : PySem.W.nsIn K mainGlobals "TooGreat" = some (some (.ref C_TooGreat)))
    (y_Full : PySem.W.nsIn K mainGlobals "Full" = some (some (.ref C_Full)))
    (y_NoRoads : PySem.W.nsIn K mainGlobals "NoRoads" = some (some (.ref C_NoRoads)))
    (y_BadOrder : PySem.W.nsIn K mainGlobals "BadOrder" = some (some (.ref C_BadOrder)))
    (yt_BadOrder : PySem.W.typeIn K (.ref C_BadOrder) = some (.type "type"))
    (yh_BadOrder : PySem.W.hasDictIn K C_BadOrder = true)
    (yt_Full : PySem.W.typeIn K (.ref C_Full) = some (.type "type"))
    (yh_Full : PySem.W.hasDictIn K C_Full = true)
    (yt_NoRoads : PySem.W.typeIn K (.ref C_NoRoads) = some (.type "type"))
    (yh_NoRoads : PySem.W.hasDictIn K C_NoRoads = true)
    (yt_TooGreat : PySem.W.typeIn K (.ref C_TooGreat) = some (.type "type"))
    (yh_TooGreat : PySem.W.hasDictIn K C_TooGreat = true)
    (yt_WebError : PySem.W.typeIn K (.ref C_WebError) = some (.type "type"))
    (yh_WebError : PySem.W.hasDictIn K C_WebError = true)
    (yb_WebError : PySem.W.subIn K (.ref C_WebError) (.type "BaseException") = some true)
    (ye3 : PySem.W.specialIn K (.builtin "object.__class__") "__get__" = some (some (.builtin "getset_descriptor.__get__")))
    (ye4 : PySem.W.takesIn K (.builtin "object.__class__") = some true)
    (yb_NoRoads : PySem.W.subIn K (.ref C_NoRoads) (.type "BaseException") = some true)
    (ye0_NoRoads : PySem.W.findIn K (.ref C_NoRoads) "__getattribute__" = some (some (.builtin "BaseException.__getattribute__")))
    (ye1_NoRoads : PySem.W.findIn K (.ref C_NoRoads) "__getattr__" = some none)
    (ye2_NoRoads : PySem.W.findIn K (.ref C_NoRoads) "__class__" = some (some (.builtin "object.__class__")))
    (ye5_NoRoads : PySem.W.mroIn K C_NoRoads (.type "object") = some true)
    (s_NoRoads_BadOrder : PySem.W.subIn K (.ref C_NoRoads) (.ref C_BadOrder) = some false)
    (s_NoRoads_Full : PySem.W.subIn K (.ref C_NoRoads) (.ref C_Full) = some false)
    (s_NoRoads_NoRoads : PySem.W.subIn K (.ref C_NoRoads) (.ref C_NoRoads) = some true)
    (s_NoRoads_TooGreat : PySem.W.subIn K (.ref C_NoRoads) (.ref C_TooGreat) = some false)
    (s_NoRoads_ValueError : PySem.W.subIn K (.ref C_NoRoads) (.type "ValueError") = some true)
    (s_NoRoads_WebError : PySem.W.subIn K (.ref C_NoRoads) (.ref C_WebError) = some true)
    (yk_NoRoads : PySem.W.keepIn K (.ref C_NoRoads) = true)
    (yx_NoRoads : PySem.W.excIn K C_NoRoads [.type "ValueError", .type "Exception", .type "BaseException", .type "object"] "ValueError.__new__" = true)
    (yb_BadOrder : PySem.W.subIn K (.ref C_BadOrder) (.type "BaseException") = some true)
    (ye0_BadOrder : PySem.W.findIn K (.ref C_BadOrder) "__getattribute__" = some (some (.builtin "BaseException.__getattribute__")))
    (ye1_BadOrder : PySem.W.findIn K (.ref C_BadOrder) "__getattr__" = some none)
    (ye2_BadOrder : PySem.W.findIn K (.ref C_BadOrder) "__class__" = some (some (.builtin "object.__class__")))
    (ye5_BadOrder : PySem.W.mroIn K C_BadOrder (.type "object") = some true)
    (s_BadOrder_BadOrder : PySem.W.subIn K (.ref C_BadOrder) (.ref C_BadOrder) = some true)
    (s_BadOrder_Full : PySem.W.subIn K (.ref C_BadOrder) (.ref C_Full) = some false)
    (s_BadOrder_NoRoads : PySem.W.subIn K (.ref C_BadOrder) (.ref C_NoRoads) = some false)
    (s_BadOrder_TooGreat : PySem.W.subIn K (.ref C_BadOrder) (.ref C_TooGreat) = some false)
    (s_BadOrder_ValueError : PySem.W.subIn K (.ref C_BadOrder) (.type "ValueError") = some true)
    (s_BadOrder_WebError : PySem.W.subIn K (.ref C_BadOrder) (.ref C_WebError) = some true)
    (yk_BadOrder : PySem.W.keepIn K (.ref C_BadOrder) = true)
    (yx_BadOrder : PySem.W.excIn K C_BadOrder [.type "ValueError", .type "Exception", .type "BaseException", .type "object"] "ValueError.__new__" = true) :
    ∃ (kk : KK) (fd : FuncData), kk.fr = K ∧ (∀ (s : Shared) (v : Value), BindsTo s fd ⟨[v], []⟩ [("_law_script", v)]) ∧ ∀ base : Heap, K.In base → base.Ns mainGlobals mg → FnG l.prog w K mg base 14 fa fd ["_law_script"] (@spF kk F_law_z199) := by
  have e := hfa.symm.trans (PySem.W.mg_of X G a27)
  cases e
  letI kk : KK := ⟨K, fun n => ([(4, C_NoRoads), (5, C_BadOrder)] : List (Nat × Addr)).lookup n, fun n => ([] : List (Nat × Addr)).lookup n, 0⟩
  have B : Bm mg := ⟨PySem.W.mg_none_of X G z_ValueError, PySem.W.mg_none_of X G z_abs, PySem.W.mg_none_of X G z_all, PySem.W.mg_none_of X G z_bool, PySem.W.mg_none_of X G z_int, PySem.W.mg_none_of X G z_isinstance, PySem.W.mg_none_of X G z_len, PySem.W.mg_none_of X G z_list, PySem.W.mg_none_of X G z_max, PySem.W.mg_none_of X G z_range, PySem.W.mg_none_of X G z_repr, PySem.W.mg_none_of X G z_sorted, PySem.W.mg_none_of X G z_sum, PySem.W.mg_none_of X G z_tuple⟩
  have at_ : ∀ {Q : Nat → Addr → Prop}, AllL Q [(4, C_NoRoads), (5, C_BadOrder)] → ∀ n C, kk.cl n = some C → Q n C := fun h n C e => h.at n C e
  have Z : HF mg w (fun n => (([(0, C_WebError), (2, C_TooGreat), (3, C_Full), (4, C_NoRoads), (5, C_BadOrder)] : List (Nat × Addr)).lookup n).getD 0) 0 := ⟨AllN.at ⟨rfl, rfl, trivial⟩,
    at_ ⟨⟨ye0_NoRoads, ye1_NoRoads, yb_NoRoads, yh_NoRoads, ye2_NoRoads, ye3, ye4, ye5_NoRoads⟩, ⟨ye0_BadOrder, ye1_BadOrder, yb_BadOrder, yh_BadOrder, ye2_BadOrder, ye3, ye4, ye5_BadOrder⟩, trivial⟩,
    PySem.W.mg_of X G y_BadOrder,
    PySem.W.mg_of X G y_Full,
    PySem.W.mg_of X G y_NoRoads,
    PySem.W.mg_of X G y_TooGreat,
    PySem.W.mg_of X G y_WebError,
    (fun n C b h => (at_ ⟨(itb rfl (kit_no yh_BadOrder yt_BadOrder s_NoRoads_BadOrder s_NoRoads_NoRoads)), (itb rfl (kit_yes yh_BadOrder yt_BadOrder s_BadOrder_BadOrder)), trivial⟩ : ∀ n C, kk.cl n = some C → ∀ b, it_k61_BadOrder n = some b → PySem.W.kitOne K (.ref C) (.ref C_BadOrder) = some b) n C h b),
    (fun n C b h => (at_ ⟨(itb rfl (kit_no yh_Full yt_Full s_NoRoads_Full s_NoRoads_NoRoads)), (itb rfl (kit_no yh_Full yt_Full s_BadOrder_Full s_BadOrder_BadOrder)), trivial⟩ : ∀ n C, kk.cl n = some C → ∀ b, it_k61_Full n = some b → PySem.W.kitOne K (.ref C) (.ref C_Full) = some b) n C h b),
    (fun n C b h => (at_ ⟨(itb rfl (kit_yes yh_NoRoads yt_NoRoads s_NoRoads_NoRoads)), (itb rfl (kit_no yh_NoRoads yt_NoRoads s_BadOrder_NoRoads s_BadOrder_BadOrder)), trivial⟩ : ∀ n C, kk.cl n = some C → ∀ b, it_k61_NoRoads n = some b → PySem.W.kitOne K (.ref C) (.ref C_NoRoads) = some b) n C h b),
    (fun n C b h => (at_ ⟨(itb rfl (kit_no yh_TooGreat yt_TooGreat s_NoRoads_TooGreat s_NoRoads_NoRoads)), (itb rfl (kit_no yh_TooGreat yt_TooGreat s_BadOrder_TooGreat s_BadOrder_BadOrder)), trivial⟩ : ∀ n C, kk.cl n = some C → ∀ b, it_k61_TooGreat n = some b → PySem.W.kitOne K (.ref C) (.ref C_TooGreat) = some b) n C h b),
    (fun n C b h => (at_ ⟨(itb rfl (kit_VE s_NoRoads_ValueError)), (itb rfl (kit_VE s_BadOrder_ValueError)), trivial⟩ : ∀ n C, kk.cl n = some C → ∀ b, it_k61_ValueError n = some b → PySem.W.kitOne K (.ref C) (.type "ValueError") = some b) n C h b),
    (fun n C b h => (at_ ⟨(itb rfl (PySem.W.exm_ref yb_WebError yh_WebError yt_WebError s_NoRoads_WebError)), (itb rfl (PySem.W.exm_ref yb_WebError yh_WebError yt_WebError s_BadOrder_WebError)), trivial⟩ : ∀ n C, kk.cl n = some C → ∀ b, em_k61_WebError n = some b → PySem.W.exmOne K (.ref C) (.ref C_WebError) = some b) n C h b),
    yx_BadOrder,
    yk_BadOrder,
    yb_BadOrder,
    yt_BadOrder,
    yx_NoRoads,
    yk_NoRoads,
    yb_NoRoads,
    yt_NoRoads⟩
  have D0 : Dfn K mg "_law_deck" s__law_deck ["_law_script"] := dfn_mk X G a0 l0 c0 k0 bi0
  have D1 : Dfn K mg "_law_mixed" s__law_mixed ["_law_cell", "_law_turn"] := dfn_mk X G a1 l1 c1 k1 bi1
  have D2 : Dfn K mg "_law_next" s__law_next ["_law_deck_here", "_law_many"] := dfn_mk X G a2 l2 c2 k2 bi2
  have D3 : Dfn K mg "_law_odd" s__law_odd ["_law_deck_here"] := dfn_mk X G a3 l3 c3 k3 bi3
  have D4 : Dfn K mg "_law_bent" s__law_bent ["_law_deck_here", "_law_thing", "_law_deep"] := dfn_mk X G a4 l4 c4 k4 bi4
  have D5 : Dfn K mg "_law_ordered" s__law_ordered ["_law_web_here", "_law_house", "_law_order_here", "_law_side"] := dfn_mk X G a5 l5 c5 k5 bi5
  have D6 : Dfn K mg "_law_whole" s__law_whole ["_law_thing", "_law_most"] := dfn_mk X G a6 l6 c6 k6 bi6
  have D7 : Dfn K mg "_law_liking" s__law_liking ["_law_web_here", "_law_house", "_law_order_here", "_law_side"] := dfn_mk X G a7 l7 c7 k7 bi7
  have D8 : Dfn K mg "_law_one" s__law_one ["_law_deck_here", "_law_things"] := dfn_mk X G a8 l8 c8 k8 bi8
  have D9 : Dfn K mg "_law_order" s__law_order ["_law_deck_here", "_law_some"] := dfn_mk X G a9 l9 c9 k9 bi9
  have D10 : Dfn K mg "_law_alone" s__law_alone ["_law_e"] := dfn_mk X G a10 l10 c10 k10 bi10
  have D11 : Dfn K mg "order_place" s_order_place ["giving"] := dfn_mk X G a11 l11 c11 k11 bi11
  have D12 : Dfn K mg "exchanged" s_exchanged ["things", "at", "thing"] := dfn_mk X G a12 l12 c12 k12 bi12
  have D13 : Dfn K mg "is_number" s_is_number ["thing"] := dfn_mk X G a13 l13 c13 k13 bi13
  have D14 : Dfn K mg "is_order" s_is_order ["thing", "numbers"] := dfn_mk X G a14 l14 c14 k14 bi14
  have D15 : DfnK K mg "with_like" s_with_like ["web", "house", "order", "giving"] "giving" := dfnk_mk (n := 3) X G a15 l15 c15 k15 d15 rfl (fun us _ hl => match us, hl with | [_, _, _], _ => rfl) (fun us hl => match us, hl with | [_, _, _], _ => ⟨_, _, _, _, _, _, rfl, rfl, rfl⟩)
  have D16 : DfnK K mg "liked_less" s_liked_less ["web", "road", "giving"] "giving" := dfnk_mk (n := 2) X G a16 l16 c16 k16 d16 rfl (fun us _ hl => match us, hl with | [_, _], _ => rfl) (fun us hl => match us, hl with | [_, _], _ => ⟨_, _, _, _, _, _, rfl, rfl, rfl⟩)
  have D17 : Dfn K mg "orders_without" s_orders_without ["orders", "road"] := dfn_mk X G a17 l17 c17 k17 bi17
  have D18 : Dfn K mg "without" s_without ["web", "road"] := dfn_mk X G a18 l18 c18 k18 bi18
  have D19 : Dfn K mg "_law_told" s__law_told ["_law_web_here", "_law_call"] := dfn_mk X G a19 l19 c19 k19 bi19
  have D20 : Dfn K mg "_law_right" s__law_right ["_law_web_here", "_law_call", "_law_due"] := dfn_mk X G a20 l20 c20 k20 bi20
  have D21 : Dfn K mg "_law_house_right" s__law_house_right ["_law_deck_here", "_law_web_here", "_law_house"] := dfn_mk X G a21 l21 c21 k21 bi21
  have D22 : Dfn K mg "_law_least" s__law_least ["_law_web_here", "_law_road", "_law_side"] := dfn_mk X G a22 l22 c22 k22 bi22
  have D23 : Dfn K mg "_law_without" s__law_without ["_law_web_here", "_law_road"] := dfn_mk X G a23 l23 c23 k23 bi23
  have D24 : Dfn K mg "_law_road_right" s__law_road_right ["_law_deck_here", "_law_web_here", "_law_road"] := dfn_mk X G a24 l24 c24 k24 bi24
  have D25 : Dfn K mg "_law_web" s__law_web ["_law_deck_here", "_law_most", "_law_many"] := dfn_mk X G a25 l25 c25 k25 bi25
  have D26 : Dfn K mg "_law_wide" s__law_wide ["_law_deck_here"] := dfn_mk X G a26 l26 c26 k26 bi26
  refine ⟨kk, PySem.W.fnOf "law" "law" (defArgs s_law) (defBody s_law) (defScope s_law) .none kV27 dc27 pm27 an27 cd27 ct27, rfl, fun s v => .of_eq rfl, fun base _ _ => ?_⟩
  have V : HR l.prog w mg base (fun n => (([(0, C_WebError), (2, C_TooGreat), (3, C_Full), (4, C_NoRoads), (5, C_BadOrder)] : List (Nat × Addr)).lookup n).getD 0) := ⟨trivial⟩
  have C__law_deck := c__law_deck (P := l.prog) (w := w) (base := base) D0 B 
  have C__law_mixed := c__law_mixed (P := l.prog) (w := w) (base := base) D1 B 
  have C__law_next := c__law_next (P := l.prog) (w := w) (base := base) D2 B C__law_mixed
  have C__law_odd := c__law_odd (P := l.prog) (w := w) (base := base) D3 B C__law_next
  have C__law_bent := c__law_bent (P := l.prog) (w := w) (base := base) D4 B C__law_next C__law_odd
  have C__law_ordered := c__law_ordered (P := l.prog) (w := w) (base := base) D5 B 
  have C__law_whole := c__law_whole (P := l.prog) (w := w) (base := base) D6 B 
  have C__law_liking := c__law_liking (P := l.prog) (w := w) (base := base) D7 B C__law_ordered C__law_whole
  have C__law_one := c__law_one (P := l.prog) (w := w) (base := base) D8 B C__law_next
  have C__law_order := c__law_order (P := l.prog) (w := w) (base := base) D9 B C__law_next
  have C__law_alone := c__law_alone (P := l.prog) (w := w) (base := base) (cA := (fun n => (([(0, C_WebError), (2, C_TooGreat), (3, C_Full), (4, C_NoRoads), (5, C_BadOrder)] : List (Nat × Addr)).lookup n).getD 0)) (dA := 0) D10 B Z V
  have C_order_place := c_order_place (P := l.prog) (w := w) (base := base) D11 B 
  have C_exchanged := c_exchanged (P := l.prog) (w := w) (base := base) D12 B 
  have C_is_number := c_is_number (P := l.prog) (w := w) (base := base) D13 B 
  have C_is_order := c_is_order (P := l.prog) (w := w) (base := base) D14 B C_is_number
  have C_with_like := c_with_like (P := l.prog) (w := w) (base := base) (cA := (fun n => (([(0, C_WebError), (2, C_TooGreat), (3, C_Full), (4, C_NoRoads), (5, C_BadOrder)] : List (Nat × Addr)).lookup n).getD 0)) (dA := 0) D15 B Z V C_exchanged C_is_order C_order_place
  have C_liked_less := c_liked_less (P := l.prog) (w := w) (base := base) (cA := (fun n => (([(0, C_WebError), (2, C_TooGreat), (3, C_Full), (4, C_NoRoads), (5, C_BadOrder)] : List (Nat × Addr)).lookup n).getD 0)) (dA := 0) D16 B Z V C_order_place C_with_like
  have C_orders_without := c_orders_without (P := l.prog) (w := w) (base := base) D17 B 
  have C_without := c_without (P := l.prog) (w := w) (base := base) (cA := (fun n => (([(0, C_WebError), (2, C_TooGreat), (3, C_Full), (4, C_NoRoads), (5, C_BadOrder)] : List (Nat × Addr)).lookup n).getD 0)) (dA := 0) D18 B Z V C_orders_without
  have C__law_told := c__law_told (P := l.prog) (w := w) (base := base) (cA := (fun n => (([(0, C_WebError), (2, C_TooGreat), (3, C_Full), (4, C_NoRoads), (5, C_BadOrder)] : List (Nat × Addr)).lookup n).getD 0)) (dA := 0) D19 B Z V C__law_alone C_liked_less C_with_like C_without
  have C__law_right := c__law_right (P := l.prog) (w := w) (base := base) D20 B C__law_told
  have C__law_house_right := c__law_house_right (P := l.prog) (w := w) (base := base) D21 B (C__law_bent 9) C__law_liking C__law_next C__law_odd C__law_one C__law_order C__law_right
  have C__law_least := c__law_least (P := l.prog) (w := w) (base := base) D22 B C__law_ordered
  have C__law_without := c__law_without (P := l.prog) (w := w) (base := base) D23 B 
  have C__law_road_right := c__law_road_right (P := l.prog) (w := w) (base := base) D24 B C__law_least C__law_next C__law_right C__law_without
  have C__law_web := c__law_web (P := l.prog) (w := w) (base := base) D25 B C__law_next C__law_one C__law_order
  have C__law_wide := c__law_wide (P := l.prog) (w := w) (base := base) D26 B C__law_next C__law_one C__law_order
  exact ok_law (fun_mk (st := s_law) l27 c27 k27) B C__law_deck C__law_house_right C__law_next C__law_road_right C__law_web C__law_wide
end Row
open PySem PySem.W PyProof.Rows
set_option maxHeartbeats 0 in
theorem PySem.Challenge.cw_unturned_k61_webs_without_and_liked_othe_holds : PySem.Challenge.rw_unturned_k61_webs_without_and_liked_othe.Holds := by
  w_on; o_law; k_head; (case hw => w_witness2)
  k_fill
  refine Uv.walk_vK (l := PySem.Challenge.rw_unturned_k61_webs_without_and_liked_othe) (n := 63) (k := 14) (x := "_law_script") (f := Fn.F_law_z199) rfl (by decide) rfl ⟨rfl, by decide, by decide⟩ (fun w h Y => PySem.W.kIn_of Y) ?F Fn.k61
  case F =>
    intro w mg fa h KX G hmg
    refine' Row.all_mk KX G hmg ?a0 ?l0 ?c0 ?k0 ?a1 ?l1 ?c1 ?k1 ?a2 ?l2 ?c2 ?k2 ?a3 ?l3 ?c3 ?k3 ?a4 ?l4 ?c4 ?k4 ?a5 ?l5 ?c5 ?k5 ?a6 ?l6 ?c6 ?k6 ?a7 ?l7 ?c7 ?k7 ?a8 ?l8 ?c8 ?k8 ?a9 ?l9 ?c9 ?k9 ?a10 ?l10 ?c10 ?k10 ?a11 ?l11 ?c11 ?k11 ?a12 ?l12 ?c12 ?k12 ?a13 ?l13 ?c13 ?k13 ?a14 ?l14 ?c14 ?k14 ?a15 ?l15 ?c15 ?k15 ?d15 ?a16 ?l16 ?c16 ?k16 ?d16 ?a17 ?l17 ?c17 ?k17 ?a18 ?l18 ?c18 ?k18 ?a19 ?l19 ?c19 ?k19 ?a20 ?l20 ?c20 ?k20 ?a21 ?l21 ?c21 ?k21 ?a22 ?l22 ?c22 ?k22 ?a23 ?l23 ?c23 ?k23 ?a24 ?l24 ?c24 ?k24 ?a25 ?l25 ?c25 ?k25 ?a26 ?l26 ?c26 ?k26 ?a27 ?l27 ?c27 ?k27 ?z_ValueError ?z_abs ?z_all ?z_bool ?z_int ?z_isinstance ?z_len ?z_list ?z_max ?z_range ?z_repr ?z_sorted ?z_sum ?z_tuple ?y_WebError ?y_TooGreat ?y_Full ?y_NoRoads ?y_BadOrder ?yt_BadOrder ?yh_BadOrder ?yt_Full ?yh_Full ?yt_NoRoads ?yh_NoRoads ?yt_TooGreat ?yh_TooGreat ?yt_WebError ?yh_WebError ?yb_WebError ?ye3 ?ye4 ?yb_NoRoads ?ye0_NoRoads ?ye1_NoRoads ?ye2_NoRoads ?ye5_NoRoads ?s_NoRoads_BadOrder ?s_NoRoads_Full ?s_NoRoads_NoRoads ?s_NoRoads_TooGreat ?s_NoRoads_ValueError ?s_NoRoads_WebError ?yk_NoRoads ?yx_NoRoads ?yb_BadOrder ?ye0_BadOrder ?ye1_BadOrder ?ye2_BadOrder ?ye5_BadOrder ?s_BadOrder_BadOrder ?s_BadOrder_Full ?s_BadOrder_NoRoads ?s_BadOrder_TooGreat ?s_BadOrder_ValueError ?s_BadOrder_WebError ?yk_BadOrder ?yx_BadOrder
    (case a0 => k_is); (case l0 => k_is); (case c0 => k_is); (case k0 => k_is); (case a1 => k_is); (case l1 => k_is); (case c1 => k_is); (case k1 => k_is); (case a2 => k_is); (case l2 => k_is); (case c2 => k_is); (case k2 => k_is); (case a3 => k_is); (case l3 => k_is); (case c3 => k_is); (case k3 => k_is); (case a4 => k_is); (case l4 => k_is); (case c4 => k_is); (case k4 => k_is); (case a5 => k_is); (case l5 => k_is); (case c5 => k_is); (case k5 => k_is); (case a6 => k_is); (case l6 => k_is); (case c6 => k_is); (case k6 => k_is); (case a7 => k_is); (case l7 => k_is); (case c7 => k_is); (case k7 => k_is); (case a8 => k_is); (case l8 => k_is); (case c8 => k_is); (case k8 => k_is); (case a9 => k_is); (case l9 => k_is); (case c9 => k_is); (case k9 => k_is); (case a10 => k_is); (case l10 => k_is); (case c10 => k_is); (case k10 => k_is); (case a11 => k_is); (case l11 => k_is); (case c11 => k_is); (case k11 => k_is); (case a12 => k_is); (case l12 => k_is); (case c12 => k_is); (case k12 => k_is); (case a13 => k_is); (case l13 => k_is); (case c13 => k_is); (case k13 => k_is); (case a14 => k_is); (case l14 => k_is); (case c14 => k_is); (case k14 => k_is); (case a15 => k_is); (case l15 => k_is); (case c15 => k_is); (case k15 => k_is); (case d15 => k_is); (case a16 => k_is); (case l16 => k_is); (case c16 => k_is); (case k16 => k_is); (case d16 => k_is); (case a17 => k_is); (case l17 => k_is); (case c17 => k_is); (case k17 => k_is); (case a18 => k_is); (case l18 => k_is); (case c18 => k_is); (case k18 => k_is); (case a19 => k_is); (case l19 => k_is); (case c19 => k_is); (case k19 => k_is); (case a20 => k_is); (case l20 => k_is); (case c20 => k_is); (case k20 => k_is); (case a21 => k_is); (case l21 => k_is); (case c21 => k_is); (case k21 => k_is); (case a22 => k_is); (case l22 => k_is); (case c22 => k_is); (case k22 => k_is); (case a23 => k_is); (case l23 => k_is); (case c23 => k_is); (case k23 => k_is); (case a24 => k_is); (case l24 => k_is); (case c24 => k_is); (case k24 => k_is); (case a25 => k_is); (case l25 => k_is); (case c25 => k_is); (case k25 => k_is); (case a26 => k_is); (case l26 => k_is); (case c26 => k_is); (case k26 => k_is); (case a27 => k_is); (case l27 => k_is); (case c27 => k_is); (case k27 => k_is); (case z_ValueError => k_is); (case z_abs => k_is); (case z_all => k_is); (case z_bool => k_is); (case z_int => k_is); (case z_isinstance => k_is); (case z_len => k_is); (case z_list => k_is); (case z_max => k_is); (case z_range => k_is); (case z_repr => k_is); (case z_sorted => k_is); (case z_sum => k_is); (case z_tuple => k_is); (case y_WebError => k_is); (case y_TooGreat => k_is); (case y_Full => k_is); (case y_NoRoads => k_is); (case y_BadOrder => k_is); (case yt_BadOrder => k_is); (case yh_BadOrder => k_is); (case yt_Full => k_is); (case yh_Full => k_is); (case yt_NoRoads => k_is); (case yh_NoRoads => k_is); (case yt_TooGreat => k_is); (case yh_TooGreat => k_is); (case yt_WebError => k_is); (case yh_WebError => k_is); (case yb_WebError => k_is); (case ye3 => k_is); (case ye4 => k_is); (case yb_NoRoads => k_is); (case ye0_NoRoads => k_is); (case ye1_NoRoads => k_is); (case ye2_NoRoads => k_is); (case ye5_NoRoads => k_is); (case s_NoRoads_BadOrder => k_is); (case s_NoRoads_Full => k_is); (case s_NoRoads_NoRoads => k_is); (case s_NoRoads_TooGreat => k_is); (case s_NoRoads_ValueError => k_is); (case s_NoRoads_WebError => k_is); (case yk_NoRoads => k_is); (case yx_NoRoads => k_exc); (case yb_BadOrder => k_is); (case ye0_BadOrder => k_is); (case ye1_BadOrder => k_is); (case ye2_BadOrder => k_is); (case ye5_BadOrder => k_is); (case s_BadOrder_BadOrder => k_is); (case s_BadOrder_Full => k_is); (case s_BadOrder_NoRoads => k_is); (case s_BadOrder_TooGreat => k_is); (case s_BadOrder_ValueError => k_is); (case s_BadOrder_WebError => k_is); (case yk_BadOrder => k_is); (case yx_BadOrder => k_exc)
