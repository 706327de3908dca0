import PyProof.Rows.All
import Wide.All
import OpenK.AllK
import Wide.FinOn
import HandS.ForMost
import HandS.SortInts
import HandS.Zip0
import HandS.Conv
import HandS.RevRange
import PyProof.Draws
import HandS.Style
import KE.KRevSl
import HandS.RevTup
import HandS.Strs
import HandS.TupAny
import HandS.Lambda
import HandS.ExcCtx
import HandS.Iter
import HandS.Wide
import HandS.TupMul
import HandS.IsInst
import KE.DataEq
import KE.DataCmp
import KE.SortData
import KE.DataIsa
import KE.DataMinMax
import KE.KTupSum
import KE.KMathGC
import HandS.Gcd
import PyProof.SeqIndex
import HandS.Zip
import HandS.HotCalls
import HandS.DictSub
import HandS.Rev
import HandS.More
import HandS.Evl
import HandS.Flow
import HandS.Exc
import HandS.ExcOwn
import HandS.TryOnly
import HandS.WordsExc
import HandS.Comp
import HandS.ExcIs
import HandS.CallSlots
import HandS.CallLocal
import HandS.EndOwn
import KE.KNestM
import PySem.Challenge.RW_wiredorders_k67_whole_orders_with_just_t
set_option Elab.async false
set_option linter.all false
/-! WoR -/
set_option maxRecDepth 100000
namespace WoR
open PySem PySem.Spec
    PyProof.Rows L2
section
variable {prog : Program} {w : World} {A : Around} {E
    : Value → Shared → Prop} {s : Shared}
def gath (g : Heap) (us : List Value) : Heap := (g.push (seqObj "list" #[] 0)).update g.objs.size (Obj.mapSeq (· ++ us.toArray))
theorem collect_tup {tp : Addr} {us : List Value} {Z : List Value → Shared → Prop} (ht : IsTup s.heap tp us.toArray) (hz : us.length ≤ sizeLine)
    (q : Z us { s with heap := gath s.heap us }) : wpAny (model prog w) A (collect (.ref tp)) Z E s := by
  obtain ⟨ob, e1, e2, m, e3⟩ := id ht
  unfold collect
  refine wpAny_bind (wpAny_runValue (codeAny_builtin
      entry_proto_collect' ?_))
  show wpAny _ _ (do
    again (.builtin "list.__iadd__" ⟨[← newList [], .ref tp], []⟩)) _ _ s
  refine wpAny_bind
    (wpAny_newList (wpAny_pure ⟨Code.quiet_builtin _ (by decide +kernel), codeAny_builtin entry_list_iadd' ?_⟩))
  show wpAny _ _ (Builtin.List.listExtendWith (.ref s.heap.objs.size) (.ref tp) (.ref s.heap.objs.size)) _ _
    { s with heap := s.heap.push (seqObj "list" #[] 0) }
  unfold
    Builtin.List.listExtendWith
  have e1' : (s.heap.push (seqObj "list" #[] 0)).get? tp = some ob := Heap.get?_push_of_some _ e1
  refine wpAny_bind (wpAny_typeOf (T := "tuple") ⟨ob, e1', e2⟩ ?_)
  have hty : (Value.type "tuple" == Value.type "tuple") = true := by rfl
  rw [if_pos (by rw [hty]; simp)]
  refine wpAny_bind (listItems_at e1' e3 ?_)
  refine wpAny_bind
    (listItems_at (xs := #[]) (n := 0) (Heap.get?_push_size _ rfl) rfl ?_)
  rw [if_neg (by simp)]
  refine wpAny_bind (listUpdate_at (xs := #[]) (n := 0)
    (Heap.get?_push_size _ rfl) rfl ?_ (Nat.zero_le _)
    (by show (#[] ++ us.toArray).size ≤ sizeLine + 1; simp only [Array.size_append, List.size_toArray, List.length_nil]; omega))
  refine wpAny_pure ?_
  show wpAny (model
      prog w) A (do
      let ld ← load s.heap.objs.size
      match ld.data with
      | .seq ys _ => pure ys.toList
      | _ => unsupported "internal:collect") Z E { s with heap := gath s.heap us }
  refine wpAny_bind (wpAny_load (get?_update_seq
      (Heap.get?_push_size _ rfl) _) ?_)
  show wpAny _ _ (pure ((#[] : Array Value) ++ us.toArray).toList) Z E _
  rw [show ((#[] : Array Value) ++ us.toArray).toList = us by simp]
  exact wpAny_pure q
theorem sorted_tup {tp : Addr} {us : List Value} {ltv : Value → Value → Bool} {Z : Value → Shared → Prop} (O : SrtO.Swo ltv) (ht : IsTup s.heap tp us.toArray) (hz : us.length ≤ sizeLine)
    (hS : 2 ≤ us.length → ∀ (g : Heap) (a : Addr), SrtO.SortableO prog w A.in1.in1 { s with heap := g } a us ltv)
    (q : ∀ out : List Value, SrtO.Srtd ltv out → SrtO.Stb ltv out us → Z (.ref (s.heap.objs.size + 1)) { s with heap := sortedAll s.heap us out.toArray }) :
    wpAny (model prog w) A (call (.builtin "sorted") [.ref tp]) Z E s := by
  refine Calls.call_function_entry kind_sorted
      plain_sorted entry_sorted (args_sorted1 _) ?_
  unfold Builtin.«sorted»
  refine wpAny_bind (m := checkCount
      "sorted" 1 1 _) (wpAny_pure ?_)
  refine wpAny_bind (collect_tup ht hz ?_)
  refine wpAny_bind
      (wpAny_newList ?_ hz)
  have n1 : (gath s.heap us).objs.size = s.heap.objs.size + 1 := by
    unfold gath
    rw [Heap.size_update,
        size_push']
  have n2 : ((gath s.heap us).push (seqObj "list" us.toArray 0)).get? (s.heap.objs.size + 1) = some (seqObj "list" us.toArray 0) := by
    rw [← n1]
    exact Heap.get?_push_size
        _ rfl
  show wpAny _ _ _ _ _ { s with heap := (gath s.heap us).push (seqObj "list" us.toArray 0) }
  rw [n1]
  refine wpAny_bind (wpAny_holding (wpAny_call_entry slot_list_sort ⟨_, n2, rfl⟩ entry_list_sort
    (SrtO.list_sort_ord O n2 hz (fun h2 => hS h2 _ _) fun out hs hb => ⟨_, rfl, ?_⟩) (args_list_sort _)))
  exact wpAny_pure ⟨_, rfl, q out hs hb⟩
end
/-- sorted of a tuple of ints -/
def rSrtT (K : PySem.W.Frag) : List V → Hp → VK → Prop := fun vs H Q => ∃ (a : Addr) (ns : List Int), vs = [V.ref a] ∧ SqT K H a (ns.map V.int) ∧
  ∀ (ms : List Int) (p : Addr), ms.Perm ns → ms.Pairwise (· ≤ ·) → H p = none → Q (.ref p) (upd H p (.lst (ms.map V.int)))
theorem cr_srtT {X : Cx} : CallR X (.builtin "sorted") (rSrtT X.K) := by
  intro pins s σ H
      vs us Q I r h
  obtain ⟨a, ns, rfl,
      hs, q⟩ := h
  obtain ⟨its, rv, pl,
      hz⟩ := I.tuple hs
  rw [Vals.ref1 r]
  have hi := rv.ints
  refine sorted_tup SrtO.swo_int pl (by rw [← rv.length]; exact hz) (fun h2 _ _ => SrtO.ints_sortable hi h2) fun out k1 k2 => ?_
  obtain ⟨z1, z2, z3⟩ := SrtO.ints_out hi k1 k2
  obtain ⟨ep, he⟩ := PyProof.Rows.sortedAll_at s.heap its out.toArray
  have hl : ((out.map SrtO.iv).map V.int).length ≤ sizeLine := by
    rw [List.length_map, z2.length_eq]
    rw [List.length_map] at hz
    exact hz
  refine ⟨.ref _, upd H (s.heap.objs.size + 1) (.lst ((out.map SrtO.iv).map V.int)), ?_, rfl, q _ _ z2 z3 (I.hok.fresh (Nat.le_succ _))⟩
  exact I.laid (t' := s.toks) (fun _ _ => PyProof.Rows.sortedAll_old) (Nat.le_succ _) ⟨hl, out, ep, vals_of_ints z1, he⟩
/-! enumerate of a tuple -/
section
variable {prog : Program} {w : World} {A : Around} {E
    : Value → Shared → Prop} {s : Shared}
theorem tup_draws {it tp : Addr} {us : Array Value} (hh : A.handled = none) :
    Draws prog w A it [it, tp] us.size (fun i v => us[i]? = some v) (fun i g => g.IsTupleIter it tp i ∧ g.IsTuple tp us) where
  live := fun i g st => let ⟨⟨o, e, _⟩, _⟩ := st; ⟨o, e⟩
  frame := fun i g g' st k => by
    obtain ⟨⟨o, e, r⟩, o2, e2, r2⟩ := st
    exact ⟨⟨o, k it (by simp) o e, r⟩, o2, k tp (by simp) o2 e2, r2⟩
  item := fun i s Q E hi st q => by
    obtain ⟨h1, h2⟩ := st
    have hne : tp ≠ it := fun z => by
      obtain ⟨o, e, c, _⟩ := h1
      obtain ⟨o2, e2, c2, _⟩ := h2
      rw [z, e] at e2
      cases e2
      rw [c] at c2
      revert c2
      decide
    exact RZ.nextOf_tuple_item h1 h2 (x := us[i]) (by simp [hi]) fun g' h1' sb => q _ g' s.toks (by simp [hi]) ⟨h1', h2.extBut sb.extBut hne⟩ sb
  done := fun s Q E st q => RZ.nextOf_tuple_end hh st.1 st.2 (by simp) q
end
def IteT (K : PySem.W.Frag) (a : Addr) : It where
  go := fun i H => ∃ (xs : List V) (x : V), SqT K H a xs ∧ xs[i]? = some x
  yld := fun i H v H' => ∃ T x, v = .ref T ∧ H T = none ∧ H' = upd H T (.tup [.int (i : Nat), x]) ∧ ∀ xs, SqT K H a xs → xs[i]? = some x
  stop := fun i H => ∃ xs : List V, SqT K H a xs ∧ xs.length = i
theorem turn_enumT {P : Program} {w : World} {K : PySem.W.Frag} {elts : List Expr} {kk : Nat} {tpos : Pos} (a en it : Addr) :
    Turn P w K (.Tuple elts kk tpos) (IteT K a) [en, it] en (fun i g => (∃ old, IsEnum g en it ((i : Nat) : Int) old) ∧ g.IsTupleIter it a i ∧ en ≠ it) where
  mem := by simp
  obj := fun i g st b hb => by
    obtain ⟨⟨old, he⟩, ⟨o, ho,
        hc, hd⟩, _⟩ := st
    rcases (show b = en ∨ b = it by simpa using hb) with rfl | rfl
    · exact ⟨_, he, fun v q => nomatch q⟩
    · exact ⟨o, ho, fun v q => by rw [hd] at q; cases q⟩
  keep := fun i g g' st k => by
    obtain ⟨⟨old, he⟩, hi, hne⟩ := st
    exact ⟨⟨old, k en (by simp) _ he⟩, hi.at fun o q => k it (by simp) o q, hne⟩
  item := by
    intro X hP hw hK hc i pins
        s σ H E I hf st hg
    subst hP hw hK
    obtain ⟨⟨old, he⟩,
        hit, hne⟩ := st
    obtain ⟨xs, x, hq, hx⟩ := hg
    obtain ⟨its, rv, pt, hz⟩ := I.tuple hq
    obtain ⟨u, hu, ru⟩
        := rv.get hx
    have hen : en < s.heap.objs.size := Heap.lt_size he
    have hil : it < s.heap.objs.size := by
      obtain ⟨_, q, _⟩ := hit
      exact Heap.lt_size q
    have hlt : i < its.toArray.size := by
      rw [List.size_toArray]
      exact (List.getElem?_eq_some_iff.mp hu).1
    have hea : en ≠ a := fun z => by
      obtain ⟨o2, e2, c2, _⟩ := (show s.heap.IsTuple a its.toArray from pt)
      rw [← z, he] at e2
      cases e2
      exact absurd c2 (by show ¬ (Value.type "enumerate" = Value.type "tuple"); decide)
    refine wpAny_pyNext_enum_itemD (tup_draws (tp := a) (us := its.toArray) (I.ok.hd hc)) he ⟨hit, pt⟩ hlt hne (by simp [hne, hea]) fun x' h' tk hx' ho st' hT hsz hk => ?_
    obtain rfl : x' = u := by
      have z : its.toArray[i]? = some u := by simpa using hu
      rw [z] at hx'
      exact (Option.some.inj hx').symm
    refine ⟨_, rfl, wpAny_letOwnedTupleGo_enum (s := { s with heap := h', toks := tk + 1 }) ho fun h'' he' sb => ?_⟩
    have hT2 : h''.get? s.heap.objs.size = some { cls := .type "tuple", data := .seq #[.int i tk, x'] } := (sb.2 _ (Nat.ne_of_gt hen)).trans hT
    have new : ObjOk X.prog X.w (upd H s.heap.objs.size (.tup [.int (i : Nat),
        x])) h'' s.heap.objs.size (.tup [.int (i : Nat), x]) :=
      ⟨by show 2 ≤ sizeLine; decide, [.int i tk, x'], .cons ⟨_, rfl⟩ (.cons ru .nil), ⟨_, hT2, rfl, _, rfl⟩⟩
    have I1 : Inv X pins σ (upd H s.heap.objs.size (.tup [.int (i : Nat), x])) { s with heap := h'', toks := tk + 1 } :=
      I.turnedNew (ch := [en, it]) (fun b ob hb q => (sb.2 b (fun z => hb (by simp [z]))).trans (hk b ob (fun z => hb (by simp [z])) (fun z => hb (by simp [z])) q)) hf (Nat.le_refl _) new
    refine ⟨.ref s.heap.objs.size, _, I1, rfl, ⟨_, x, rfl, I.hok.fresh (Nat.le_refl _), rfl, fun ys hy => ?_⟩, ⟨⟨x', ?_⟩, st'.1.at fun o q => (sb.2 it (Ne.symm hne)).trans q, hne⟩, fun b hb => ?_⟩
    · rw [I.tuple_inj hy hq]
      exact hx
    · rw [show ((i + 1 : Nat) : Int) = (i : Int) + 1 by omega]
      exact he'
    · have hb' : b <
        s.heap.objs.size := by
        rcases (show b = en ∨ b = it by simpa using hb) with rfl | rfl
        · exact hen
        · exact hil
      rw [upd_ne
          (Nat.ne_of_lt hb')]
      exact (hf b hb).1
  done := by
    intro X hP hw hK hc i pins
        s σ H E I hf st hg
    subst hP hw hK
    obtain ⟨⟨old, he⟩,
        hit, hne⟩ := st
    obtain ⟨xs, hq, hx⟩ := hg
    obtain ⟨its, rv, pt, hz⟩ := I.tuple hq
    obtain ⟨f0, f1, f2, f3, f4,
        f5⟩ := hf it (by simp)
    have hl : its.toArray.size = i := by
      rw [List.size_toArray, ← rv.length, hx]
    exact wpAny_pyNext_enum_endD (tup_draws (tp := a) (us := its.toArray) (I.ok.hd hc)) he ⟨by rw [hl]; exact hit, pt⟩ fun h' eb =>
      ⟨rfl, I.turned (t' := s.toks) (fun b o hb q => eb b o hb q) f0 f1 f3 f4 f5⟩
  self := fun A i s
      Q E st h => by
    obtain ⟨⟨_, he⟩, _⟩ := st
    exact wpAny_pyIter_enum he h
theorem meets_enumT (l : Addr) (items : Array Value) (n : Nat) (dct : Option Addr) (sl : Array (Option Value)) :
    Meets (Builtin.«enumerate.__new__» ⟨[.type "enumerate", .ref l], []⟩) (fun _ R s => s.heap.get? l = some { cls := .type "tuple", dict := dct, data := .seq items n, slots := sl } ∧
      R (.ok (.ret (.ref (s.heap.push { cls := .type "tuple_iterator", data := .fields #[.ref l, .int 0 0] }).objs.size)))
        { s with heap := (s.heap.push { cls := .type "tuple_iterator", data := .fields #[.ref l, .int 0 0] }).push { cls := .type "enumerate", data := .fields #[.none, .bool false, .ref s.heap.objs.size, rawInt 0, .none, .none] } }) :=
  .of_wp fun prog w
      A R s h => by
    obtain ⟨hp, g, d,
        tk, os⟩ := s
    obtain ⟨hl, h⟩ := h
    have hsub := sub_enumerate
    have hT : Heap.IsTuple (Shared.heap ⟨hp, g, d, tk, os⟩) l items := ⟨_, hl, rfl, n, rfl⟩
    wp_walk using AutoSeq1.wpAny_loadPart' hl
    refine wpAny_stack_any
        fun st => wpAny_pure ?_
    split
    · rename_i c _ _ _ _ _
      cases (c == Value.type "enumerate") <;>
        (wp_walk using AutoSeq1.wpAny_loadPart' hl, wpAny_pyIter_tuple hT
         exact ⟨_, rfl, h⟩)
    · wp_walk using AutoSeq1.wpAny_loadPart' hl, wpAny_pyIter_tuple hT
      exact ⟨_, rfl, h⟩
theorem call_enumT {prog : Program} {w : World} {A : Around} {E : Value → Shared → Prop} {s : Shared} {l : Addr} {items : Array Value} {Q : Value → Shared → Prop} (hL : s.heap.IsTuple l items)
    (h : ∀ h', IsEnum h' (s.heap.objs.size + 1) s.heap.objs.size 0 .none → h'.IsTupleIter s.heap.objs.size l 0 → (∀ b o, s.heap.get? b = some o → h'.get? b = some o) → Q (.ref (s.heap.objs.size + 1)) { s with heap := h' }) :
    wpAny (model prog w) A (call (.type
        "enumerate") [.ref l]) Q E s := by
  obtain ⟨⟨c, dct, dt, sl⟩,
      hl, hc, n, hd⟩ := hL
  replace hc : c = .type "tuple" := hc
  replace hd : dt = .seq
      items n := hd
  subst hc hd
  refine callType_new F.called_enumerate (by decide) (F.typeCall_enumerate_1 _) (F.newCall_enumerate_1 _) (fun obj => F.args_object_init_2 obj _)
    F.entry_enumerate_new (meets_enumT l items n dct sl) ⟨hl, ?_⟩
  have hz : (s.heap.push { cls := .type "tuple_iterator", data := .fields #[.ref l, .int 0 0] }).objs.size = s.heap.objs.size + 1 := Heap.size_push ..
  show _ ∧ _
  rw [hz]
  have he : IsEnum ((s.heap.push { cls := .type "tuple_iterator", data := .fields #[.ref l, .int 0 0] }).push
      { cls := .type "enumerate", data := .fields #[.none, .bool false, .ref s.heap.objs.size, rawInt
          0, .none, .none] }) (s.heap.objs.size + 1) s.heap.objs.size 0 .none := by
    have z := Heap.get?_push_size (s.heap.push { cls := .type "tuple_iterator", data := .fields #[.ref l, .int 0 0] })
      (o := { cls := .type "enumerate", data := .fields #[.none, .bool false,
          .ref s.heap.objs.size, rawInt 0, .none, .none] }) rfl
    rw [hz] at z
    exact z
  exact ⟨⟨_, he, rfl⟩, h _ he ⟨_, Heap.get?_push_of_some _ (Heap.get?_push_size _ rfl), rfl, rfl⟩ fun b o x => Heap.get?_push_of_some _ (Heap.get?_push_of_some _ x)⟩
def iEnT (K : PySem.W.Frag) (ta : TA) : TI := fun σ H R => ta σ H fun vs H1 => ∃ a xs, vs = [.ref a] ∧ SqT K H1 a xs ∧ R (IteT K a) H1
theorem pi_enT {X : Cx} {e : Expr} {ta : TA} {p pos tpos : Pos} {elts : List Expr} {kk : Nat} (hg : Gl X "enumerate") (hm : X.mg "enumerate" = none) (ha : PA X [e] ta)
    (hs : starEach [e] X.env = [(false, eval e X.env)] := by rfl) : PI X (.Tuple elts kk tpos) (.Call (.Name "enumerate" p) [e] [] pos) (iEnT X.K ta) := by
  refine ⟨fun pins s σ
      H R I h => ?_⟩
  refine Call_ (ld_blt I hg hm boot_enumerate (PyProof.Rows.callWith_type1
    (thn (ha.run pos pins s σ H _ I h) fun us s1 ⟨vs, H1, I1, r1, q1⟩ => ?_) hs rfl))
  obtain ⟨a, xs, ex,
      hq, q⟩ := q1
  subst ex
  cases r1 with
  | cons r rr =>
    cases rr
    cases r
    obtain ⟨its, rv, pt,
        hz⟩ := I1.tuple hq
    refine call_enumT pt fun h' he hit hk => wpAny_pyIter_enum he ?_
    have I2 : Inv X pins σ H1 { s1 with heap :=
        h' } := I1.kept (t' := s1.toks) hk
    refine ⟨s1.heap.objs.size + 1, [s1.heap.objs.size + 1, s1.heap.objs.size], _, _, H1, rfl, I2, turn_enumT a (s1.heap.objs.size + 1) s1.heap.objs.size, ⟨⟨.none, he⟩, hit, Nat.succ_ne_self _⟩, fun b hb => ?_, q⟩
    have hle : s1.heap.objs.size
        ≤ b := by
      rcases (show b = s1.heap.objs.size + 1 ∨ b = s1.heap.objs.size by simpa using hb) with z | z
      · rw [z]
        exact Nat.le_add_right _ _
      · rw [z]
        exact Nat.le_refl _
    exact I1.fpOk hle
        (I1.hok.fresh hle)
/-! a tuple from its end: t[::-1] -/
theorem adj_back (n : Nat) : Builtin.Slice.sliceAdjust none none (-1) (n : Int) = ((n : Int) - 1, -1) := by
  first
  | rfl
  | (unfold Builtin.Slice.sliceAdjust; simp)
theorem places_back (n : Nat) : Builtin.Slice.slicePlaces ((n : Int) - 1) (-1) (-1) = n := by
  unfold
    Builtin.Slice.slicePlaces
  by_cases h : 0 < n
  · simp [h]
    omega
  · have e : n = 0 := by omega
    subst e
    rfl
theorem pick_back (us : Array Value) : ((List.range us.size).filterMap fun (k : Nat) => us[(((us.size : Nat) : Int) - 1 + (k : Int) * (-1)).toNat]?).toArray = us.toList.reverse.toArray := by
  have e : ((List.range us.size).filterMap fun (k : Nat) => us[(((us.size : Nat) : Int) - 1 + (k : Int) * (-1)).toNat]?) = us.toList.reverse := by
    rw [← PySem.W.krv_all us, ← List.filterMap_reverse, ← PySem.W.krv_range, List.filterMap_map]
    have ef : ∀ k ∈ List.range us.size, us[(((us.size : Nat) : Int) - 1 + (k : Int) * (-1)).toNat]? = ((us[·]?) ∘ fun k => us.size - 1 - k) k := fun k hk => by
      have := List.mem_range.mp hk
      show us[(((us.size : Nat) : Int) - 1 + (k : Int) * (-1)).toNat]? = us[us.size - 1 - k]?
      rw [show (((us.size : Nat) : Int) - 1 + (k : Int) * (-1)).toNat = us.size - 1 - k by omega]
    generalize List.range us.size = l at ef
    induction l with
    | nil => rfl
    | cons x r ih => rw [List.filterMap_cons, List.filterMap_cons, ef x (by simp), ih fun k hk => ef k (by simp [hk])]
  rw [e]
section
variable {prog : Program} {w : World} {A : Around} {E
    : Value → Shared → Prop} {s : Shared}
theorem applied_back {sl : Addr} {vl vu vs : Value} {n : Nat} {Z : Int × Int × Nat → Shared → Prop} (hs : s.heap.IsSliceOf sl vl vu vs) (pl : IsPart vl none) (pu : IsPart vu none) (ps : IsPart vs (some (-1)))
    (q : Z ((n : Int) - 1, -1, n) s) : wpAny (model prog w) A (Builtin.Slice.sliceApplied (.ref sl) (pure (n : Int))) Z E s := by
  obtain ⟨ob, e1, e2, e3⟩ := id hs
  unfold Builtin.Slice.sliceApplied
      Builtin.Slice.sliceFields
  refine wpAny_bind (wpAny_bind (wpAny_field e1 e3 (x := vl) rfl (wpAny_bind (wpAny_field e1 e3 (x := vu) rfl
    (wpAny_bind (wpAny_field e1 e3 (x := vs) rfl (wpAny_pure ?_)))))))
  refine wpAny_bind (HT.slicePart_ ps ?_)
  show wpAny _ _ (if ((-1 : Int) == 0) = true then _ else _) _ _ s
  rw [if_neg (by decide)]
  refine wpAny_bind (HT.slicePart_ pl (wpAny_bind (HT.slicePart_ pu (wpAny_bind (wpAny_pure ?_)))))
  show wpAny _ _ (match Builtin.Slice.sliceAdjust none none (-1) (n : Int) with | (lo, hi) => pure (lo, (-1 : Int), Builtin.Slice.slicePlaces lo hi (-1))) _ _ s
  rw [adj_back n]
  show wpAny _ _ (pure (((n : Int) - 1), (-1 : Int), Builtin.Slice.slicePlaces ((n : Int) - 1) (-1) (-1))) _ _ s
  rw [places_back]
  exact wpAny_pure q
theorem getItem_tup_back {t sl : Addr} {us : Array Value} {vl vu vs : Value} {Z : Value → Shared → Prop} (ht : IsTup s.heap t us) (hs : s.heap.IsSliceOf sl vl vu vs) (pl : IsPart vl none) (pu : IsPart vu none) (ps : IsPart vs (some (-1)))
    (hz : us.size ≤ sizeLine) (q : Z (.ref s.heap.objs.size) { s with heap := s.heap.push { cls := .type "tuple", data := .seq us.toList.reverse.toArray } }) :
    wpAny (model prog w) A (getItem (.ref t) (.ref sl)) Z E s := by
  have hk : sizeOk (.seq us.toList.reverse.toArray) := by
    show us.toList.reverse.toArray.size ≤ sizeLine
    rw [List.size_toArray, List.length_reverse, Array.length_toList]
    exact hz
  obtain ⟨ob, e1, e2, e3⟩ := id hs
  have hTs : s.TypeIs (.ref sl) "slice" := ⟨ob, e1, e2⟩
  unfold getItem
  try (with_reducible refine wpAny_holding ?_)
  try (refine wpAny_bind (wpAny_pure ?_))
  refine wpAny_bind (wpAny_sequenceKey
      ht.typeIs (by decide) ?_)
  refine wpAny_bind (wpAny_callSpecial?_slot (name := Str.ofString
      "__getitem__") ht.typeIs PyProof.Rows.slot_tuple_getitem
    (wpAny_call_entry PyProof.Rows.slot_tuple_getitem ht.typeIs
        entry_tuple_getitem ?_ (args_tuple_getitem _ _)))
  show wpAny _ _ (Builtin.Tuple.tupleItemsOf
      (.ref t) >>= _) _ _ s
  refine wpAny_bind
      (tupleItemsOf_ ht ?_)
  refine wpAny_bind
      (wpAny_typeOf hTs ?_)
  rw [if_pos (by decide)]
  refine wpAny_bind (applied_back hs pl pu ps ?_)
  have hno : ¬ (((((us.size : Nat) : Int) - 1) == 0 && (-1 : Int) == 1 && us.size == us.size) = true) := by
    rw [show ((-1 : Int) == 1) = false by decide]
    simp
  show wpAny _ _ (if ((((us.size : Nat) : Int) - 1) == 0 && (-1 : Int) == 1 && us.size == us.size) = true then _ else _) _ _ s
  rw [if_neg hno, pick_back]
  first
    | exact wpAny_bind (m := Builtin.Tuple.tupleExact _) (wpAny_newObj_type (wpAny_pure ⟨_, rfl, wpAny_pure q⟩) hk)
    | exact wpAny_bind (m := Builtin.Tuple.tupleExact _) (wpAny_newObj_type (wpAny_bind (wpAny_pure (wpAny_pure ⟨_, rfl, wpAny_pure q⟩))) hk)
    | exact wpAny_bind (wpAny_bind (m := Builtin.Tuple.tupleExact _) (wpAny_newObj_type (wpAny_pure (wpAny_pure ⟨_, rfl, wpAny_pure q⟩)) hk))
    | exact wpAny_bind (wpAny_bind (m := Builtin.Tuple.tupleExact _) (wpAny_newObj_type (wpAny_pure ⟨_, rfl, wpAny_pure q⟩) hk))
end
def tRevT (K : PySem.W.Frag) (te : TE) : TE := fun σ H Q => te σ H fun x H1 => ∃ a xs, x = .ref a ∧ SqT K H1 a xs ∧ ∀ p, H1 p = none → Q (.ref p) (upd H1 p (.tup xs.reverse))
theorem pe_revT {X : Cx} {e : Expr} {te : TE} {k : Nat} {p1 p2 p3 pos : Pos} (he : PE X e te) :
    PE X (.Subscript e (.Slice none none (some (.UnaryOp .USub (.Constant (.int 1) k p1) p2)) p3) pos) (tRevT X.K te) := by
  refine ⟨fun pins s σ
      H Q I h => ?_⟩
  refine Subscript_ (thn (he.run pins s σ H _ I
      h) fun v s1 ⟨x, H1, I1, r1, q1⟩ => ?_)
  obtain ⟨a, xs, ex,
      hx, q⟩ := q1
  subst ex
  cases r1
  have hst : PO X (some (.UnaryOp .USub (.Constant (.int 1) k p1) p2)) (tPart (tUn (rU
      fun i => .int (-i)) (tC (.int 1)))) := po_some (pe_un un_neg pe_int)
  refine wpAny_Slice (thn (po_none.run pins s1 σ H1 (fun o H2 => o = none ∧ H2
      = H1) I1 ⟨rfl, rfl⟩) fun vl s2 ⟨l, H2, I2, pl, el, e2⟩ => ?_)
  subst el e2
  refine thn (po_none.run pins s2 σ H2 (fun o H3 => o = none ∧ H3 = H2)
      I2 ⟨rfl, rfl⟩) fun vu s3 ⟨u, H3, I3, pu, eu, e3⟩ => ?_
  subst eu e3
  refine thn (hst.run pins s3 σ H3 (fun o H4 => o = some (-1) ∧ H4 = H3) I3 ⟨1,
      rfl, -1, rfl, rfl, rfl⟩) fun vs s4 ⟨o, H4, I4, ps, eo, e4⟩ => ?_
  subst eo e4
  have I5 : Inv X pins σ H4 { s4 with heap := s4.heap.push { cls := .type "slice", data := .fields #[vl, vu, vs] } } := I4.kept (t' := s4.toks) fun b ob z => Heap.get?_push_of_some _ z
  obtain ⟨its, r, ht, hz⟩ := I5.tuple hx
  have hlen := r.length
  show wpAny (model X.prog X.w) X.A (subscriptTail e (.Slice none none (some (.UnaryOp .USub (.Constant (.int 1) k p1) p2)) p3) (.ref a) (.ref s4.heap.objs.size)) (EP X pins σ Q) X.xe
    { s4 with heap := s4.heap.push { cls := .type "slice", data := .fields #[vl, vu, vs] } }
  refine tail_any (ops := [.ref a, .ref s4.heap.objs.size]) ht.typeIs (PyProof.Rows.slot_tuple_getitem.lookup) ?_ (by with_unfolding_all rfl)
  refine getItem_tup_back ht (Heap.IsSliceOf.new _ vl vu vs) pl pu ps (by rw [List.size_toArray]; omega) ?_
  refine ⟨.ref _, _, I5.laid (t' := s4.toks) (o := .tup xs.reverse) (fun b ob z => Heap.get?_push_of_some _ z) (Nat.le_refl _) ?_, rfl, q _ (I5.hok.fresh (Nat.le_refl _))⟩
  exact ⟨by rw [List.length_reverse]; exact hz, _, r.reverse, IsTup.new _ _⟩
end WoR
/-! WoR3 -/
set_option maxRecDepth 100000
namespace WoR
open PySem PySem.Spec
    PyProof.Rows L2
theorem nolen_rit : typeLookup (.type "range_iterator") "__len__" = pure none := by rw [typeLookup_type, builtinLookup_eq_fast]; kernel_rfl
section
variable {prog : Program} {w : World} {A : Around} {E
    : Value → Shared → Prop} {s : Shared}
theorem hint_rit {it : Addr} {a c : Int} {n : Nat} {Q : Bool → Shared → Prop} (hit : IsRangeIter s.heap it a (n : Int) c) (hn : n ≤ 2 ^ 24) (q : ∀ tk, Q false { s with toks := tk }) :
    wpAny (model prog w) A (Builtin.List.listLengthHint (.ref it)) Q E s := by
  have hT : s.TypeIs (.ref it)
      "range_iterator" := ⟨_, hit, rfl⟩
  unfold
    Builtin.List.listLengthHint
  refine wpAny_bind (wpAny_specialOf hT nolen_rit ?_)
  show wpAny _ _ (specialOf (Value.ref it) (Str.ofString "__length_hint__") >>= _) _ _ _
  refine wpAny_bind (wpAny_specialOf hT F.slot_range_iterator_length_hint.lookup ?_)
  generalize hid : ("range_iterator.__length_hint__" : String) = id0
  wp_delta
  rw [show splitId id0 = some ("range_iterator", "__length_hint__") from by subst hid; decide +kernel]
  subst hid
  refine wpAny_bind (wpAny_isInstance (b := true) hT
      (by rw [isSubtype_type]; kernel_rfl) ?_)
  refine wpAny_ite_split (fun hab => absurd
      hab (by decide)) (fun _ => ?_)
  refine wpAny_ite_split (fun _ => ?_) (fun hab
      => absurd (by decide +kernel) hab)
  refine wpAny_ite_split (fun _ => ?_) (fun hab
      => absurd (by decide +kernel) hab)
  refine wpAny_bind (wpAny_call_entry F.slot_range_iterator_length_hint hT F.entry_range_iterator_length_hint ?_ (F.args_range_iterator_length_hint_1 _))
  show wpAny _ _ (field (.ref
      it) 1 >>= _) _ _ s
  refine wpAny_bind (wpAny_field hit rfl (x := rawInt (n : Int)) rfl ?_)
  show wpAny _ _ (retInt (n : Int)) _ _ s
  refine wpAny_bind (wpAny_mkInt
      (wpAny_pure ⟨_, rfl, ?_⟩))
  refine wpAny_bind (m := asInt?
      _) (wpAny_pure ?_)
  have htl : Builtin.List.listTooLong ((n : Int).toNat) = false := by
    simp [Builtin.List.listTooLong, sizeLine]
    omega
  exact wpAny_ite_split (fun hab => absurd hab (by rw [htl]; decide)) (fun _ => wpAny_pure (q _))
theorem collect_rit {it : Addr} {a c : Int} {n : Nat} {Q : List Value → Shared → Prop} (hh : A.handled = none) (hit : IsRangeIter s.heap it a (n : Int) c) (hn : n ≤ 2 ^ 24)
    (hQ : ∀ (h' : Heap) (tk : Nat) (acc : Array Value), (∀ b o, b ≠ it → s.heap.get? b = some o → h'.get? b = some o) → ItemsOf (fun i v => ∃ t, v = .int (a + i * c) t) acc n → Q acc.toList { s with heap := h', toks := tk }) :
    wpAny (model prog w) A (collect
        (.ref it)) Q E s := by
  have W := (Walks.range (prog := prog) (w := w) (A := A.in1) hh it a c n).toS
  have hSi : s.heap.objs.size ≠ it := Nat.ne_of_gt (Heap.lt_size hit)
  have hSf : s.heap.objs.size ∉ [it] := by
    simp only [List.mem_cons, List.not_mem_nil, or_false]
    exact hSi
  unfold collect
  refine wpAny_bind (wpAny_runValue (codeAny_builtin
      F.entry_proto_collect ?_))
  rw [Around.under_plainId
      F.plain_proto_collect _]
  show wpAny _ A.in1 (newList [] >>= fun ld => again (.builtin "list.__iadd__" ⟨[ld, .ref it], []⟩)) _ _ s
  refine wpAny_bind
      (wpAny_newObj_type ?_)
  refine wpAny_pure ⟨plainId_quiet F.plain_list_iadd
      _, codeAny_builtin F.entry_list_iadd ?_⟩
  rw [Around.under_plainId
      F.plain_list_iadd _]
  have g1 : (s.heap.push { cls := .type "list", data := .seq ([] : List Value).toArray }).get? s.heap.objs.size = some { cls := .type "list", data := .seq ([] : List Value).toArray } := Heap.get?_push_size _ rfl
  have g2 : IsRangeIter (s.heap.push { cls := .type "list", data := .seq ([] : List Value).toArray }) it a (n : Int) c := Heap.get?_push_of_some _ hit
  have hT : ({ s with heap := s.heap.push { cls := .type "list", data := .seq ([] : List Value).toArray } } : Shared).TypeIs (.ref it) "range_iterator" := ⟨_, g2, rfl⟩
  have g3 : Builtin.List.listSameRef (.ref s.heap.objs.size) (.ref it) = false := by simp [Builtin.List.listSameRef, hSi]
  show wpAny _ A.in1 (Builtin.List.listExtendWith (.ref
      s.heap.objs.size) (.ref it) (.ref s.heap.objs.size)) _ _ _
  unfold
    Builtin.List.listExtendWith
  refine wpAny_bind
      (wpAny_typeOf hT ?_)
  rw [if_neg (by rw [g3]; decide)]
  refine wpAny_bind (wpAny_pyIter_rangeiter g2 ?_)
  refine wpAny_bind
      (wpAny_holding ?_)
  refine hint_rit (s := { s with heap := s.heap.push { cls := .type "list", data := .seq ([] : List Value).toArray } }) g2 hn fun tk => ?_
  rw [if_neg (by decide)]
  have e0 : IsRangeIter (s.heap.push { cls := .type "list", data := .seq ([] : List Value).toArray }) it (a + ((0 : Nat) : Int) * c) ((n : Int) - ((0 : Nat) : Int)) c := by
    have z1 : a + ((0 : Nat) : Int) * c = a := by simp
    have z2 : (n : Int) - ((0 : Nat) : Int) = n := by omega
    rw [z1, z2]
    exact g2
  refine wpAny_pure ⟨plainId_quiet F.plain_extend_loop _, codeAny_extend_loopS W (by rw [sizeLine_eq]; omega) _ hSf _ n 0 _ _ _ rfl (Nat.zero_le _) e0 g1 (ItemsOf.nil _) fun s' acc c' hm hS' hacc => ?_⟩
  show wpAny _ A (load
      s.heap.objs.size >>= _) _ _ s'
  refine wpAny_bind
      (wpAny_load hS' ?_)
  refine wpAny_pure ?_
  rw [Moved.eq_with hm]
  refine hQ s'.heap s'.toks acc (fun b o hb e => hm.heap b o (fun hmem => ?_) (Heap.get?_push_of_some _ e)) hacc
  rcases List.mem_cons.mp hmem with z | z
  · exact absurd (Heap.lt_size e) (by rw [z]; exact Nat.lt_irrefl _)
  · exact hb (List.mem_singleton.mp z)
theorem code_tuple_rit {it : Addr} {a c : Int} {n : Nat} {Z : Value → Shared → Prop} (hh : A.handled = none) (hit : IsRangeIter s.heap it a (n : Int) c) (hn : n ≤ 2 ^ 24)
    (h : ∀ (h' : Heap) (tk : Nat) (acc : Array Value), (∀ b o, b ≠ it → s.heap.get? b = some o → h'.get? b = some o) → ItemsOf (fun i v => ∃ t, v = .int (a + i * c) t) acc n →
      Z (.ref h'.objs.size) { s with heap := h'.push { cls := .type "tuple", data := .seq acc }, toks := tk }) :
    codeAny (model prog w) A (.call (.builtin "tuple.__new__") ⟨[.type "tuple", .ref it], []⟩) (wants Z E) s := by
  refine codeAny_of_tree ?_
  show wpAny _ A.in1 (checkBuiltinCall "tuple.__new__" ⟨[.type "tuple", .ref it], []⟩ >>= fun _ =>
      again (.builtin "tuple.__new__" ⟨[.type "tuple", .ref it], []⟩)) _ _ s
  refine wpAny_bind (wpAny_of_eq (F.newCall_tuple_1 _) (wpAny_pure ⟨plainId_quiet
      F.plain_tuple_new _, codeAny_builtin F.entry_tuple_new ?_⟩))
  rw [Around.under_plainId
      F.plain_tuple_new _]
  have hsub := sub_tuple_self
  have hinit :=
      init_tuple_lookup
  have hmh := madeHere_tuple
  have hTI : s.TypeIs (.ref it) "range_iterator" := ⟨_, hit, rfl⟩
  have hh1 : A.in1.handled
      = none := hh
  wp_walk using wpAny_typeOf hTI, collect_rit (A := A.in1) hh1 hit hn
  intro h' tk acc hk hacc
  show wpAny _ _ (Builtin.Tuple.tupleExact
      acc.toList.toArray >>= fun v => ret v) _ _ _
  unfold
    Builtin.Tuple.tupleExact
  have small : acc.toList.toArray.size ≤ sizeLine := by
    rw [Array.toArray_toList, hacc.1, sizeLine_eq]
    omega
  refine wpAny_bind (wpAny_newObj_type ?_ small)
  refine wpAny_pure ?_
  have e : acc.toList.toArray
      = acc := by simp
  rw [e]
  exact h h' tk acc hk hacc
theorem call_tuple_rit {it : Addr} {a c : Int} {n : Nat} {Z : Value → Shared → Prop} (hh : A.handled = none) (hit : IsRangeIter s.heap it a (n : Int) c) (hn : n ≤ 2 ^ 24)
    (q : ∀ (h' : Heap) (tk : Nat) (acc : Array Value), (∀ b o, b ≠ it → s.heap.get? b = some o → h'.get? b = some o) → ItemsOf (fun i v => ∃ t, v = .int (a + i * c) t) acc n →
      Z (.ref h'.objs.size) { s with heap := h'.push { cls := .type "tuple", data := .seq acc }, toks := tk }) :
    wpAny (model prog w) A (call (.type "tuple") [.ref it]) Z E s := by
  refine callType_codes (Q₁ := fun obj s₁ => s₁.TypeIs obj "tuple" ∧ Z obj s₁) F.called_tuple (F.typeCall_tuple_1 _) F.entry_object_init
    (code_tuple_rit (A := A.in1) hh hit hn fun h' tk acc hk hacc => ⟨⟨_, Heap.get?_push_size _ rfl, rfl⟩, q h' tk acc hk hacc⟩) fun obj s₁ h₁ => ?_
  refine ⟨h₁.1, F.args_object_init_2 obj _, ?_⟩
  exact object_init_meets F.called_tuple.init.lookup F.called_tuple.made (by decide) prog w A.in1 _ s₁ ⟨h₁.1, rfl, h₁.2⟩
end
/-- tuple(reversed(range(n))) -/
def backI (n : Nat) : List V := (List.range n).map fun (i : Nat) => V.int ((n : Int) - 1 - (i : Int))
def tTupBack (te : TE) : TE := fun σ H Q => tRg1 te σ H fun a b H1 => ∃ n : Nat, a = 0 ∧ b = (n : Int) ∧ n ≤ 100000 ∧ ∀ p, H1 p = none → Q (.ref p) (upd H1 p (.tup (backI n)))
theorem pe_tupBack {X : Cx} {e : Expr} {te : TE} {p p2 p3 pos pos2 pos3 : Pos} (hc : X.calm = true) (hg : Gl X "tuple") (hm : X.mg "tuple" = none) (hg2 : Gl X "reversed") (hm2 : X.mg "reversed" = none) (hg3 : Gl X "range") (hm3 : X.mg "range" = none) (he : PE X e te)
    (hs : starEach [e] X.env = (false, eval e
        X.env) :: starEach [] X.env := by rfl)
    (hs1 : starEach [.Call (.Name "range" p3) [e] [] pos3] X.env = (false, eval (.Call (.Name "range" p3) [e] [] pos3) X.env) :: starEach [] X.env := by rfl)
    (hs2 : starEach [.Call (.Name "reversed" p2) [.Call (.Name "range" p3) [e] [] pos3] [] pos2] X.env = (false, eval (.Call (.Name "reversed" p2) [.Call (.Name "range" p3) [e] [] pos3] [] pos2) X.env) :: starEach [] X.env := by rfl) :
    PE X (.Call (.Name "tuple" p) [.Call (.Name "reversed" p2) [.Call (.Name "range" p3) [e] [] pos3] [] pos2] [] pos) (tTupBack te) := by
  refine ⟨fun pins s σ
      H Q I h => ?_⟩
  refine Call_ (ld_blt I hg hm boot_tuple (PyProof.Rows.callWith_type1 (args_cons (Call_ (ld_blt I hg2 hm2 PyProof.Rows.boot_reversed (PyProof.Rows.callWith_type1
    (args_cons (thn (prg_1 hg3 hm3 he hs pins s σ H _ I h) fun u s1 hx => args_nil ?_) hs1) hs1 rfl))) hs2) hs2 rfl))
  obtain ⟨r, a, b, t, w1, v, H1, eu, hr, I1, n, rfl, rfl, hn, q⟩ := hx
  subst eu
  have hz : Builtin.Range.rangeSize 0 (n : Int) 1 = ((n : Nat) : Int) := by
    have z := rangeSize_nat 0 (n : Int)
    rw [Int.sub_zero] at z
    exact z
  refine call_reversed_range hr (smallRev_one (by omega) (by omega) (by omega) (by omega)) (args_nil ?_)
  have I2 : Inv X pins σ H1 { s1 with heap := s1.heap.push (rngRevObj 0 (n : Int) 1) } := I1.kept (t' := s1.toks) fun b o e => Heap.get?_push_of_some _ e
  obtain ⟨f0, f1, f2, f3, f4, f5⟩ := I1.fpOk (H' := H1) (b := s1.heap.objs.size)
      (Nat.le_refl _) (I1.hok.fresh (Nat.le_refl _))
  have hit : IsRangeIter (s1.heap.push (rngRevObj 0 (n : Int) 1)) s1.heap.objs.size ((n : Int) - 1) (n : Int) (-1) := by
    have z : rngRevObj 0 (n : Int) 1 = { cls := .type "range_iterator", data := .fields #[rawInt ((n : Int) - 1), rawInt (n : Int), rawInt (-1)] } := by
      unfold rngRevObj
      rw [hz, show (0 : Int) + ((n : Int) - 1) * 1 = (n : Int) - 1 by omega]
    rw [z]
    exact Heap.get?_push_size
        _ rfl
  refine call_tuple_rit (s := { s1 with heap := s1.heap.push (rngRevObj 0 (n : Int) 1) }) (I1.ok.hd hc) hit (by omega) fun h' tk acc hk hi => ?_
  have I3 : Inv X pins σ H1 { s1 with heap := h', toks := tk } := I2.turned
      (t' := tk) (fun b o hb e => hk b o hb e) f0 f1 f3 f4 f5
  have hl : acc.toList.length = n := by
    rw [Array.length_toList]
    exact hi.1
  have rv : Vals (backI n) acc.toList := by
    unfold backI
    rw [← hl]
    refine vals_of_get acc.toList
        _ fun j u hj => ?_
    obtain ⟨t, rfl⟩ := hi.2 j u (by rw [← hj, Array.getElem?_toList])
    exact ⟨t, by rw [hl]; congr 1; omega⟩
  refine ⟨.ref h'.objs.size, upd H1 h'.objs.size (.tup (backI n)), I3.laid (t' := tk) (fun c o e => Heap.get?_push_of_some _ e) (Nat.le_refl _) (show ObjOk X.prog X.w _ _ _ (.tup (backI n)) from ⟨?_, acc.toList, rv, ?_⟩), rfl, q _ (I3.hok.fresh (Nat.le_refl _))⟩
  · unfold backI
    rw [List.length_map, List.length_range, sizeLine_eq]
    omega
  · rw [Array.toArray_toList]
    exact IsTup.new _ _
end WoR
namespace WoR
open PySem PySem.Spec
    PyProof.Rows L2
/-- xs + ys, both to be read -/
def rCatS (K : PySem.W.Frag) : R2 := fun x y H Q => ∃ l b xs zs, x = .ref l ∧ y = .ref b ∧ SqL K H l xs ∧ SqL K H b zs ∧ xs.length + zs.length ≤ 100000 ∧ ∀ p, H p = none → Q (.ref p) (upd H p (.lst (xs ++ zs)))
theorem op_catS {X : Cx} : OpR X (binaryOp .Add) (rCatS X.K) := by
  intro pins s σ H x y
      v u Q I rx ry h
  obtain ⟨l, b, xs, zs, rfl,
      rfl, hH, hB, hz, q⟩ := h
  cases rx
  cases ry
  obtain ⟨its, r, p1, _⟩ := I.list hH
  obtain ⟨its2, r2, p2, _⟩ := I.list hB
  have k1 := r.length
  have k2 := r2.length
  obtain ⟨⟨c1, d1, t1, sl1⟩, n1, g1, z1, _, y1⟩ := p1
  obtain ⟨⟨c2, d2, t2, sl2⟩, n2, g2, z2, _, y2⟩ := p2
  simp only at z1 y1 z2 y2
  subst z1 y1 z2 y2
  have ea : its.toArray ++ its2.toArray =
      (its ++ its2).toArray := by simp
  have hs : its.toArray.size + its2.toArray.size ≤ sizeLine := by
    rw [List.size_toArray, List.size_toArray, sizeLine_eq]
    omega
  refine concat_meets ⟨_, g1, rfl⟩ ⟨_, g2, rfl⟩ noFill_list_add seq_list_add PySem.F.slot_list_add PySem.F.entry_list_add (PySem.F.args_list_add_2 _ _)
    (list_addW l b its.toArray its2.toArray n1 n2 d1 d2 sl1 sl2 hs) ⟨g1, g2, ?_⟩
  rw [ea]
  exact ⟨.ref _, _, I.lnew (t' := s.toks) (r.append r2) (by rw [List.length_append, sizeLine_eq]; omega), rfl, q _ I.fresh⟩
end WoR
/-! WoR4 -/
set_option maxRecDepth 100000
namespace WoR
open PySem PySem.Spec
    PyProof.Rows L2
/-- t.index(x) of flat values: the first place -/
def rIndT (K : PySem.W.Frag) : V → List V → Hp → VK → Prop := fun x xs H Q => ∃ (a : Addr) (ys : List V) (y : V) (j : Nat) (z : V), x = .ref a ∧ xs = [y] ∧ SqT K H a ys ∧ flatV y = true ∧ ys.all flatV = true ∧ ys[j]? = some z ∧ eqV z y = true ∧
  (∀ m z', m < j → ys[m]? = some z' → eqV z' y = false) ∧ Q (.int (j : Nat)) H
theorem mt_indT {X : Cx} : MtR X "tuple.index" (rIndT X.K) := by
  intro pins s σ H x xs
      v us Q I rx rxs h
  obtain ⟨a, ys, y, j, z, rfl, rfl, hs,
      fy, fys, hz, hzj, hno, q⟩ := h
  cases rx
  cases rxs with
  | cons ry rt =>
    rename_i uy ut
    cases rt
    obtain ⟨its, rv, ⟨⟨cls, dd, dt, sl⟩, ho, hc, n, hd⟩, hlen⟩ := I.tuple hs
    simp only at hc hd
    subst hc hd
    obtain ⟨u, hu, ru⟩
        := rv.get hz
    obtain ⟨hjl, hje⟩ :=
        List.getElem?_eq_some_iff.mp hu
    have hvl := rv.length
    have hj : j < its.toArray.size
        := by simpa using hjl
    refine call_meets PySem.F.slot_tuple_index ⟨_, ho, rfl⟩ PySem.F.entry_tuple_index (PySem.F.args_tuple_index_2 _ _)
      (TI.tuple_indexAt a its.toArray n dd sl uy (eqU y) j hj ?_ ?_) ⟨ho, fun w hw => mem_eqAt ry fy rv fys w (by simpa using hw), ⟨.int (j : Nat), H, I.tok _, ⟨_, rfl⟩, q⟩⟩
    · have e1 : its.toArray[j] =
        u := by simpa using hje
      rw [e1, eqU_of ru
          (flat_at fys hz)]
      exact hzj
    · intro m hm hmj
      have hml : m < its.length
          := by simpa using hm
      have hmy : m < ys.length
          := by omega
      have hy' : ys[m]? = some ys[m] :=
          List.getElem?_eq_getElem hmy
      obtain ⟨u2, hu2, ru2⟩
          := rv.get hy'
      obtain ⟨_, hme⟩ :=
          List.getElem?_eq_some_iff.mp hu2
      have e1 : its.toArray[m] = u2
          := by simpa using hme
      rw [e1, eqU_of ru2
          (flat_at fys hy')]
      exact hno m _ hmj hy'
end WoR
/-! WoR5 -/
set_option maxRecDepth 100000
namespace WoR
open PySem PySem.Spec
    PyProof.Rows L2
section
variable {X : Cx}
/-- a written tuple whose object is known to bear no dict -/
def tTupF (t : TA) : TE := fun σ H Q => t σ H fun xs H1 => xs.length ≤ sizeLine ∧ ∀ p ob, H1 p = none → ob.dict = none → Q (.ref p) (upd H1 p (.frz ob (.tup xs)))
theorem pe_tupF {es : List Expr} {pos : Pos} {x1} {t : TA} (h : PA X es t) : PE X (.Tuple es x1 pos) (tTupF t) := by
  constructor
  intro pins s σ H Q I hq
  refine wpAny_Tuple_spliced (thn (h.run pos pins s σ H _ I hq) ?_)
  rintro us s1 ⟨xs, H1, I1, r, z, q⟩
  refine ⟨by rw [← r.length]; exact z, ?_⟩
  refine ⟨.ref s1.heap.objs.size, upd H1 s1.heap.objs.size (.frz { cls := .type "tuple", data := .seq us.toArray } (.tup xs)), ?_, rfl, q _ _ (I1.hok.fresh (Nat.le_refl _)) rfl⟩
  refine I1.laid (t' := s1.toks) (fun b u e =>
    Heap.get?_push_of_some _ e) (Nat.le_refl _) ?_
  exact ⟨Heap.get?_push_size _ rfl, z, us, r, _, Heap.get?_push_size _ rfl, rfl, _, rfl⟩
/-- t + u, both not empty -/
def rCatF (K : PySem.W.Frag) : R2 := fun x y H Q => ∃ a b xs ys, x = .ref a ∧ y = .ref b ∧ SqT K H a xs ∧ SqT K H b ys ∧ xs.length + ys.length ≤ sizeLine ∧
  (xs = [] → Q (.ref b) H) ∧ ys ≠ [] ∧ (xs ≠ [] → ∀ p ob, H p = none → ob.dict = none → Q (.ref p) (upd H p (.frz ob (.tup (xs ++ ys)))))
theorem op_catF : OpR X (binaryOp .Add) (rCatF X.K) := by
  intro pins s σ H x y
      v u Q I rx ry h
  obtain ⟨a, b, xs, ys, rfl, rfl, ha, hb, hz, q0, hy, q2⟩ := h
  cases rx
  cases ry
  obtain ⟨its, r1, p1,
      _⟩ := I.tuple ha
  obtain ⟨its2, r2, p2,
      _⟩ := I.tuple hb
  by_cases hx : xs = []
  · subst hx
    cases r1
    exact cat_tup0 p1 p2 ⟨.ref
        b, H, I, rfl, q0 rfl⟩
  · refine HT.cat_tup p1 p2 (fun z => hx (r1.nil_iff.mp z)) (fun z => absurd (r2.nil_iff.mp z) hy) (fun z => ?_) (by rw [← r1.length, ← r2.length]; exact hz)
    refine ⟨.ref s.heap.objs.size, _, I.laid (t' := s.toks) (o := .frz { cls := .type "tuple", data := .seq (its ++ its2).toArray } (.tup (xs ++ ys))) (fun b ob q =>
      Heap.get?_push_of_some _ q) (Nat.le_refl _) ?_, rfl, q2 hx _ _ (I.hok.fresh (Nat.le_refl _)) rfl⟩
    refine ⟨?_, by rw [List.length_append]; exact hz, _, r1.append r2, ?_⟩
    · exact Heap.get?_push_size
        _ rfl
    · exact IsTup.new _ _
/-- t.index(x), t a tuple whose object is known -/
def tIndF (K : PySem.W.Frag) (to : TE) (t : TA) : TE := fun σ H Q => to σ H fun x H1 => (∃ a ob xs, x = .ref a ∧ H1 a = some (.frz ob (.tup xs)) ∧ ob.dict = none) ∧ t σ H1 fun xs H2 => rIndT K x xs H2 Q
theorem pe_indF {o e : Expr} {es : List Expr} {to : TE} {t : TA} {apos cpos : Pos} (ho : PE X o to) (ha : PA X (e :: es) t)
    (hbase : attributeBase o (Str.ofString "index") X.env (eval o X.env) = eval o X.env := by rfl)
    (hfew : ((backTo cpos (starEach (e :: es) X.env)).all (fun x => !x.1) &&
        (backToKw cpos (keywordEach [] X.env)).all (fun x => x.1.isSome)
        && decide ((e :: es).length + ([] : List Keyword).length + (if ([] : List
            Keyword).isEmpty then 0 else 1) < 30)) = true := by rfl)
    (hline : (apos.endLine == cpos.line) = true := by rfl) (hs : starEach (e :: es) X.env = (false, eval e X.env) :: starEach es X.env := by rfl)
    (hplain : (backTo cpos (starEach es X.env)).any (·.1) = false := by rfl) :
    PE X (.Call (.Attribute o "index" apos) (e :: es) [] cpos) (tIndF X.K to t) := by
  constructor
  intro pins s σ H Q I h
  refine wpAny_Call_method_late hbase hfew hline rfl (thn (ho.run pins s σ H _ I h) ?_)
  rintro v s1 ⟨x, H1, I1, r1, ⟨a, ob, xs, rfl, ea, hd⟩, q1⟩
  cases r1
  obtain ⟨e1, z, its, r, ob', e2, c, n, d⟩ := I1.hok a _ ea
  rw [e1] at e2
  cases e2
  refine ⟨"tuple", "tuple.index", PySem.F.plainAttrs_tuple, PySem.F.slot_tuple_index, PySem.F.type_tuple_index, ⟨ob, e1, c⟩, fun b z => ?_, ?_⟩
  · cases z
    exact ⟨ob, e1, hd⟩
  · have hA := ha.run cpos pins s1 σ H1 _ I1 q1
    rw [hs] at hA ⊢
    refine Calls.callWith_builtin ?_ (Calls.evalArgs_plain ?_)
    · show (false || (backTo cpos (starEach es X.env)).any (·.1)) = false
      rw [hplain]
      rfl
    · exact thn hA fun us s2 ⟨vs, H2, I2, r2, q2⟩ => mt_indT pins s2 σ H2 (.ref a) vs _ us Q I2 rfl r2 q2
end
end WoR
/-! Pu1 -/
set_option maxRecDepth 100000
/-! Pure readings of Python: what stands in a slot is told by data (PyData); an expression's reading is a function of the slots' data. -/
namespace Pu
open PySem PySem.Spec
    PyProof.Rows L2
abbrev D := PyData
abbrev HO := L2.HO
mutual
/-- the value v is the datum d, all of it locked -/
inductive Rp (H : Hp) : V → D → Prop
  | non : Rp H .non .none
  | bl (b : Bool) : Rp H (.bl b) (.bool b)
  | int (i : Int) : Rp H (.int i) (.int i)
  | str (x : Str) : Rp H (.str x) (.str x)
  | tup {a : Addr} {ob : Obj} {vs : List V} {ds : List D} : H a = some (.frz ob (.tup vs)) → ob.dict = none → RpL H vs ds → Rp H (.ref a) (.tuple ds)
  | lst {a : Addr} {ob : Obj} {vs : List V} {ds : List D} : H a = some (.frz ob (.lst vs)) → RpL H vs ds → Rp H (.ref a) (.list ds)
inductive RpL (H : Hp) : List V → List D → Prop
  | nil : RpL H [] []
  | cons {v : V} {vs : List V} {d : D} {ds : List D} : Rp H v d → RpL H vs ds → RpL H (v :: vs) (d :: ds)
end
/-- what is locked stays -/
def FzS (H H' : Hp) : Prop := ∀ b ob u, H b = some (.frz ob u) → H' b = some (.frz ob u)
theorem FzS.refl (H : Hp) : FzS H H := fun _ _ _ h => h
theorem FzS.trans {H H1 H2 : Hp} (a : FzS H H1) (b : FzS H1 H2) : FzS H H2 := fun c o u h => b c o u (a c o u h)
theorem FzS.new {H : Hp} {p : Addr} {o : HO} (h : H p = none) : FzS H (upd H p o) := fun b ob u e => by
  rw [upd_ne (ne_of_none e h)]
  exact e
mutual
theorem Rp.keep {H H' : Hp} (k : FzS H H') : ∀ (d : D) (v : V), Rp H v d → Rp H' v d
  | .none, _, h => by cases h; exact .non
  | .bool b, _, h => by cases h; exact .bl b
  | .int i, _, h => by cases h; exact .int i
  | .str x, _, h => by cases h; exact .str x
  | .tuple ds, _, h => by
    cases h with
    | tup e n r => exact .tup (k _ _ _ e) n (RpL.keep k ds _ r)
  | .list ds, _, h => by
    cases h with
    | lst e r => exact .lst (k _ _ _ e) (RpL.keep k ds _ r)
  | .dict _, _, h => by cases h
theorem RpL.keep {H H' : Hp} (k : FzS H H') : ∀ (ds : List D) (vs : List V), RpL H vs ds → RpL H' vs ds
  | [], _, h => by cases h; exact .nil
  | d :: ds, _, h => by
    cases h with
    | cons h1 h2 => exact .cons (Rp.keep k d _ h1) (RpL.keep k ds _ h2)
end
theorem Rp.k {H H' : Hp} {v : V} {d : D} (h : Rp H v d) (k : FzS H H') : Rp H' v d := Rp.keep k d v h
theorem RpL.k {H H' : Hp} {vs : List V} {ds : List D} (h : RpL H vs ds) (k : FzS H H') : RpL H' vs ds := RpL.keep k ds vs h
theorem RpL.length : ∀ {H : Hp} {vs : List V} {ds : List D}, RpL H vs ds → vs.length = ds.length
  | _, _, _, .nil => rfl
  | _, _, _, .cons _ t => congrArg (· + 1) (RpL.length t)
theorem RpL.get {H : Hp} : ∀ {vs : List V} {ds : List D} {i : Nat} {d : D}, RpL H vs ds → ds[i]? = some d → ∃ v, vs[i]? = some v ∧ Rp H v d
  | _, _, _, _, .nil, e =>
      by simp at e
  | _, _, 0, _, .cons h _, e => by simp at e; subst e; exact ⟨_, rfl, h⟩
  | _, _, i + 1, _, .cons _ t, e => by
    obtain ⟨v, h1, h2⟩ := RpL.get (i := i) t (by simpa using e)
    exact ⟨v, by simpa using h1, h2⟩
theorem RpL.getV {H : Hp} : ∀ {vs : List V} {ds : List D} {i : Nat} {v : V}, RpL H vs ds → vs[i]? = some v → ∃ d, ds[i]? = some d ∧ Rp H v d
  | _, _, _, _, .nil, e =>
      by simp at e
  | _, _, 0, _, .cons h _, e => by simp at e; subst e; exact ⟨_, rfl, h⟩
  | _, _, i + 1, _, .cons _ t, e => by
    obtain ⟨v, h1, h2⟩ := RpL.getV (i := i) t (by simpa using e)
    exact ⟨v, by simpa using h1, h2⟩
theorem RpL.append {H : Hp} : ∀ {vs : List V} {ds : List D} {ws : List V} {es : List D}, RpL H vs ds → RpL H ws es → RpL H (vs ++ ws) (ds ++ es)
  | _, _, _, _, .nil, s => s
  | _, _, _, _, .cons h t, s => .cons h (RpL.append t s)
theorem RpL.one {H : Hp} {v : V} {d : D} (h : Rp H v d) : RpL H [v] [d] := .cons h .nil
theorem RpL.take {H : Hp} : ∀ {vs : List V} {ds : List D} (n : Nat), RpL H vs ds → RpL H (vs.take n) (ds.take n)
  | _, _, 0, _ => .nil
  | _, _, _ + 1, .nil => .nil
  | _, _, n + 1, .cons h t => .cons h (RpL.take n t)
theorem RpL.drop {H : Hp} : ∀ {vs : List V} {ds : List D} (n : Nat), RpL H vs ds → RpL H (vs.drop n) (ds.drop n)
  | _, _, 0, h => h
  | _, _, _ + 1, .nil => .nil
  | _, _, n + 1, .cons _ t => RpL.drop n t
theorem RpL.set {H : Hp} {v : V} {d : D} (h : Rp H v d) : ∀ {vs : List V} {ds : List D} (i : Nat), RpL H vs ds → RpL H (vs.set i v) (ds.set i d)
  | _, _, _, .nil => .nil
  | _, _, 0, .cons _ t => .cons h t
  | _, _, i + 1, .cons q t => .cons q (RpL.set h i t)
theorem RpL.erase {H : Hp} : ∀ {vs : List V} {ds : List D} (i : Nat), RpL H vs ds → RpL H (vs.eraseIdx i) (ds.eraseIdx i)
  | _, _, _, .nil => .nil
  | _, _, 0, .cons _ t => t
  | _, _, i + 1, .cons q t => .cons q (RpL.erase i t)
theorem RpL.reverse {H : Hp} : ∀ {vs : List V} {ds : List D}, RpL H vs ds → RpL H vs.reverse ds.reverse
  | _, _, .nil => .nil
  | _, _, .cons h t => by
    rw [List.reverse_cons,
        List.reverse_cons]
    exact (RpL.reverse t).append (.one h)
theorem RpL.dropLast {H : Hp} : ∀ {vs : List V} {ds : List D}, RpL H vs ds → RpL H vs.dropLast ds.dropLast
  | _, _, .nil => .nil
  | _, _, .cons _ .nil => .nil
  | _, _, .cons h (.cons h2 t) => .cons h (RpL.dropLast (.cons h2 t))
theorem RpL.ints {H : Hp} : ∀ ns : List Int, RpL H (ns.map V.int) (ns.map PyData.int)
  | [] => .nil
  | n :: ns => .cons (.int n) (RpL.ints ns)
mutual
theorem Rp.dp {K : PySem.W.Frag} {H : Hp} : ∀ (d : D) (v : V), Rp H v d → Dp K H v d
  | .none, _, h => by cases h; exact .non
  | .bool b, _, h => by cases h; exact .bl b
  | .int i, _, h => by cases h; exact .int i
  | .str x, _, h => by cases h; exact .str x
  | .tuple ds, _, h => by
    cases h with
    | tup e n r => exact .tup (.inl (.inr ⟨_, e⟩)) (RpL.dp ds _ r)
  | .list ds, _, h => by
    cases h with
    | lst e r => exact .lst (.inl (.inr ⟨_, e⟩)) (RpL.dp ds _ r)
  | .dict _, _, h => by cases h
theorem RpL.dp {K : PySem.W.Frag} {H : Hp} : ∀ (ds : List D) (vs : List V), RpL H vs ds → DpAll K H vs ds
  | [], _, h => by cases h; exact .nil
  | d :: ds, _, h => by
    cases h with
    | cons h1 h2 => exact .cons (Rp.dp d _ h1) (RpL.dp ds _ h2)
end

/-! what may stand in a slot -/
/-- an object that is no datum: a list, a dict that may be changed -/
inductive OB where
  | lst (xs : List D)
  | dic (kvs : List (D × D))
inductive SV where
  /-- nothing is known -/
  | un
  /-- a datum -/
  | d (x : D)
  /-- an object of the def's own that no other name holds; t: which argument it was -/
  | own (t : Option Nat) (o : OB)
  /-- an object that is only read -/
  | fz (o : OB)
  /-- a value as it is -/
  | raw (v : V)
abbrev Ev := List SV
inductive ObR (H : Hp) : HO → OB → Prop
  | lst {vs : List V} {xs : List D} : RpL H vs xs → ObR H (.lst vs) (.lst xs)
theorem ObR.k {H H' : Hp} {ho : HO} {o : OB} (h : ObR H ho o) (k : FzS H H') : ObR H' ho o := by
  cases h with
  | lst r => exact .lst (r.k k)
def Mu (ho : HO) : Prop := Mut (some ho)
theorem Mu.nofrz {ob : Obj} {u : HO} (h : Mu (.frz ob u)) : False := h
theorem Mu.notbl {ps : Array Value} (h : Mu (.tbl ps)) : False := h
def SlotOk (S : List Addr) (H : Hp) : Option V → SV → Prop
  | _, .un => True
  | some v, .d x => Rp H v x
  | some v, .own t o => ∃ a ho, v = .ref a ∧ H a = some ho ∧ Mu ho ∧ ObR H ho o ∧ (t = none → a ∉ S) ∧ ∀ k, t = some k → S[k]? = some a
  | some v, .fz o => ∃ a ob ho, v = .ref a ∧ H a = some (.frz ob ho) ∧ ObR H ho o
  | some v, .raw u => v = u
  | none, _ => False
/-- the object at a is the slot's own -/
def Own (σ : L2.St) (ρ : Ev) (i : Nat) (a : Addr) : Prop := σ[i]? = some (some (.ref a)) ∧ ∃ t o, ρ[i]? = some (.own t o)
def NoTbl (o : HO) : Prop := ∀ ps, o ≠ .tbl ps
structure RS (T : List (Addr × Str)) (S : List Addr) (H0 H : Hp) (σ : L2.St) (ρ : Ev) : Prop where
  len : σ.length = ρ.length
  slot : ∀ (i : Nat) (x : SV), ρ[i]? = some x → SlotOk S H (σ[i]?.getD none) x
  sep : ∀ i j a, Own σ ρ i a → Own σ ρ j a → i = j
  new : ∀ i a, Own σ ρ i a → a ∈ S ∨ H0 a = none
  fr : ∀ b o, H0 b = some o → b ∉ S → H b = some o
  tab : LamX.Tabs T H
  nt : T = [] ∨ (S = [] ∧ ∀ b ps, H0 b ≠ some (.tbl ps))
  dm : ∀ b, H b = none → H0 b = none ∧ b ∉ S
/-- nothing there, or a code object's table -/
def Emp (H : Hp) (b : Addr) : Prop := H b = none ∨ ∃ ps, H b = some (.tbl ps)
theorem emp_upd {H : Hp} {a b : Addr} {w : HO} (n : NoTbl w) (h : Emp (upd H a w) b) : Emp H b := by
  by_cases z : b = a
  · subst z
    rcases h with h | ⟨ps, h⟩ <;> rw [upd_same] at h <;> cases h
    exact (n ps rfl).elim
  · rcases h with h | ⟨ps, h⟩ <;> rw [upd_ne z] at h
    · exact .inl h
    · exact .inr ⟨ps, h⟩
theorem emp_frz {H : Hp} {a b : Addr} {od : Obj} {u : HO} (h : Emp (upd H a (.frz od u)) b) : Emp H b := emp_upd (w := .frz od u) (fun ps z => by cases z) h
theorem emp_lst {H : Hp} {a b : Addr} {xs : List V} (h : Emp (upd H a (.lst xs)) b) : Emp H b := emp_upd (w := .lst xs) (fun ps z => by cases z) h
/-- what a step changes: own objects alone -/
structure Stp (σ : L2.St) (ρ ρ' : Ev) (H H' : Hp) : Prop where
  keep : ∀ b o, H b = some o → (∀ i, ¬ Own σ ρ i b) → NoTbl o → H' b = some o
  own : ∀ i a, Own σ ρ' i a → Own σ ρ i a
  dm : ∀ b, Emp H' b → Emp H b
theorem Stp.refl (σ : L2.St) (ρ : Ev) (H : Hp) : Stp σ ρ ρ H H := ⟨fun _ _ h _ _ => h, fun _ _ h => h, fun _ h => h⟩
theorem Stp.trans {σ : L2.St} {ρ ρ1 ρ2 : Ev} {H H1 H2 : Hp} (a : Stp σ ρ ρ1 H H1) (b : Stp σ ρ1 ρ2 H1 H2) : Stp σ ρ ρ2 H H2 :=
  ⟨fun c o h n t => b.keep c o (a.keep c o h n t) (fun i q => n i (a.own i c q)) t, fun i c q => a.own i c (b.own i c q), fun c n => a.dm c (b.dm c n)⟩
section
variable {T : List (Addr × Str)} {S : List Addr} {H0 H H' : Hp} {σ : L2.St} {ρ ρ' : Ev}
theorem RS.own (R : RS T S H0 H σ ρ) {i : Nat} {a : Addr} (h : Own σ ρ i a) : ∃ ho t o, H a = some ho ∧ Mu ho ∧ ρ[i]? = some (.own t o) ∧ ObR H ho o ∧ (t = none → a ∉ S) ∧ ∀ k, t = some k → S[k]? = some a := by
  obtain ⟨h1, t, o, h2⟩ := h
  have q := R.slot i _ h2
  rw [h1] at q
  obtain ⟨b, ho, e1, e2, mu, r, z⟩ := q
  cases e1
  exact ⟨ho, t, o, e2, mu, h2, r, z⟩
theorem RS.nofrz (R : RS T S H0 H σ ρ) {b : Addr} {ob : Obj} {u : HO} (h : H b = some (.frz ob u)) : ∀ i, ¬ Own σ ρ i b := fun i q => by
  obtain ⟨ho, t, o, e, mu, _⟩ := R.own q
  rw [h] at e
  cases e
  exact mu.nofrz
theorem Stp.fz (s : Stp σ ρ ρ' H H') (R : RS T S H0 H σ ρ) : FzS H H' := fun b ob u h => s.keep b _ h (R.nofrz h) (fun _ z => nomatch z)
/-- what an expression gives -/
def VOk (S : List Addr) (H0 H : Hp) (σ : L2.St) (ρ : Ev) (v : V) : SV → Prop
  | .un => True
  | .d x => Rp H v x
  | .own t o => t = none ∧ ∃ a ho, v = .ref a ∧ H a = some ho ∧ Mu ho ∧ ObR H ho o ∧ (∀ i, ¬ Own σ ρ i a) ∧ H0 a = none ∧ a ∉ S
  | .fz o => ∃ a ob ho, v = .ref a ∧ H a = some (.frz ob ho) ∧ ObR H ho o
  | .raw u => v = u
theorem Mu.notb {ho : HO} (m : Mu ho) : NoTbl ho := fun ps e => by
  subst e
  exact m.notbl
theorem VOk.step {v : V} {r : SV} (h : VOk S H0 H σ ρ v r) (R : RS T S H0 H σ ρ) (s : Stp σ ρ ρ' H H') : VOk S H0 H' σ ρ' v r := by
  cases r with
  | un => trivial
  | d x => exact Rp.k h (s.fz R)
  | own t o =>
    obtain ⟨e, a, ho, e1, e2, mu, ob, n, n2, n3⟩ := h
    exact ⟨e, a, ho, e1, s.keep a ho e2 n mu.notb, mu, ob.k (s.fz R), fun i q => n i (s.own i a q), n2, n3⟩
  | fz o =>
    obtain ⟨a, ob, ho, e1, e2, q⟩ := h
    exact ⟨a, ob, ho, e1, s.fz R _ _ _ e2, q.k (s.fz R)⟩
  | raw u => exact h
/-- nothing but new objects -/
def Grw (H H' : Hp) : Prop := ∀ b o, H b = some o → H' b = some o
theorem Grw.refl (H : Hp) : Grw H H := fun _ _ h => h
theorem Grw.trans {H H1 H2 : Hp} (a : Grw H H1) (b : Grw H1 H2) : Grw H H2 := fun c o h => b c o (a c o h)
theorem Grw.new {H : Hp} {p : Addr} {o : HO} (h : H p = none) : Grw H (upd H p o) := fun b u e => by
  rw [upd_ne (ne_of_none e h)]
  exact e
theorem Grw.none (g : Grw H H') {b : Addr} (h : H' b = none) : H b = none := by
  cases e : H b with
  | none => rfl
  | some o =>
    rw [g b o e] at h
    cases h
theorem Grw.emp (g : Grw H H') {b : Addr} (h : Emp H' b) : Emp H b := by
  cases e : H b with
  | none => exact .inl e
  | some o =>
    have e2 := g b o e
    rcases h with h | ⟨ps, h⟩ <;> rw [e2] at h <;> cases h
    exact .inr ⟨ps, e⟩
theorem Grw.fz (g : Grw H H') : FzS H H' := fun b ob u h => g b _ h
theorem Grw.stp (g : Grw H H') : Stp σ ρ ρ H H' := ⟨fun b o h _ _ => g b o h, fun _ _ h => h, fun _ n => g.emp n⟩
theorem SlotOk.grw {x : Option V} {y : SV} (h : SlotOk S H x y) (g : Grw H H') : SlotOk S H' x y := by
  cases y with
  | un => cases x <;> trivial
  | d z => cases x with
    | none => exact h
    | some v => exact Rp.k h g.fz
  | own t o => cases x with
    | none => exact h
    | some v =>
      obtain ⟨a, ho, e1, e2, mu, ob, n⟩ := h
      exact ⟨a, ho, e1, g _ _ e2, mu, ob.k g.fz, n⟩
  | fz o => cases x with
    | none => exact h
    | some v =>
      obtain ⟨a, ob, ho, e1, e2, q⟩ := h
      exact ⟨a, ob, ho, e1, g _ _ e2, q.k g.fz⟩
  | raw u => cases x <;> exact h
theorem RS.grw (R : RS T S H0 H σ ρ) (g : Grw H H') : RS T S H0 H' σ ρ :=
  ⟨R.len, fun i x h => (R.slot i x h).grw g, R.sep, R.new, fun b o h n => g b o (R.fr b o h n), R.tab.ext g, R.nt, fun b n => R.dm b (g.none n)⟩
/-- a new address is no slot's own, and new to the entry -/
theorem RS.fresh (R : RS T S H0 H σ ρ) {p : Addr} (h : H p = none) : ∀ i, ¬ Own σ ρ i p := fun i q => by
  obtain ⟨ho, t, o, e, _⟩ := R.own q
  rw [h] at e
  cases e
end
/-- the errors: the class's name, the limit that it bears -/
structure Er where
  cls : Str
  lim : Option Int
inductive R (α : Type) where
  | ok (a : α) (ρ : Ev)
  | er (e : Er)
  | no
def R.bind {α β : Type} (x : R α) (f : α → Ev → R β) : R β := match x with
  | .ok a ρ => f a ρ
  | .er e => .er e
  | .no => .no
/-- the class at C, its own dict at d -/
def ErIs (mg : Str → Option Value) (e : Er) (C : Addr) (d : Option Addr) (H : Hp) : Prop := mg e.cls = some (.ref C) ∧ match e.lim with
  | none => d = none
  | some l => ∃ a, d = some a ∧ H a = some (.xd [("limit", .int l)])
def Frm (S : List Addr) (H0 H : Hp) : Prop := ∀ b o, H0 b = some o → b ∉ S → H b = some o
/-- an own object is new, or was a slot's -/
def NewV (H : Hp) (σ : L2.St) (ρ : Ev) (v : V) : SV → Prop
  | .own _ _ => ∀ a, v = .ref a → Emp H a ∨ ∃ i, Own σ ρ i a
  | _ => True
/-- what is wanted behind a piece, by its pure reading: ok at its end, W where it raises -/
def PstG (mg : Str → Option Value) (T : List (Addr × Str)) (W : XK) (S : List Addr) (H0 : Hp) {γ : Type} (ok : γ → Ev → Prop) : R γ → Prop
  | .ok x ρ' => ok x ρ'
  | .er e => ∀ C d H', Frm S H0 H' → LamX.Tabs T H' → ErIs mg e C d H' → W (.ref C) d H'
  | .no => False
abbrev Pst (mg : Str → Option Value) (T : List (Addr × Str)) (W : XK) (S : List Addr) (H0 H : Hp) (σ : L2.St) (ρ : Ev) (Q : VK) : R SV → Prop :=
  PstG mg T W S H0 fun r ρ' => ∀ v H', RS T S H0 H' σ ρ' → Stp σ ρ ρ' H H' → VOk S H0 H' σ ρ' v r → NewV H σ ρ v r → Q v H'
def tP (mg : Str → Option Value) (T : List (Addr × Str)) (W : XK) (f : Ev → R SV) : TE := fun σ H Q => ∃ S H0 ρ, RS T S H0 H σ ρ ∧ Pst mg T W S H0 H σ ρ Q (f ρ)
/-- .. as a datum -/
abbrev PstD (mg : Str → Option Value) (T : List (Addr × Str)) (W : XK) (S : List Addr) (H0 H : Hp) (σ : L2.St) (ρ : Ev) (Q : VK) : R D → Prop :=
  PstG mg T W S H0 fun r ρ' => ∀ v H', RS T S H0 H' σ ρ' → Stp σ ρ ρ' H H' → Rp H' v r → Q v H'
/-- a test -/
abbrev PstT (mg : Str → Option Value) (T : List (Addr × Str)) (W : XK) (S : List Addr) (H0 H : Hp) (σ : L2.St) (ρ : Ev) (Q : Bool → Hp → Prop) : R Bool → Prop :=
  PstG mg T W S H0 fun b ρ' => ∀ H', RS T S H0 H' σ ρ' → Stp σ ρ ρ' H H' → Q b H'
def tT (mg : Str → Option Value) (T : List (Addr × Str)) (W : XK) (f : Ev → R Bool) : TT := fun σ H Q => ∃ S H0 ρ, RS T S H0 H σ ρ ∧ PstT mg T W S H0 H σ ρ Q (f ρ)
abbrev PTt (X : Cx) (T : List (Addr × Str)) (W : XK) (e : Expr) (f : Ev → R Bool) : Prop := PT X e (tT X.mg T W f)
def tD (mg : Str → Option Value) (T : List (Addr × Str)) (W : XK) (f : Ev → R D) : TE := fun σ H Q => ∃ S H0 ρ, RS T S H0 H σ ρ ∧ PstD mg T W S H0 H σ ρ Q (f ρ)
abbrev PP (X : Cx) (T : List (Addr × Str)) (W : XK) (e : Expr) (f : Ev → R SV) : Prop := PE X e (tP X.mg T W f)
abbrev PD (X : Cx) (T : List (Addr × Str)) (W : XK) (e : Expr) (f : Ev → R D) : Prop := PE X e (tD X.mg T W f)
theorem weakE {X : Cx} {e : Expr} {t t' : TE} (h : PE X e t) (w : ∀ σ H Q, t' σ H Q → t σ H Q) : PE X e t' := ⟨fun pins s σ H Q I q => h.run pins s σ H Q I (w _ _ _ q)⟩
/-- a value's object locked behind it -/
theorem pe_frz {X : Cx} {e : Expr} {t : TE} (h : PE X e t) : PE X e (fun σ H Q => t σ H fun v H' => Q v H' ∨ ∃ a u, v = .ref a ∧ H' a = some u ∧ Mut (some u) ∧ ∀ od, Q v (upd H' a (.frz od u))) := by
  constructor
  intro pins s σ H Q I hq
  refine thn (h.run pins s σ H _ I hq) ?_
  rintro v s1 ⟨x, H1, I1, r1, q | ⟨a, u, e1, e2, mu, q⟩⟩
  · exact ⟨x, H1, I1, r1, q⟩
  · obtain ⟨od, I2⟩ := I1.lock e2 mu
    exact ⟨x, _, I2, r1, q od⟩
def OB.toD : OB → Option D
  | .lst xs => some (.list xs)
  | .dic _ => none
/-- as a datum -/
def SV.toD : SV → Option D
  | .d x => some x
  | .own none (.lst xs) => some (.list xs)
  | _ => none
def asD (x : R SV) : R D := match x with
  | .ok r ρ => match r.toD with
    | some d => .ok d ρ
    | none => .no
  | .er e => .er e
  | .no => .no
section
variable {T : List (Addr × Str)} {S : List Addr} {H0 H H' : Hp} {σ : L2.St} {ρ ρ' : Ev} {X : Cx} {W : XK} {e : Expr}
/-- an object that is no slot's own is locked -/
theorem RS.lock (R : RS T S H0 H σ ρ) {a : Addr} {u : HO} {od : Obj} (h : H a = some u) (mu : Mu u) (n : ∀ i, ¬ Own σ ρ i a) (n2 : H0 a = none) (hne : ∀ c q, u ≠ LamX.CodeO c q) : RS T S H0 (upd H a (.frz od u)) σ ρ := by
  have k : FzS H (upd H a (.frz od u)) := fun b ob w e => by
    rw [upd_ne (fun z => by rw [z, h] at e; cases e; exact mu.nofrz)]
    exact e
  refine ⟨R.len, fun i x hx => ?_, R.sep, R.new, fun b o e1 e2 => ?_, ?_, R.nt, fun b e => R.dm b (by
    by_cases z : b = a
    · subst z; rw [upd_same] at e; cases e
    · rw [upd_ne z] at e; exact e)⟩
  · have q := R.slot i x hx
    cases hs : σ[i]?.getD none with
    | none =>
      rw [hs] at q
      cases x with
      | un => trivial
      | _ => exact q
    | some v =>
      rw [hs] at q
      cases x with
      | un => trivial
      | d z => exact Rp.k q k
      | own t o =>
        obtain ⟨b, ho, e1, e2, mu', ob, m⟩ := q
        have hb : b ≠ a
            := fun z => by
          subst z
          subst e1
          refine n i ⟨?_, t, o, hx⟩
          cases hs2 : σ[i]? with
          | none => rw [hs2] at hs; cases hs
          | some w => rw [hs2] at hs; exact congrArg some hs
        exact ⟨b, ho, e1, by rw [upd_ne hb]; exact e2, mu', ob.k k, m⟩
      | fz o =>
        obtain ⟨b, ob, ho, e1, e2, r⟩ := q
        exact ⟨b, ob, ho, e1, k _ _ _ e2, r.k k⟩
      | raw w => exact q
  · rw [upd_ne (fun z => by rw [z, n2] at e1; cases e1)]
    exact R.fr b o e1 e2
  · intro p hp
    obtain ⟨ps, h1, h2, h3⟩ := R.tab p hp
    have hpa : p.1 ≠ a := fun z => by
      rw [z, h] at h1
      cases h1
      exact mu.notbl
    refine ⟨ps, by rw [upd_ne hpa]; exact h1, h2, fun pos cv hc => ?_⟩
    obtain ⟨c, e1, e2⟩
        := h3 pos cv hc
    refine ⟨c, e1, ?_⟩
    rw [upd_ne (fun z => by
      rw [z, h] at e2
      exact hne _ _ (Option.some.inj e2))]
    exact e2
theorem ObR.nocode {ho : HO} {o : OB} (r : ObR H ho o) : ∀ c q, ho ≠ LamX.CodeO c q := fun c q z => by
  cases r
  unfold LamX.CodeO at z
  cases z
theorem stp_lock {a : Addr} {u : HO} {od : Obj} (s : Stp σ ρ ρ' H H') (n0 : Emp H a ∨ ∃ i, Own σ ρ i a) : Stp σ ρ ρ' H (upd H' a (.frz od u)) := ⟨fun b o h n t => by
  rw [upd_ne (fun z => by
    subst z
    rcases n0 with (z | ⟨ps, z⟩) | ⟨i, z⟩
    · rw [z] at h; cases h
    · rw [z] at h; cases h; exact t ps rfl
    · exact n i z)]
  exact s.keep b o h n t, s.own, fun b e => s.dm b (emp_frz e)⟩
end
end Pu
/-! Pu2 -/
set_option maxRecDepth 100000
namespace Pu
open PySem PySem.Spec
    PyProof.Rows L2
section
variable {T : List (Addr × Str)} {S : List Addr} {H0 H H' : Hp} {σ : L2.St} {ρ ρ' : Ev} {X : Cx} {W : XK} {e a b : Expr} {pos : Pos}
theorem pd_of {f : Ev → R SV} (h : PP X T W e f) : PD X T W e (fun ρ => asD (f ρ)) := by
  refine weakE (pe_frz h) ?_
  rintro σ H Q ⟨S, H0, ρ, R, q⟩
  refine ⟨S, H0, ρ, R, ?_⟩
  dsimp only at q
  cases e : f ρ with
  | no => rw [e] at q; exact q.elim
  | er x => rw [e] at q; exact q
  | ok r ρ' =>
    rw [e] at q
    intro v H' R' st vo nw
    cases r with
    | d x => exact .inl (q v H' R' st vo)
    | own t o =>
      obtain ⟨rfl, a, ho, rfl, e2, mu, ob, n, n2, n3⟩ := vo
      cases ob with
      | @lst vs xs r =>
        refine .inr ⟨a, _, rfl, e2, mu, fun od => ?_⟩
        have hne := ObR.nocode (.lst r)
        have R2 := R'.lock (od := od) e2 mu n n2 hne
        refine q (.ref a) _ R2 (stp_lock st (nw a rfl)) (.lst upd_same (r.k ?_))
        intro b ob w e
        rw [upd_ne (fun z => by rw [z, e2] at e; cases e)]
        exact e
    | _ => exact (show False from q).elim
theorem pp_of {f : Ev → R D} (h : PD X T W e f) : PP X T W e (fun ρ => (f ρ).bind fun x ρ => .ok (.d x) ρ) := by
  refine weakE h ?_
  rintro σ H Q ⟨S, H0, ρ, R, q⟩
  refine ⟨S, H0, ρ, R, ?_⟩
  dsimp only at q
  cases e : f ρ with
  | no => rw [e] at q; exact q.elim
  | er x => rw [e] at q; exact q
  | ok r ρ' =>
    rw [e] at q
    intro v H' R' st vo
    exact q v H' R' st vo trivial
/-! one after another -/
section
variable {γ α : Type} {ok : γ → Ev → Prop} {mg : Str → Option Value}
theorem PstG.bind {x : R α} {g : α → Ev → R γ} (q : PstG mg T W S H0 ok (x.bind g)) : PstG mg T W S H0 (fun y ρ1 => PstG mg T W S H0 ok (g y ρ1)) x := by
  cases x with
  | ok y ρ1 => exact q
  | er e => exact q
  | no => exact q
theorem PstG.mono {ok' : γ → Ev → Prop} {x : R γ} (q : PstG mg T W S H0 ok x) (h : ∀ y ρ1, ok y ρ1 → ok' y ρ1) : PstG mg T W S H0 ok' x := by
  cases x with
  | ok y ρ1 => exact h _ _ q
  | er e => exact q
  | no => exact q
theorem bindD {f : Ev → R D} {g : D → Ev → R γ} {K : VK} (R : RS T S H0 H σ ρ) (q : PstG mg T W S H0 ok ((f ρ).bind g))
    (k : ∀ y ρ1 v H1, RS T S H0 H1 σ ρ1 → Stp σ ρ ρ1 H H1 → Rp H1 v y → PstG mg T W S H0 ok (g y ρ1) → K v H1) : tD mg T W f σ H K :=
  ⟨S, H0, ρ, R, q.bind.mono fun y ρ1 z v H1 R1 s1 r1 => k y ρ1 v H1 R1 s1 r1 z⟩
theorem bindP {f : Ev → R SV} {g : SV → Ev → R γ} {K : VK} (R : RS T S H0 H σ ρ) (q : PstG mg T W S H0 ok ((f ρ).bind g))
    (k : ∀ y ρ1 v H1, RS T S H0 H1 σ ρ1 → Stp σ ρ ρ1 H H1 → VOk S H0 H1 σ ρ1 v y → NewV H σ ρ v y → PstG mg T W S H0 ok (g y ρ1) → K v H1) : tP mg T W f σ H K :=
  ⟨S, H0, ρ, R, q.bind.mono fun y ρ1 z v H1 R1 s1 r1 n1 => k y ρ1 v H1 R1 s1 r1 n1 z⟩
theorem bindT {f : Ev → R Bool} {g : Bool → Ev → R γ} {K : Bool → Hp → Prop} (R : RS T S H0 H σ ρ) (q : PstG mg T W S H0 ok ((f ρ).bind g))
    (k : ∀ y ρ1 H1, RS T S H0 H1 σ ρ1 → Stp σ ρ ρ1 H H1 → PstG mg T W S H0 ok (g y ρ1) → K y H1) : tT mg T W f σ H K :=
  ⟨S, H0, ρ, R, q.bind.mono fun y ρ1 z H1 R1 s1 => k y ρ1 H1 R1 s1 z⟩
end
/-! constants, names -/
def fC (x : D) : Ev → R D := fun ρ => .ok x ρ
theorem pd_int {i j} : PD X T W (.Constant (.int i) j pos) (fC (.int i)) := weakE pe_int fun σ H Q ⟨_, _, _, R, q⟩ => q _ _ R (Stp.refl _ _ _) (.int i)
theorem pd_bl {b j} : PD X T W (.Constant (.bool b) j pos) (fC (.bool b)) := weakE pe_bl fun σ H Q ⟨_, _, _, R, q⟩ => q _ _ R (Stp.refl _ _ _) (.bl b)
theorem pd_non {j} : PD X T W (.Constant .none j pos) (fC .none) := weakE pe_non fun σ H Q ⟨_, _, _, R, q⟩ => q _ _ R (Stp.refl _ _ _) .non
theorem pd_str {x j} : PD X T W (.Constant (.str x) j pos) (fC (.str x)) := weakE pe_str fun σ H Q ⟨_, _, _, R, q⟩ => q _ _ R (Stp.refl _ _ _) (.str x)
/-- a module's constant -/
theorem pd_glob {x : Str} {i : Int} {t : Tok} (hg : Gl X x) (hm : X.mg x = some (.int i t)) (hd : (x == ("__debug__" : Str)) = false := by decide) : PD X T W (.Name x pos) (fC (.int i)) := weakE (pe_glob (v := .int i) hg hm ⟨_, rfl⟩ hd) fun σ H Q ⟨_, _, _, R, q⟩ => q _ _ R (Stp.refl _ _ _) (.int i)
/-- a def, a class as a value -/
def fRaw (v : V) : Ev → R SV := fun ρ => .ok (.raw v) ρ
theorem pp_globF {x : Str} {f : Addr} (hg : Gl X x) (hm : X.mg x = some (.ref f)) (hd : (x == ("__debug__" : Str)) = false := by decide) : PP X T W (.Name x pos) (fRaw (.ref f)) := weakE (pe_glob (v := .ref f) hg hm rfl hd) fun σ H Q ⟨_, _, _, R, q⟩ => q _ _ R (Stp.refl _ _ _) rfl trivial
/-- what a slot gives: an own object is locked -/
def OB.lockd : OB → SV
  | .lst xs => .d (.list xs)
  | .dic kvs => .fz (.dic kvs)
def fVar (i : Nat) : Ev → R SV := fun ρ => match ρ[i]? with
  | some (.d x) => .ok (.d x) ρ
  | some (.fz o) => .ok (.fz o) ρ
  | some (.raw v) => .ok (.raw v) ρ
  | some (.own none o) => .ok o.lockd (ρ.set i o.lockd)
  | _ => .no
theorem slot_some (R : RS T S H0 H σ ρ) {i : Nat} {x : SV} (h : ρ[i]? = some x) (n : x ≠ .un) : ∃ v, σ[i]? = some (some v) ∧ SlotOk S H (some v) x := by
  have q := R.slot i x h
  cases hs : σ[i]? with
  | none =>
    rw [hs] at q
    cases x with
    | un => exact (n rfl).elim
    | _ => exact q.elim
  | some o =>
    rw [hs] at q
    cases o with
    | none =>
      cases x with
      | un => exact (n rfl).elim
      | _ => exact q.elim
    | some v => exact ⟨v, rfl, q⟩
theorem un_ny : ∀ t o, SV.un ≠ .own t o := fun _ _ z => nomatch z
theorem own_set {i j : Nat} {a : Addr} {y : SV} (ny : ∀ t o, y ≠ .own t o) (h : Own σ (ρ.set i y) j a) : Own σ ρ j a ∧ j ≠ i := by
  obtain ⟨h1, t, o, h2⟩ := h
  by_cases e : j = i
  · subst e
    by_cases hj : j < ρ.length
    · rw [List.getElem?_set_self hj] at h2
      exact (ny _ _ (Option.some.inj h2)).elim
    · rw [List.getElem?_eq_none (by rw [List.length_set]; omega)] at h2
      cases h2
  · rw [List.getElem?_set_ne (Ne.symm e)] at h2
    exact ⟨⟨h1, t, o, h2⟩, e⟩
/-- a slot's own object is locked -/
theorem RS.lockSlot (R : RS T S H0 H σ ρ) {i : Nat} {o : OB} {a : Addr} {ho : HO} {od : Obj} (hi : ρ[i]? = some (.own none o)) (hs : σ[i]? = some (some (.ref a))) (ha : H a = some ho) (mu : Mu ho) (ob : ObR H ho o) (hS : a ∉ S) : RS T S H0 (upd H a (.frz od ho)) σ (ρ.set i o.lockd) ∧ VOk S H0 (upd H a (.frz od ho)) σ (ρ.set i o.lockd) (.ref a) o.lockd ∧ Stp σ ρ (ρ.set i o.lockd) H (upd H a (.frz od ho)) := by
  have ny : ∀ t w, o.lockd ≠ .own t w := fun t w z => by cases o <;> cases z
  have own : Own σ ρ i a := ⟨hs, none, o, hi⟩
  have n0 : H0 a = none := (R.new i a own).resolve_left hS
  have k : FzS H (upd H a (.frz od ho)) := fun b ob w e => by
    rw [upd_ne (fun z => by rw [z, ha] at e; cases e; exact mu.nofrz)]
    exact e
  have lo : ∀ x, SlotOk S (upd H a (.frz od ho)) (some (.ref a)) o.lockd ∧ VOk S H0 (upd H a (.frz od ho)) σ x (.ref a) o.lockd := fun x => by
    cases ob with
    | lst r => exact ⟨.lst upd_same (r.k k), .lst upd_same (r.k k)⟩
  have hlen : i < ρ.length := (List.getElem?_eq_some_iff.mp hi).1
  refine ⟨?_, (lo _).2, ?_⟩
  · -- first forget the slot
    have R1 : RS T S H0 H σ (ρ.set i .un) := by
      refine ⟨by rw [List.length_set]; exact R.len, fun j x hx => ?_, fun j j' b h1 h2 => R.sep j j' b (own_set un_ny h1).1 (own_set un_ny h2).1, fun j b h => R.new j b (own_set un_ny h).1, R.fr, R.tab, R.nt, R.dm⟩
      by_cases e : j = i
      · subst e
        rw [List.getElem?_set_self hlen] at hx
        cases hx
        cases σ[j]?.getD none <;> trivial
      · rw [List.getElem?_set_ne (Ne.symm e)] at hx
        exact R.slot j x hx
    have n1 : ∀ j, ¬ Own σ (ρ.set i .un) j a := fun j h => by
      obtain ⟨h1, h2⟩ := own_set un_ny h
      exact h2 (R.sep j i a h1 own)
    have R2 := R1.lock (od := od) ha mu n1 n0 ob.nocode
    refine ⟨by rw [List.length_set]; exact R.len, fun j x hx => ?_, fun j j' b h1 h2 => R.sep j j' b (own_set ny h1).1 (own_set ny h2).1, fun j b h => R.new j b (own_set ny h).1, R2.fr, R2.tab, R2.nt, R2.dm⟩
    by_cases e : j = i
    · subst e
      rw [List.getElem?_set_self hlen] at hx
      cases hx
      rw [hs]
      exact (lo ρ).1
    · rw [List.getElem?_set_ne (Ne.symm e)] at hx
      exact R2.slot j x (by rw [List.getElem?_set_ne (Ne.symm e)]; exact hx)
  · refine ⟨fun b w h n t => ?_, fun j b h => (own_set ny h).1, fun b e => emp_frz e⟩
    rw [upd_ne (fun z => by subst z; exact n i own)]
    exact h
theorem lockd_newV {o : OB} {v : V} : NewV H σ ρ v o.lockd := by cases o <;> trivial
theorem pp_var {i : Nat} {x : Str} (hN : X.N[i]? = some x) (hv : Vis X.env.scope x) (hd : (x == ("__debug__" : Str)) = false := by decide) (hcd : (x == ("__classdict__" : Str)) = false := by decide) : PP X T W (.Name x pos) (fVar i) := by
  refine weakE (pe_frz (pe_var hN hv hd hcd)) ?_
  rintro σ H Q ⟨S, H0, ρ, R, q⟩
  unfold fVar at q
  cases hi : ρ[i]? with
  | none => rw [hi] at q; exact q.elim
  | some y =>
    rw [hi] at q
    cases y with
    | un => exact q.elim
    | d z =>
      obtain ⟨v, e, so⟩ := slot_some R hi (fun z => nomatch z)
      exact ⟨v, e, .inl (q v H R (Stp.refl _ _ _) so trivial)⟩
    | fz o =>
      obtain ⟨v, e, so⟩ := slot_some R hi (fun z => nomatch z)
      exact ⟨v, e, .inl (q v H R (Stp.refl _ _ _) so trivial)⟩
    | raw u =>
      obtain ⟨v, e, so⟩ := slot_some R hi (fun z => nomatch z)
      exact ⟨v, e, .inl (q v H R (Stp.refl _ _ _) so trivial)⟩
    | own t o =>
      cases t with
      | some k => exact q.elim
      | none =>
        obtain ⟨v, e, a, ho, rfl, ha, mu, ob, hS, hk⟩ := slot_some R hi (fun z => nomatch z)
        refine ⟨_, e, .inr ⟨a, ho, rfl, ha, mu, fun od => ?_⟩⟩
        obtain ⟨R2, v2, st⟩ := R.lockSlot (od := od) hi e ha mu ob (hS rfl)
        exact q _ _ R2 st v2 lockd_newV
end
end Pu
/-! Pu3 -/
set_option maxRecDepth 100000
namespace Pu
open PySem PySem.Spec
    PyProof.Rows L2
section
variable {T : List (Addr × Str)} {S : List Addr} {H0 H H' : Hp} {σ : L2.St} {ρ ρ' : Ev} {X : Cx} {W : XK} {e a b c : Expr} {pos : Pos}
mutual
theorem Rp.plain {H : Hp} : ∀ (d : D) (v : V), Rp H v d → d.plain = true
  | .none, _, _ => rfl
  | .bool _, _, _ => rfl
  | .int _, _, _ => rfl
  | .str _, _, _ => rfl
  | .tuple ds, _, h => by
    cases h with
    | tup e n r => show PyData.plainAll ds = true; exact RpL.plain ds _ r
  | .list ds, _, h => by
    cases h with
    | lst e r => show PyData.plainAll ds = true; exact RpL.plain ds _ r
  | .dict _, _, h => by cases h
theorem RpL.plain {H : Hp} : ∀ (ds : List D) (vs : List V), RpL H vs ds → PyData.plainAll ds = true
  | [], _, _ => rfl
  | d :: ds, _, h => by
    cases h with
    | cons h1 h2 => rw [PyData.plainAll, Rp.plain d _ h1, RpL.plain ds _ h2]; rfl
end
theorem Rp.reads {pins : List (Addr × Obj)} {s : Shared} {v : V} {u : Value} {d : D} (h : Rp H v d) (I : Inv X pins σ H s) (r : RelV v u) : ∃ as, Reads s.heap u d as := Dp.reads I d v u (Rp.dp d v h) r
/-- a result: a datum, or a new list -/
def GOk (H H' : Hp) (v : V) : SV → Prop
  | .d x => Rp H' v x
  | .own t (.lst xs) => t = none ∧ ∃ a vs, v = .ref a ∧ H a = none ∧ H' a = some (.lst vs) ∧ RpL H' vs xs
  | _ => False
theorem GOk.ok {v : V} {z : SV} (g : GOk H H' v z) (R : RS T S H0 H σ ρ) : VOk S H0 H' σ ρ v z ∧ NewV H σ ρ v z := by
  cases z with
  | d x => exact ⟨g, trivial⟩
  | own t o =>
    cases o with
    | lst xs =>
      obtain ⟨rfl, a, vs, rfl, e1, e2, r⟩ := g
      obtain ⟨d1, d2⟩ := R.dm a e1
      exact ⟨⟨rfl, a, _, rfl, e2, trivial, .lst r, R.fresh e1, d1, d2⟩, fun b z => by cases z; exact .inl (.inl e1)⟩
    | dic kvs => exact g.elim
  | _ => exact g.elim
def opt {α : Type} (x : Option α) (ρ : Ev) : R α := match x with
  | some z => .ok z ρ
  | none => .no
theorem opt_some {α : Type} {mg : Str → Option Value} {ok : α → Ev → Prop} {x : Option α} (q : PstG mg T W S H0 ok (opt x ρ)) : ∃ z, x = some z ∧ ok z ρ := by
  cases x with
  | none => exact q.elim
  | some z => exact ⟨z, rfl, q⟩
/-- a result behind some steps -/
theorem GOk.fin {v : V} {z : SV} {ρ0 : Ev} {Hs : Hp} {Q : VK} (g : GOk H H' v z) (gr : Grw H H') (R : RS T S H0 H σ ρ) (s : Stp σ ρ0 ρ Hs H)
    (q : ∀ v H', RS T S H0 H' σ ρ → Stp σ ρ0 ρ Hs H' → VOk S H0 H' σ ρ v z → NewV Hs σ ρ0 v z → Q v H') : Q v H' := by
  obtain ⟨vo, nw⟩ := g.ok R
  refine q v H' (R.grw gr) (s.trans gr.stp) vo ?_
  cases z with
  | own t o =>
    cases o with
    | lst xs =>
      obtain ⟨_, a, vs, rfl, n1, _⟩ := g
      intro b eb
      cases eb
      exact .inl (s.dm _ (.inl n1))
    | dic kvs => exact g.elim
  | _ => trivial
def fBin (g : D → D → Option SV) (fa fb : Ev → R D) : Ev → R SV := fun ρ => (fa ρ).bind fun x ρ1 => (fb ρ1).bind fun y ρ2 => opt (g x y) ρ2
/-- an operation on data -/
def GOp (r : R2) (g : D → D → Option SV) : Prop := ∀ (H : Hp) (x y : V) (d e : D) (z : SV) (Q : VK), Rp H x d → Rp H y e → g d e = some z → (∀ v H', Grw H H' → GOk H H' v z → Q v H') → r x y H Q
theorem tOp_of {mg : Str → Option Value} {r : R2} {g : D → D → Option SV} {fa fb : Ev → R D} {Q : VK} (hr : GOp r g) (h : tP mg T W (fBin g fa fb) σ H Q) : tOp r (tD mg T W fa) (tD mg T W fb) σ H Q := by
  obtain ⟨S, H0, ρ, R, q⟩ := h
  refine bindD R q fun x ρ1 v H1 R1 s1 r1 q => bindD R1 q fun y ρ2 w H2 R2 s2 r2 q => ?_
  obtain ⟨z, hz, q⟩ := opt_some q
  exact hr H2 v w x y z Q (r1.k (s2.fz R1)) r2 hz fun u H3 gr go => go.fin gr R2 (s1.trans s2) q
theorem pp_bin {op : Operator} {r : R2} {g : D → D → Option SV} {fa fb : Ev → R D} (ho : OpR X (binaryOp op) r) (hr : GOp r g) (ha : PD X T W a fa) (hb : PD X T W b fb) : PP X T W (.BinOp a op b pos) (fBin g fa fb) :=
  weakE (pe_op ho ha hb) fun _ _ _ h => tOp_of hr h
theorem pp_cmp {op : CmpOp} {r : R2} {g : D → D → Option SV} {fa fb : Ev → R D} (ho : OpR X (compareOp op) r) (hr : GOp r g) (ha : PD X T W a fa) (hb : PD X T W b fb) (hm : behindInMarks op b = false := by first | exact nomark _ | rfl) : PP X T W (.Compare a [op] [b] pos) (fBin g fa fb) :=
  weakE (pe_cmpR ho ha hb hm) fun _ _ _ h => tOp_of hr h
/-- as a test -/
def SV.toB : SV → Option Bool
  | .d (.bool b) => some b
  | _ => none
def asB (x : R SV) : R Bool := x.bind fun r ρ => opt r.toB ρ
theorem weakT {t t' : TT} (h : PT X e t) (w : ∀ σ H Q, t' σ H Q → t σ H Q) : PT X e t' := ⟨fun pins s σ H Q I q => h.run pins s σ H Q I (w _ _ _ q)⟩
theorem toB_of {v : V} {r : SV} {b : Bool} (h : VOk S H0 H σ ρ v r) (e : r.toB = some b) : v = .bl b := by
  cases r with
  | d x =>
    cases x with
    | bool c =>
      cases e
      cases h
      rfl
    | _ => cases e
  | _ => cases e
theorem ptt_cmp {op : CmpOp} {r : R2} {g : D → D → Option SV} {fa fb : Ev → R D} (ho : OpR X (compareOp op) r) (hr : GOp r g) (ha : PD X T W a fa) (hb : PD X T W b fb) (hm : behindInMarks op b = false := by first | exact nomark _ | rfl) : PTt X T W (.Compare a [op] [b] pos) (fun ρ => asB (fBin g fa fb ρ)) := by
  refine weakT (pt_cmpR ho ha hb hm) ?_
  rintro σ H Q ⟨S, H0, ρ, R, q⟩
  refine tOp_of hr (mg := X.mg) (T := T) (W := W) ?_
  refine bindP R q fun y ρ1 v H1 R1 s1 v1 _ q => ?_
  obtain ⟨z, hz, q⟩ := opt_some q
  exact ⟨z, toB_of v1 hz, q H1 R1 s1⟩
/-- an expression's value, a bool, as a test -/
theorem ptt_val {f : Ev → R SV} (h : PP X T W e f) (he : ∀ whole, isTrue e X.env whole = (do let v ← whole; standAt e.pos; holding [v] (truthy v)) := by intro _; rfl) : PTt X T W e (fun ρ => asB (f ρ)) := by
  refine weakT (pt_val h he) ?_
  rintro σ H Q ⟨S, H0, ρ, R, q⟩
  refine bindP R q fun y ρ1 v H1 R1 s1 v1 _ q => ?_
  obtain ⟨z, hz, q⟩ := opt_some q
  exact ⟨z, toB_of v1 hz, q H1 R1 s1⟩
/-- a value's truth -/
def truD : D → Option Bool
  | .none => some false
  | .bool b => some b
  | .int i => some (i != 0)
  | .list xs => some (!xs.isEmpty)
  | .tuple xs => some (!xs.isEmpty)
  | _ => none
theorem RpL.emp {vs : List V} {xs : List D} (h : RpL H vs xs) : (!vs.isEmpty) = !xs.isEmpty := by cases h <;> rfl
theorem tru_of {v : V} {d : D} {b : Bool} (h : Rp H v d) (e : truD d = some b) : TruV X.K v H b := by
  cases h with
  | non => cases e; rfl
  | bl c => cases e; rfl
  | int i => cases e; rfl
  | str x => cases e
  | tup e1 e2 r => cases e; exact .inr (.inl ⟨_, .inl (.inr ⟨_, e1⟩), r.emp.symm⟩)
  | lst e1 r => cases e; exact .inl ⟨_, .inl (.inr ⟨_, e1⟩), r.emp.symm⟩
def fTru (f : Ev → R D) : Ev → R Bool := fun ρ => (f ρ).bind fun d ρ => opt (truD d) ρ
theorem ptt_tru {f : Ev → R D} (h : PD X T W e f) (he : ∀ whole, isTrue e X.env whole = (do let v ← whole; standAt e.pos; holding [v] (truthy v)) := by intro _; rfl) : PTt X T W e (fTru f) := by
  refine weakT (pt_truth h he) ?_
  rintro σ H Q ⟨S, H0, ρ, R, q⟩
  refine bindD R q fun y ρ1 v H1 R1 s1 r1 q => ?_
  obtain ⟨z, hz, q⟩ := opt_some q
  exact ⟨z, tru_of r1 hz, q H1 R1 s1⟩
/-- .. of a name, whose own object stays its own -/
def truO : OB → Bool
  | .lst xs => !xs.isEmpty
  | .dic kvs => !kvs.isEmpty
def fTruV (i : Nat) : Ev → R Bool := fun ρ => match ρ[i]? with
  | some (.d x) => opt (truD x) ρ
  | some (.own _ (.lst xs)) => .ok (!xs.isEmpty) ρ
  | _ => .no
theorem ptt_truV {i : Nat} {x : Str} (hN : X.N[i]? = some x) (hv : Vis X.env.scope x) (hd : (x == ("__debug__" : Str)) = false := by decide) (hcd : (x == ("__classdict__" : Str)) = false := by decide)
    (he : ∀ whole, isTrue (.Name x pos) X.env whole = (do let v ← whole; standAt (Expr.Name x pos).pos; holding [v] (truthy v)) := by intro _; rfl) : PTt X T W (.Name x pos) (fTruV i) := by
  refine weakT (pt_truth (pe_var hN hv hd hcd) he) ?_
  rintro σ H Q ⟨S, H0, ρ, R, q⟩
  unfold fTruV at q
  cases hi : ρ[i]? with
  | none => rw [hi] at q; exact q.elim
  | some y =>
    rw [hi] at q
    cases y with
    | d z =>
      obtain ⟨v, e, so⟩ := slot_some R hi (fun z => nomatch z)
      obtain ⟨b, hb, q⟩ := opt_some q
      exact ⟨v, e, b, tru_of so hb, q H R (Stp.refl _ _ _)⟩
    | own t o =>
      cases o with
      | lst xs =>
        obtain ⟨v, e, a, ho, rfl, ha, mu, ob, hS, hk⟩ := slot_some R hi (fun z => nomatch z)
        cases ob with
        | lst r => exact ⟨_, e, _, .inl ⟨_, .inl (.inl ha), r.emp.symm⟩, q H R (Stp.refl _ _ _)⟩
      | dic kvs => exact q.elim
    | _ => exact q.elim
/-! and, or, not -/
def fAndT (f g : Ev → R Bool) : Ev → R Bool := fun ρ => (f ρ).bind fun b ρ => if b = true then g ρ else .ok false ρ
def fOrT (f g : Ev → R Bool) : Ev → R Bool := fun ρ => (f ρ).bind fun b ρ => if b = true then .ok true ρ else g ρ
def fNotT (f : Ev → R Bool) : Ev → R Bool := fun ρ => (f ρ).bind fun b ρ => .ok (!b) ρ
abbrev PWt (X : Cx) (T : List (Addr × Str)) (W : XK) (e : Expr) (f : Ev → R Bool) : Prop := PW X e (tT X.mg T W f)
theorem weakW {t t' : TT} (h : PW X e t) (w : ∀ σ H Q, t' σ H Q → t σ H Q) : PW X e t' := ⟨fun wh pins s σ H Q I q => h.run wh pins s σ H Q I (w _ _ _ q)⟩
theorem Stp.t2 {ρ1 ρ2 : Ev} {H1 H2 : Hp} (a : Stp σ ρ ρ1 H H1) {Q : Bool → Hp → Prop} {mg : Str → Option Value} {x : R Bool} (q : PstT mg T W S H0 H σ ρ Q x) : PstT mg T W S H0 H σ ρ Q x := q
theorem PstT.step {ρ1 : Ev} {H1 : Hp} {mg : Str → Option Value} {x : R Bool} {Q : Bool → Hp → Prop} (q : PstT mg T W S H0 H σ ρ Q x) (s : Stp σ ρ ρ1 H H1) : PstT mg T W S H0 H1 σ ρ1 Q x :=
  q.mono fun b ρ2 z H2 R2 s2 => z H2 R2 (s.trans s2)
theorem tAnd_of {mg : Str → Option Value} {f g : Ev → R Bool} {Q : Bool → Hp → Prop} (h : tT mg T W (fAndT f g) σ H Q) : tAnd (tT mg T W f) (tT mg T W g) σ H Q := by
  obtain ⟨S, H0, ρ, R, q⟩ := h
  refine bindT R q fun b ρ1 H1 R1 s1 q => ?_
  cases b with
  | true => exact iteT ⟨S, H0, ρ1, R1, PstT.step q s1⟩
  | false => exact iteF (q H1 R1 s1)
theorem tOr_of {mg : Str → Option Value} {f g : Ev → R Bool} {Q : Bool → Hp → Prop} (h : tT mg T W (fOrT f g) σ H Q) : tOr (tT mg T W f) (tT mg T W g) σ H Q := by
  obtain ⟨S, H0, ρ, R, q⟩ := h
  refine bindT R q fun b ρ1 H1 R1 s1 q => ?_
  cases b with
  | true => exact iteT (q H1 R1 s1)
  | false => exact iteF ⟨S, H0, ρ1, R1, PstT.step q s1⟩
theorem pwt_and1 {f : Ev → R Bool} (ha : PTt X T W a f) : PWt X T W (.BoolOp .And [a] pos) f := pw_and1 ha
theorem pwt_or1 {f : Ev → R Bool} (ha : PTt X T W a f) : PWt X T W (.BoolOp .Or [a] pos) f := pw_or1 ha
theorem pwt_and {f g : Ev → R Bool} {rest : List Expr} (ha : PTt X T W a f) (hb : PWt X T W (.BoolOp .And (b :: rest) pos) g) : PWt X T W (.BoolOp .And (a :: b :: rest) pos) (fAndT f g) := weakW (pw_and ha hb) fun _ _ _ h => tAnd_of h
theorem pwt_or {f g : Ev → R Bool} {rest : List Expr} (ha : PTt X T W a f) (hb : PWt X T W (.BoolOp .Or (b :: rest) pos) g) : PWt X T W (.BoolOp .Or (a :: b :: rest) pos) (fOrT f g) := weakW (pw_or ha hb) fun _ _ _ h => tOr_of h
theorem ptt_not {f : Ev → R Bool} (ha : PTt X T W a f) : PTt X T W (.UnaryOp .Not a pos) (fNotT f) := by
  refine weakT (pt_not ha) ?_
  rintro σ H Q ⟨S, H0, ρ, R, q⟩
  exact bindT R q fun b ρ1 H1 R1 s1 q => q H1 R1 s1
/-! .. as values -/
def fAndV (f g : Ev → R SV) : Ev → R SV := fun ρ => (f ρ).bind fun x ρ => (opt x.toB ρ).bind fun b ρ => if b = true then g ρ else .ok (.d (.bool false)) ρ
def fOrV (f g : Ev → R SV) : Ev → R SV := fun ρ => (f ρ).bind fun x ρ => (opt x.toB ρ).bind fun b ρ => if b = true then .ok (.d (.bool true)) ρ else g ρ
def fNotV (f : Ev → R SV) : Ev → R SV := fun ρ => (f ρ).bind fun x ρ => (opt x.toB ρ).bind fun b ρ => .ok (.d (.bool (!b))) ρ
theorem NewV.step {v : V} {r : SV} {ρ1 : Ev} {H1 : Hp} (h : NewV H1 σ ρ1 v r) (s : Stp σ ρ ρ1 H H1) : NewV H σ ρ v r := by
  cases r with
  | own t o => exact fun a e => (h a e).imp (fun z => s.dm _ z) fun ⟨i, z⟩ => ⟨i, s.own i a z⟩
  | _ => trivial
theorem Pst.step {ρ1 : Ev} {H1 : Hp} {mg : Str → Option Value} {x : R SV} {Q : VK} (q : Pst mg T W S H0 H σ ρ Q x) (s : Stp σ ρ ρ1 H H1) : Pst mg T W S H0 H1 σ ρ1 Q x :=
  q.mono fun r ρ2 z v H2 R2 s2 v2 n2 => z v H2 R2 (s.trans s2) v2 (n2.step s)
theorem pp_one {op} {f : Ev → R SV} (h : PP X T W a f) : PP X T W (.BoolOp op [a] pos) f := pe_one h
theorem pp_and {f g : Ev → R SV} {rest : List Expr} (ha : PP X T W a f) (hb : PP X T W (.BoolOp .And (b :: rest) pos) g) : PP X T W (.BoolOp .And (a :: b :: rest) pos) (fAndV f g) := by
  refine weakE (pe_and ha hb) ?_
  rintro σ H Q ⟨S, H0, ρ, R, q⟩
  refine bindP R q fun x ρ1 v H1 R1 s1 v1 _ q => ?_
  obtain ⟨c, hc, q⟩ := opt_some (PstG.bind q)
  refine ⟨c, toB_of v1 hc, ?_⟩
  cases c with
  | true => exact iteT ⟨S, H0, ρ1, R1, Pst.step q s1⟩
  | false => exact iteF (q (.bl false) H1 R1 s1 (.bl false) trivial)
theorem pp_or {f g : Ev → R SV} {rest : List Expr} (ha : PP X T W a f) (hb : PP X T W (.BoolOp .Or (b :: rest) pos) g) : PP X T W (.BoolOp .Or (a :: b :: rest) pos) (fOrV f g) := by
  refine weakE (pe_or ha hb) ?_
  rintro σ H Q ⟨S, H0, ρ, R, q⟩
  refine bindP R q fun x ρ1 v H1 R1 s1 v1 _ q => ?_
  obtain ⟨c, hc, q⟩ := opt_some (PstG.bind q)
  refine ⟨c, toB_of v1 hc, ?_⟩
  cases c with
  | true => exact iteT (q (.bl true) H1 R1 s1 (.bl true) trivial)
  | false => exact iteF ⟨S, H0, ρ1, R1, Pst.step q s1⟩
theorem pp_not {f : Ev → R SV} (ha : PP X T W a f) : PP X T W (.UnaryOp .Not a pos) (fNotV f) := by
  refine weakE (pe_not ha) ?_
  rintro σ H Q ⟨S, H0, ρ, R, q⟩
  refine bindP R q fun x ρ1 v H1 R1 s1 v1 _ q => ?_
  obtain ⟨c, hc, q⟩ := opt_some (PstG.bind q)
  exact ⟨c, toB_of v1 hc, q _ H1 R1 s1 (.bl _) trivial⟩
/-- a if t else b -/
def fIf (c : Ev → R Bool) (f g : Ev → R SV) : Ev → R SV := fun ρ => (c ρ).bind fun b ρ => if b = true then f ρ else g ρ
theorem pp_if {t : Ev → R Bool} {f g : Ev → R SV} (hc : PTt X T W c t) (ha : PP X T W a f) (hb : PP X T W b g) : PP X T W (.IfExp c a b pos) (fIf t f g) := by
  refine weakE (pe_ifExp hc ha hb) ?_
  rintro σ H Q ⟨S, H0, ρ, R, q⟩
  refine bindT R q fun x ρ1 H1 R1 s1 q => ?_
  cases x with
  | true => exact iteT ⟨S, H0, ρ1, R1, Pst.step q s1⟩
  | false => exact iteF ⟨S, H0, ρ1, R1, Pst.step q s1⟩
/-- a < b < c -/
def fChn (g g' : D → D → Option SV) (fa fb fc : Ev → R D) : Ev → R SV := fun ρ => (fa ρ).bind fun x ρ => (fb ρ).bind fun y ρ => (opt (g x y) ρ).bind fun z ρ => (opt z.toB ρ).bind fun k ρ =>
  if k = true then (fc ρ).bind fun w ρ => opt (g' y w) ρ else .ok (.d (.bool false)) ρ
end
end Pu
/-! Pu4 -/
set_option maxRecDepth 100000
namespace Pu
open PySem PySem.Spec
    PyProof.Rows L2
section
variable {T : List (Addr × Str)} {S : List Addr} {H0 H H' : Hp} {σ : L2.St} {ρ ρ' : Ev} {X : Cx} {W : XK} {e a b c : Expr} {pos : Pos}
theorem toB_gok {v : V} {z : SV} {b : Bool} (g : GOk H H' v z) (e : z.toB = some b) : v = .bl b := by
  cases z with
  | d x =>
    cases x with
    | bool c =>
      cases e
      cases g
      rfl
    | _ => cases e
  | _ => cases e
theorem tChain_of {mg : Str → Option Value} {r r' : R2} {g g' : D → D → Option SV} {fa fb fc : Ev → R D} {Q : VK} (hr : GOp r g) (hr' : GOp r' g') (h : tP mg T W (fChn g g' fa fb fc) σ H Q) : tChain r r' (tD mg T W fa) (tD mg T W fb) (tD mg T W fc) σ H Q := by
  obtain ⟨S, H0, ρ, R, q⟩ := h
  refine bindD R q fun x ρ1 v H1 R1 s1 r1 q => bindD R1 q fun y ρ2 w H2 R2 s2 r2 q => ?_
  obtain ⟨z, hz, q⟩ := opt_some (PstG.bind q)
  obtain ⟨k, hk, q⟩ := opt_some (PstG.bind q)
  refine hr H2 v w x y z _ (r1.k (s2.fz R1)) r2 hz fun u H3 gr go => ⟨k, toB_gok go hk, ?_⟩
  have R3 := R2.grw gr
  have s3 := (s1.trans s2).trans (gr.stp (σ := σ) (ρ := ρ2))
  cases k with
  | false => exact iteF (q _ H3 R3 s3 (.bl false) trivial)
  | true =>
    refine iteT (bindD R3 q fun t ρ4 u4 H4 R4 s4 r4 q => ?_)
    obtain ⟨z4, hz4, q⟩ := opt_some q
    exact hr' H4 w u4 y t z4 Q ((r2.k gr.fz).k (s4.fz R3)) r4 hz4 fun u5 H5 gr5 go5 => go5.fin gr5 R4 (s3.trans s4) q
theorem pp_chain {op op' : CmpOp} {r r' : R2} {g g' : D → D → Option SV} {fa fb fc : Ev → R D} (ho : OpR X (compareOp op) r) (ho' : OpR X (compareOp op') r') (hr : GOp r g) (hr' : GOp r' g') (ha : PD X T W a fa) (hb : PD X T W b fb) (hc : PD X T W c fc)
    (hm : lastMarks [op, op'] [b, c] = false := by with_unfolding_all rfl) : PP X T W (.Compare a [op, op'] [b, c] pos) (fChn g g' fa fb fc) :=
  weakE (pe_chain ho ho' ha hb hc hm) fun _ _ _ h => tChain_of hr hr' h
theorem ptt_chain {op op' : CmpOp} {r r' : R2} {g g' : D → D → Option SV} {fa fb fc : Ev → R D} (ho : OpR X (compareOp op) r) (ho' : OpR X (compareOp op') r') (hr : GOp r g) (hr' : GOp r' g') (ha : PD X T W a fa) (hb : PD X T W b fb) (hc : PD X T W c fc)
    (hm : lastMarks [op, op'] [b, c] = false := by with_unfolding_all rfl) : PTt X T W (.Compare a [op, op'] [b, c] pos) (fun ρ => asB (fChn g g' fa fb fc ρ)) := by
  refine weakT (pt_chain ho ho' ha hb hc hm) ?_
  rintro σ H Q ⟨S, H0, ρ, R, q⟩
  refine tChain_of hr hr' (mg := X.mg) (T := T) (W := W) ?_
  refine bindP R q fun y ρ1 v H1 R1 s1 v1 _ q => ?_
  obtain ⟨z, hz, q⟩ := opt_some q
  exact ⟨z, toB_of v1 hz, q H1 R1 s1⟩
/-! the operations -/
def B (b : Bool) : SV := .d (.bool b)
def I (i : Int) : SV := .d (.int i)
def LIM : Nat := 100000
def gII (f : Int → Int → Option SV) : D → D → Option SV
  | .int i, .int j => f i j
  | _, _ => none
theorem gII_some {f : Int → Int → Option SV} {x y : D} {z : SV} (h : gII f x y = some z) : ∃ i j, x = .int i ∧ y = .int j ∧ f i j = some z := by
  cases x with
  | int i =>
    cases y with
    | int j => exact ⟨i, j, rfl, rfl, h⟩
    | _ => cases h
  | _ => cases h
theorem gok_int {H : Hp} {i : Int} : GOk H H (.int i) (I i) := .int i
theorem gok_bl {H : Hp} {b : Bool} : GOk H H (.bl b) (B b) := .bl b
theorem GOp.I0 {g : Int → Int → Int} : GOp (rI0 fun i j => .int (g i j)) (gII fun i j => some (I (g i j))) := fun H x y d e z Q h1 h2 h q => by
  obtain ⟨i, j, rfl, rfl, h⟩ := gII_some h
  cases h
  cases h1
  cases h2
  exact ⟨i, j, rfl, rfl, q _ H (Grw.refl _) gok_int⟩
theorem GOp.IC {C : Int → Int → Prop} {c : Int → Int → Bool} {g : Int → Int → Int} (hc : ∀ i j, c i j = true → C i j) : GOp (rI C fun i j => .int (g i j)) (gII fun i j => if c i j = true then some (I (g i j)) else none) := fun H x y d e z Q h1 h2 h q => by
  obtain ⟨i, j, rfl, rfl, h'⟩ := gII_some h
  clear h
  by_cases k : c i j = true
  · rw [if_pos k] at h'
    cases h'
    cases h1
    cases h2
    exact ⟨i, j, rfl, rfl, hc i j k, q _ H (Grw.refl _) gok_int⟩
  · rw [if_neg k] at h'
    cases h'
theorem GOp.B0 {g : Int → Int → Bool} : GOp (rI0 fun i j => .bl (g i j)) (gII fun i j => some (B (g i j))) := fun H x y d e z Q h1 h2 h q => by
  obtain ⟨i, j, rfl, rfl, h⟩ := gII_some h
  cases h
  cases h1
  cases h2
  exact ⟨i, j, rfl, rfl, q _ H (Grw.refl _) gok_bl⟩
theorem GOp.or {r r' : R2} {g g' : D → D → Option SV} (h : GOp r g) (h' : GOp r' g') : GOp (fun x y H Q => r x y H Q ∨ r' x y H Q) (fun x y => (g x y).or (g' x y)) := fun H x y d e z Q h1 h2 hz q => by
  dsimp only at hz
  cases e1 : g d e with
  | some w =>
    rw [e1] at hz
    exact .inl (h H x y d e z Q h1 h2 (e1.trans hz) q)
  | none =>
    rw [e1] at hz
    exact .inr (h' H x y d e z Q h1 h2 hz q)
def subD : D → D → Option SV := gII fun i j => some (I (i - j))
def mulC (i j : Int) : Bool := (decide (-(2 ^ 64) < i) && decide (i < 2 ^ 64)) || (decide (-(2 ^ 64) < j) && decide (j < 2 ^ 64))
def mulWC (i j : Int) : Bool := decide (i.natAbs < 2 ^ 9000) && decide (j.natAbs < 2 ^ 9000)
theorem mulC_ok (i j : Int) (h : mulC i j = true) : CMul i j := by
  unfold mulC at h
  rw [Bool.or_eq_true, Bool.and_eq_true, Bool.and_eq_true] at h
  exact h.imp (fun z => ⟨of_decide_eq_true z.1, of_decide_eq_true z.2⟩) fun z => ⟨of_decide_eq_true z.1, of_decide_eq_true z.2⟩
theorem mulWC_ok (i j : Int) (h : mulWC i j = true) : CMulW i j := by
  unfold mulWC at h
  rw [Bool.and_eq_true] at h
  exact wide_mul (of_decide_eq_true h.1) (of_decide_eq_true h.2) (by decide) (by decide) (by decide)
def divC (i j : Int) : Bool := decide (0 < j) && decide (j.natAbs < 2 ^ 9000)
theorem divC_ok (i j : Int) (h : divC i j = true) : CDivW i j := by
  unfold divC at h
  rw [Bool.and_eq_true] at h
  exact wide_div (of_decide_eq_true h.1) (of_decide_eq_true h.2) (by decide) (by decide)
def fdivD : D → D → Option SV := gII fun i j => if divC i j = true then some (I (i / j)) else none
def modC (i j : Int) : Bool := decide (0 < j)
def modD : D → D → Option SV := gII fun i j => if modC i j = true then some (I (i % j)) else none
def powC (i j : Int) : Bool := decide (0 ≤ j) && decide (j ≤ 200) && decide (i.natAbs < 2 ^ 64)
theorem powC_ok (i j : Int) (h : powC i j = true) : CPow i j := by
  unfold powC at h
  rw [Bool.and_eq_true, Bool.and_eq_true] at h
  have := of_decide_eq_true h.1.2
  exact ⟨of_decide_eq_true h.1.1, by omega, of_decide_eq_true h.2⟩
def powD : D → D → Option SV := gII fun i j => if powC i j = true then some (I (i ^ j.toNat)) else none
def shlD : D → D → Option SV := gII fun i j => if powC i j = true then some (I (i * 2 ^ j.toNat)) else none
def shrC (i j : Int) : Bool := decide (0 ≤ j)
def shrD : D → D → Option SV := gII fun i j => if shrC i j = true then some (I (i / 2 ^ j.toNat)) else none
def andD : D → D → Option SV := gII fun i j => some (I (Builtin.bitAnd i j))
def orD : D → D → Option SV := gII fun i j => some (I (Builtin.bitOr i j))
theorem g_sub : GOp (rI0 fun i j => .int (i - j)) subD := .I0
theorem g_fdiv : GOp (rI CDivW fun i j => .int (i / j)) fdivD := .IC divC_ok
theorem g_mod : GOp (rI (fun _ j => 0 < j) fun i j => .int (i % j)) modD := .IC fun i j h => of_decide_eq_true h
theorem g_pow : GOp (rI CPow fun i j => .int (i ^ j.toNat)) powD := .IC powC_ok
theorem g_shl : GOp (rI CPow fun i j => .int (i * 2 ^ j.toNat)) shlD := .IC powC_ok
theorem g_shr : GOp (rI (fun _ j => 0 ≤ j) fun i j => .int (i / 2 ^ j.toNat)) shrD := .IC fun i j h => of_decide_eq_true h
theorem g_and : GOp (rI0 fun i j => .int (Builtin.bitAnd i j)) andD := .I0
theorem g_or : GOp (rI0 fun i j => .int (Builtin.bitOr i j)) orD := .I0
/-! == and its like -/
def eqC (d e : D) : Bool := match d, e with
  | .int _, _ => true
  | _, .int _ => true
  | d, e => decide (min d.depth e.depth ≤ 60)
theorem eqC_ok {d e : D} (h : eqC d e = true) : min d.depth e.depth ≤ 60 := by
  unfold eqC at h
  split at h
  · exact Nat.le_trans (Nat.min_le_left _ _) (by show 0 ≤ 60; decide)
  · exact Nat.le_trans (Nat.min_le_right _ _) (by show 0 ≤ 60; decide)
  · exact of_decide_eq_true h
def eqD (d e : D) : Option SV := if eqC d e = true then some (B (PyData.eqv d e)) else none
def neD (d e : D) : Option SV := if eqC d e = true then some (B (!PyData.eqv d e)) else none
def rDD (C : D → D → Bool) (g : D → D → Bool) : R2 := fun x y H Q => ∃ d e, Rp H x d ∧ Rp H y e ∧ C d e = true ∧ Q (.bl (g d e)) H
theorem GOp.DD {C g : D → D → Bool} : GOp (rDD C g) (fun d e => if C d e = true then some (B (g d e)) else none) := fun H x y d e z Q h1 h2 h q => by
  dsimp only at h
  by_cases k : C d e = true
  · rw [if_pos k] at h
    cases h
    exact ⟨d, e, h1, h2, k, q _ H (Grw.refl _) gok_bl⟩
  · rw [if_neg k] at h
    cases h
theorem op_eq' (hu : X.A.units + 64 < cLine) : OpR X (compareOp .Eq) (rDD eqC fun d e => PyData.eqv d e) := by
  rintro pins s σ H x y v u Q I rx ry ⟨d, e, hd, he, hc, q⟩
  obtain ⟨as, r1⟩ := hd.reads I rx
  obtain ⟨bs, r2⟩ := he.reads I ry
  have := eqC_ok hc
  exact SeqAt.eq_plain r1 r2 hd.plain he.plain (by omega) ⟨.bl _, H, I, rfl, q⟩
theorem op_ne' (hu : X.A.units + 64 < cLine) : OpR X (compareOp .NotEq) (rDD eqC fun d e => !PyData.eqv d e) := by
  rintro pins s σ H x y v u Q I rx ry ⟨d, e, hd, he, hc, q⟩
  obtain ⟨as, r1⟩ := hd.reads I rx
  obtain ⟨bs, r2⟩ := he.reads I ry
  have := eqC_ok hc
  exact SeqAt.ne_plain r1 r2 hd.plain he.plain (by omega) ⟨.bl _, H, I, rfl, q⟩
theorem g_eq : GOp (rDD eqC fun d e => PyData.eqv d e) eqD := .DD
theorem g_ne : GOp (rDD eqC fun d e => !PyData.eqv d e) neD := .DD
/-! < and its like: ints, or data that are alike -/
def ltC (d e : D) : Bool := match d, e with
  | .int _, .int _ => true
  | .none, _ => false
  | d, e => PySem.W.alike d e && decide (min d.depth e.depth ≤ 60)
def ltB (d e : D) : Bool := match d, e with
  | .int i, .int j => decide (i < j)
  | d, e => PySem.W.dataLt d e
theorem ltC_ok {d e : D} (h : ltC d e = true) : PySem.W.alike d e = true ∧ d ≠ .none ∧ min d.depth e.depth ≤ 60 := by
  have gen : (PySem.W.alike d e && decide (min d.depth e.depth ≤ 60)) = true → PySem.W.alike d e = true ∧ min d.depth e.depth ≤ 60 := fun z => by
    rw [Bool.and_eq_true] at z
    exact ⟨z.1, of_decide_eq_true z.2⟩
  cases d with
  | none => cases e <;> exact absurd h Bool.false_ne_true
  | int i =>
    cases e with
    | int j => exact ⟨by simp [PySem.W.alike], (by intro z; cases z), Nat.le_trans (Nat.min_le_left _ _) (by show 0 ≤ 60; decide)⟩
    | _ => exact ⟨(gen h).1, (by intro z; cases z), (gen h).2⟩
  | _ => cases e <;> exact ⟨(gen h).1, (by intro z; cases z), (gen h).2⟩
theorem ltB_eq (d e : D) : ltB d e = PySem.W.dataLt d e := by
  unfold ltB
  split
  · exact (PySem.W.dataLt_int _ _).symm
  · rfl
def gC (g : D → D → Bool) : D → D → Option SV := fun d e => if ltC d e = true then some (B (g d e)) else none
def ltD : D → D → Option SV := gC fun d e => ltB d e
def gtD : D → D → Option SV := gC fun d e => ltB e d
def leD : D → D → Option SV := gC fun d e => !ltB e d
def geD : D → D → Option SV := gC fun d e => !ltB d e
theorem g_lt : GOp (rDD ltC fun d e => ltB d e) ltD := .DD
theorem g_gt : GOp (rDD ltC fun d e => ltB e d) gtD := .DD
theorem g_le : GOp (rDD ltC fun d e => !ltB e d) leD := .DD
theorem g_ge : GOp (rDD ltC fun d e => !ltB d e) geD := .DD
theorem op_lt' (hu : X.A.units + 64 < cLine) : OpR X (compareOp .Lt) (rDD ltC fun d e => ltB d e) := by
  rintro pins s σ H x y v u Q I rx ry ⟨d, e, hd, he, hc, q⟩
  obtain ⟨as, r1⟩ := hd.reads I rx
  obtain ⟨bs, r2⟩ := he.reads I ry
  obtain ⟨h1, h2, h3⟩ := ltC_ok hc
  exact PySem.W.lt_data r1 r2 h1 h2 (by omega) ⟨.bl _, H, I, rfl, by rw [← ltB_eq]; exact q⟩
theorem op_gt' (hu : X.A.units + 64 < cLine) : OpR X (compareOp .Gt) (rDD ltC fun d e => ltB e d) := by
  rintro pins s σ H x y v u Q I rx ry ⟨d, e, hd, he, hc, q⟩
  obtain ⟨as, r1⟩ := hd.reads I rx
  obtain ⟨bs, r2⟩ := he.reads I ry
  obtain ⟨h1, h2, h3⟩ := ltC_ok hc
  exact PySem.W.gt_data r1 r2 h1 h2 (by omega) ⟨.bl _, H, I, rfl, by rw [← ltB_eq]; exact q⟩
theorem op_le' (hu : X.A.units + 64 < cLine) : OpR X (compareOp .LtE) (rDD ltC fun d e => !ltB e d) := by
  rintro pins s σ H x y v u Q I rx ry ⟨d, e, hd, he, hc, q⟩
  obtain ⟨as, r1⟩ := hd.reads I rx
  obtain ⟨bs, r2⟩ := he.reads I ry
  obtain ⟨h1, h2, h3⟩ := ltC_ok hc
  exact PySem.W.le_data r1 r2 h1 h2 (by omega) ⟨.bl _, H, I, rfl, by rw [← ltB_eq]; exact q⟩
theorem op_ge' (hu : X.A.units + 64 < cLine) : OpR X (compareOp .GtE) (rDD ltC fun d e => !ltB d e) := by
  rintro pins s σ H x y v u Q I rx ry ⟨d, e, hd, he, hc, q⟩
  obtain ⟨as, r1⟩ := hd.reads I rx
  obtain ⟨bs, r2⟩ := he.reads I ry
  obtain ⟨h1, h2, h3⟩ := ltC_ok hc
  exact PySem.W.ge_data r1 r2 h1 h2 (by omega) ⟨.bl _, H, I, rfl, by rw [← ltB_eq]; exact q⟩
/-! in -/
def inB (d : D) : D → Bool
  | .list xs => xs.any fun y => PyData.eqv y d
  | .tuple xs => xs.any fun y => PyData.eqv y d
  | _ => false
def inC (d : D) : D → Bool
  | .list xs => decide (d.depth ≤ 60)
  | .tuple xs => decide (d.depth ≤ 60)
  | _ => false
def inD (d e : D) : Option SV := if inC d e = true then some (B (inB d e)) else none
def notInD (d e : D) : Option SV := if inC d e = true then some (B (!inB d e)) else none
theorem g_in : GOp (rDD inC inB) inD := .DD
theorem g_notIn : GOp (rDD inC fun d e => !inB d e) notInD := .DD
theorem op_in' (hu : X.A.units + 64 < cLine) : OpR X (compareOp .In) (rDD inC inB) := by
  rintro pins s σ H x y v u Q I rx ry ⟨d, e, hd, he, hc, q⟩
  obtain ⟨as, r1⟩ := hd.reads I rx
  obtain ⟨bs, r2⟩ := he.reads I ry
  have pl := he.plain
  cases e with
  | list xs =>
    have h := of_decide_eq_true (show decide (d.depth ≤ 60) = true from hc)
    have := Nat.min_le_right (PyData.depthAll xs) d.depth
    exact SeqAt.in_list_data r2 r1 pl hd.plain (by omega) ⟨.bl _, H, I, rfl, q⟩
  | tuple xs =>
    have h := of_decide_eq_true (show decide (d.depth ≤ 60) = true from hc)
    have := Nat.min_le_right (PyData.depthAll xs) d.depth
    exact SeqAt.in_tuple_data r2 r1 pl hd.plain (by omega) ⟨.bl _, H, I, rfl, q⟩
  | _ => exact absurd hc Bool.false_ne_true
theorem op_notIn' (hu : X.A.units + 64 < cLine) : OpR X (compareOp .NotIn) (rDD inC fun d e => !inB d e) := by
  rintro pins s σ H x y v u Q I rx ry ⟨d, e, hd, he, hc, q⟩
  obtain ⟨as, r1⟩ := hd.reads I rx
  obtain ⟨bs, r2⟩ := he.reads I ry
  have pl := he.plain
  cases e with
  | list xs =>
    have h := of_decide_eq_true (show decide (d.depth ≤ 60) = true from hc)
    have := Nat.min_le_right (PyData.depthAll xs) d.depth
    exact SeqAt.notIn_list_data r2 r1 pl hd.plain (by omega) ⟨.bl _, H, I, rfl, q⟩
  | tuple xs =>
    have h := of_decide_eq_true (show decide (d.depth ≤ 60) = true from hc)
    have := Nat.min_le_right (PyData.depthAll xs) d.depth
    exact SeqAt.notIn_tuple_data r2 r1 pl hd.plain (by omega) ⟨.bl _, H, I, rfl, q⟩
  | _ => exact absurd hc Bool.false_ne_true
/-! is -/
def isC (d e : D) : Bool := match d, e with
  | _, .none => true
  | .bool _, .bool _ => true
  | _, _ => false
def isB (d e : D) : Bool := match d, e with
  | .none, .none => true
  | .bool x, .bool y => decide (x = y)
  | _, _ => false
def isD (d e : D) : Option SV := if isC d e = true then some (B (isB d e)) else none
def isNotD (d e : D) : Option SV := if isC d e = true then some (B (!isB d e)) else none
theorem g_is : GOp (rDD isC isB) isD := .DD
theorem g_isNot : GOp (rDD isC fun d e => !isB d e) isNotD := .DD
theorem op_is' : OpR X (compareOp .Is) (rDD isC isB) := by
  rintro pins s σ H x y v u Q I rx ry ⟨d, e, hd, he, hc, q⟩
  cases e with
  | none =>
    cases he
    refine op_isN pins s σ H x .non v u Q I rx ry ⟨rfl, ?_⟩
    cases hd <;> exact q
  | bool c =>
    cases he
    cases d with
    | bool b =>
      cases hd
      exact op_isBl pins s σ H (.bl b) (.bl c) v u Q I rx ry ⟨b, c, rfl, rfl, q⟩
    | _ => exact absurd hc Bool.false_ne_true
  | _ => cases d <;> exact absurd hc Bool.false_ne_true
theorem op_isNot' : OpR X (compareOp .IsNot) (rDD isC fun d e => !isB d e) := by
  rintro pins s σ H x y v u Q I rx ry ⟨d, e, hd, he, hc, q⟩
  cases e with
  | none =>
    cases he
    refine op_notN pins s σ H x .non v u Q I rx ry ⟨rfl, ?_⟩
    cases hd <;> exact q
  | bool c =>
    cases he
    cases d with
    | bool b =>
      cases hd
      exact op_notBl pins s σ H (.bl b) (.bl c) v u Q I rx ry ⟨b, c, rfl, rfl, q⟩
    | _ => exact absurd hc Bool.false_ne_true
  | _ => cases d <;> exact absurd hc Bool.false_ne_true
end
end Pu
/-! Pu5 -/
set_option maxRecDepth 100000
namespace Pu
open PySem PySem.Spec
    PyProof.Rows L2
section
variable {T : List (Addr × Str)} {S : List Addr} {H0 H H' : Hp} {σ : L2.St} {ρ ρ' : Ev} {X : Cx} {W : XK} {e a b c : Expr} {pos : Pos} {pins : List (Addr × Obj)} {s : Shared}
/-- what a locked list, a locked tuple is in the heap -/
theorem lstF (I : Inv X pins σ H s) {p : Addr} {ob : Obj} {xs : List V} (h : H p = some (.frz ob (.lst xs))) : xs.length ≤ sizeLine ∧ ∃ (its : List Value) (n : Nat), Vals xs its ∧ xs.length = its.length ∧ s.heap.get? p = some { cls := .type "list", data := .seq its.toArray n } := by
  obtain ⟨_, z, its, n, r, e⟩ := I.hok p _ h
  exact ⟨z, its, n,
      r, r.length, e⟩
theorem tupF (I : Inv X pins σ H s) {p : Addr} {ob : Obj} {xs : List V} (h : H p = some (.frz ob (.tup xs))) : xs.length ≤ sizeLine ∧ ∃ its : List Value, Vals xs its ∧ xs.length = its.length ∧ IsTup s.heap p its.toArray := by
  obtain ⟨_, z, its, r, e⟩ := I.hok p _ h
  exact ⟨z, its, r, r.length, e⟩
abbrev tObj (us : List Value) : Obj := { cls := .type "tuple", data := .seq us.toArray }
/-- a new tuple, locked -/
theorem newT (I : Inv X pins σ H s) {xs : List V} {us : List Value} {ds : List D} (r : Vals xs us) (hz : us.length ≤ sizeLine) (rp : RpL H xs ds) {Q : VK} (q : ∀ v H', Grw H H' → GOk H H' v (.d (.tuple ds)) → Q v H') : EP X pins σ Q (.ref s.heap.objs.size) { s with heap := s.heap.push (tObj us) } := by
  have n : H s.heap.objs.size = none := I.hok.fresh (Nat.le_refl _)
  refine ⟨.ref s.heap.objs.size, upd H s.heap.objs.size (.frz (tObj us) (.tup xs)), I.laid (t' := s.toks) (fun b u e => Heap.get?_push_of_some _ e) (Nat.le_refl _) ?_, rfl, q _ _ (Grw.new n) (.tup upd_same rfl (rp.k (FzS.new n)))⟩
  exact ⟨Heap.get?_push_size _ rfl, by rw [r.length]; exact hz, us, r, IsTup.new _ _⟩
/-- a new list -/
theorem newL (I : Inv X pins σ H s) {p : Addr} {xs : List V} {us : List Value} {ds : List D} {n : Nat} {h' : Heap} {tk : Nat} (r : Vals xs us) (hz : us.length ≤ sizeLine) (rp : RpL H xs ds) {Q : VK} (hp : s.heap.objs.size ≤ p) (k : ∀ b u, s.heap.get? b = some u → h'.get? b = some u)
    (e : h'.get? p = some { cls := .type "list", data := .seq us.toArray n }) (q : ∀ v H', Grw H H' → GOk H H' v (.own none (.lst ds)) → Q v H') : EP X pins σ Q (.ref p) { s with heap := h', toks := tk } := by
  have nn : H p = none := I.hok.fresh hp
  refine ⟨.ref p, upd H p (.lst xs), I.laid k hp ?_, rfl, q _ _ (Grw.new nn) ⟨rfl, p, xs, rfl, nn, upd_same, rp.k (FzS.new nn)⟩⟩
  exact ⟨by rw [r.length]; exact hz, us, n, r, e⟩
/-- an operation's reading by its function -/
def rGG (g : D → D → Option SV) : R2 := fun x y H Q => ∃ d e z, Rp H x d ∧ Rp H y e ∧ g d e = some z ∧ ∀ v H', Grw H H' → GOk H H' v z → Q v H'
theorem GOp.gg {g : D → D → Option SV} : GOp (rGG g) g := fun H x y d e z Q h1 h2 h q => ⟨d, e, z, h1, h2, h, q⟩
/-- + -/
def addD : D → D → Option SV
  | .int i, .int j => some (I (i + j))
  | .tuple xs, .tuple ys => if xs.length + ys.length ≤ LIM then some (.d (.tuple (xs ++ ys))) else none
  | .list xs, .list ys => if xs.length + ys.length ≤ LIM then some (.own none (.lst (xs ++ ys))) else none
  | .str x, .str y => if x.length + y.length ≤ LIM then some (.d (.str (x ++ y))) else none
  | _, _ => none
theorem if_some {α : Type} {c : Prop} [Decidable c] {x z : α} (h : (if c then some x else none) = some z) : c ∧ x = z := by
  by_cases k : c
  · rw [if_pos k] at h
    exact ⟨k, Option.some.inj h⟩
  · rw [if_neg k] at h
    cases h
theorem lim_le {n : Nat} (h : n ≤ LIM) : n ≤ sizeLine := Nat.le_trans h (by decide)
theorem op_add' : OpR X (binaryOp .Add) (rGG addD) := by
  rintro pins s σ H x y v u Q I rx ry ⟨d, e, z, hd, he, hz, q⟩
  cases hd with
  | int i =>
    cases he with
    | int j =>
      cases hz
      exact op_add pins s σ H _ _ v u Q I rx ry ⟨i, j, rfl, rfl, q _ H (Grw.refl _) gok_int⟩
    | _ => cases hz
  | str i =>
    cases he with
    | str j =>
      obtain ⟨hl, rfl⟩ := if_some hz
      exact op_add_str pins s σ H _ _ v u Q I rx ry ⟨i, j, rfl, rfl, lim_le hl, q _ H (Grw.refl _) (.str _)⟩
    | _ => cases hz
  | @tup p ob xs ds e1 d1 r1 =>
    cases he with
    | @tup p2 ob2 ys es e2 d2 r2 =>
      obtain ⟨hl, rfl⟩ := if_some hz
      cases rx
      cases ry
      obtain ⟨z1, its, v1, l1, t1⟩ := tupF I e1
      obtain ⟨z2, its2, v2, l2, t2⟩ := tupF I e2
      have hl' := lim_le hl
      rw [← r1.length, ← r2.length] at hl'
      by_cases hx : its = []
      · subst hx
        have x0 : xs = [] := List.eq_nil_of_length_eq_zero l1
        subst x0
        cases r1
        exact cat_tup0 t1 t2 ⟨.ref p2, H, I, rfl, q _ H (Grw.refl _) (.tup e2 d2 r2)⟩
      · refine HT.cat_tup t1 t2 hx (fun hy => ?_) (fun hy => newT I (v1.append v2) (by rw [List.length_append]; omega) (r1.append r2) q) (by omega)
        subst hy
        have y0 : ys = [] := List.eq_nil_of_length_eq_zero l2
        subst y0
        cases r2
        refine ⟨.ref p, H, I, rfl, q _ H (Grw.refl _) ?_⟩
        rw [List.append_nil]
        exact .tup e1 d1 r1
    | _ => cases hz
  | @lst p ob xs ds e1 r1 =>
    cases he with
    | @lst p2 ob2 ys es e2 r2 =>
      obtain ⟨hl, rfl⟩ := if_some hz
      cases rx
      cases ry
      obtain ⟨z1, its, n, v1, l1, t1⟩ := lstF I e1
      obtain ⟨z2, its2, n2, v2, l2, t2⟩ := lstF I e2
      have hl' := lim_le hl
      rw [← r1.length, ← r2.length] at hl'
      refine PySem.P.add_list t1 t2 ?_ (by rw [List.size_toArray, List.size_toArray]; omega)
      have ea : its.toArray ++ its2.toArray =
          (its ++ its2).toArray := by simp
      rw [ea]
      exact newL (n := 0) (tk := s.toks) I (v1.append v2) (by rw [List.length_append]; omega) (r1.append r2) (Nat.le_refl _) (fun _ _ z => Heap.get?_push_of_some _ z) (Heap.get?_push_size _ rfl) q
    | _ => cases hz
  | _ => cases hz
/-- * -/
def mulD : D → D → Option SV
  | .int i, .int j => if mulC i j = true then some (I (i * j)) else if mulWC i j = true then some (I (i * j)) else none
  | .list xs, .int k => if 0 ≤ k ∧ k ≤ 1000 ∧ xs.length ≤ 1000 then some (.own none (.lst (List.replicate k.toNat xs).flatten)) else none
  | .tuple xs, .int k => if 0 < xs.length ∧ 2 ≤ k ∧ k ≤ 1000 ∧ xs.length ≤ 1000 then some (.d (.tuple (List.replicate k.toNat xs).flatten)) else none
  | _, _ => none
theorem RpL.rep {vs : List V} {ds : List D} (h : RpL H vs ds) : ∀ k : Nat, RpL H (List.replicate k vs).flatten (List.replicate k ds).flatten
  | 0 => .nil
  | k + 1 => by
    rw [List.replicate_succ, List.replicate_succ,
        List.flatten_cons, List.flatten_cons]
    exact h.append (RpL.rep h k)
theorem list_rep {prog : Program} {w : World} {A : Around} {E : Value → Shared → Prop} {s : Shared} {l : Addr} {k : Int} {t : Tok} {its : List Value} {n : Nat} {Q : Value → Shared → Prop}
    (e : s.heap.get? l = some { cls := .type "list", data := .seq its.toArray n }) (h1 : 0 ≤ k) (h2 : k ≤ 1000) (hz : its.length ≤ 1000)
    (q : Q (.ref s.heap.objs.size) { s with heap := s.heap.push { cls := .type "list", data := .seq (List.replicate k.toNat its).flatten.toArray } }) :
    wpAny (model prog w) A (binaryOp .Mult (.ref l) (.int k t)) Q E s := by
  have hb : its.length * k.toNat ≤ 1000 * 1000 := Nat.mul_le_mul hz (by omega)
  have hlen : its.toArray.size * k.toNat ≤ sizeLine := by
    rw [List.size_toArray, sizeLine_eq]
    omega
  have hcap : ¬ its.toArray.size *
      k.toNat > (2 ^ 63 - 1) / 8 := by
    have : (sizeLine : Nat) ≤ (2 ^
        63 - 1) / 8 := by decide
    omega
  have hfit : ¬ (!Builtin.List.listFitsIndex
      k) = true := by
    rw [fitsIndex_both (by omega) (by omega)]
    exact Bool.false_ne_true
  have hlong : ¬ Builtin.List.listTooLong
      (its.toArray.size * k.toNat) = true := by
    rw [notLongL hlen]
    exact Bool.false_ne_true
  have f0 : ∀ m : Nat, List.foldl (fun x1 x2 => x1 ++ x2) #[] (List.replicate m
      its.toArray) = (List.replicate m its).flatten.toArray := fun m => by
    have := foldl_rep its m []
    rw [List.nil_append] at this
    exact this
  have hnew : List.foldl (fun x1 x2 => x1 ++ x2) #[] (List.replicate (if its.toArray.isEmpty = true then
      0 else k.toNat) its.toArray) = (List.replicate k.toNat its).flatten.toArray := by
    rw [f0]
    cases its with
    | nil => simp
    | cons a r' =>
        rw [if_neg (by simp)]
  have up : s.TypeIs (.ref l) "list" := ⟨_, e, rfl⟩
  refine wpAny_binaryOp_repeat_ref (T := "list") (U := "int") (by decide) up (fun s' => typeIs_int s' k t) noFill_list_mul F.fills_int_mul F.slot_int_rmul repeat_list
      F.slot_int_index.lookup (call_meets F.slot_int_rmul (typeIs_int s k t) F.entry_int_rmul (F.args_int_rmul_2 _ _) (int___rmul___int_list k t l its.toArray n) ⟨e, rfl, up, ?_⟩)
  refine call_meets F.slot_list_mul up F.entry_list_mul (F.args_list_mul_2 _ _)
      (AutoListH.list___mul___list_int_3 l its.toArray n k t hfit hcap hlong) ⟨e, ?_⟩
  rw [hnew]
  exact q
theorem tup_rep {prog : Program} {w : World} {A : Around} {E : Value → Shared → Prop} {s : Shared} {l : Addr} {k : Int} {t : Tok} {its : List Value} {Q : Value → Shared → Prop}
    (e : IsTup s.heap l its.toArray) (h0 : 0 < its.length) (h1 : 2 ≤ k) (h2 : k ≤ 1000) (hz : its.length ≤ 1000)
    (q : Q (.ref s.heap.objs.size) { s with heap := s.heap.push (tObj (List.replicate k.toNat its).flatten) }) :
    wpAny (model prog w) A (binaryOp .Mult (.ref l) (.int k t)) Q E s := by
  obtain ⟨⟨cls, dd, data, sl⟩, ho, hc, n, hd⟩ := e
  simp only at hc hd
  subst hc hd
  have hi : its.toArray.isEmpty
      = false := by
    cases its with
    | nil => exact absurd h0 (Nat.lt_irrefl 0)
    | cons a b => rfl
  have prod : ((its.toArray.size : Nat) : Int) * k ≤ 1000000 := by
    rw [List.size_toArray]
    have a1 : ((its.length : Nat) : Int) * k ≤ 1000 * k := Int.mul_le_mul_of_nonneg_right (by omega) (by omega)
    omega
  have long : (List.replicate k.toNat its).flatten.length ≤ sizeLine := by
    rw [PyProof.Rows.lm_len_rep_flat, sizeLine_eq]
    have a1 : k.toNat * its.length ≤ 1000 * 1000 := Nat.mul_le_mul (by omega) hz
    omega
  have w0 : (decide (k < -(2 ^ 63)) || decide (k ≥ 2 ^ 63)) = false := by
    rw [decide_eq_false (show ¬ k < -(2 ^ 63) by omega), decide_eq_false (show ¬ k ≥ 2 ^ 63 by omega)]
    rfl
  have w1 : (its.toArray.isEmpty || k == 1) = false := by
    rw [hi, Bool.false_or, beq_eq_false_iff_ne]
    omega
  have w2 : (decide (k ≤ 0) || its.toArray.isEmpty) = false := by
    rw [hi, Bool.or_false, decide_eq_false (show ¬ k ≤ 0 by omega)]
  have w4 : Builtin.Tuple.tupleTooMany (((its.toArray.size : Nat) : Int) * k) = false := by
    rw [Builtin.Tuple.tupleTooMany, sizeLine_eq]
    exact decide_eq_false
        (by omega)
  have up : s.TypeIs (.ref l) "tuple" := ⟨_, ho, rfl⟩
  refine wpAny_binaryOp_repeat_ref (T := "tuple") (U := "int") (by decide) up (fun s' => typeIs_int s' k t) L2.noFill_tuple_mul F.fills_int_mul F.slot_int_rmul L2.repeat_tuple
      F.slot_int_index.lookup (call_meets F.slot_int_rmul (typeIs_int s k t) F.entry_int_rmul (F.args_int_rmul_2 _ _) (L2.int_rmul_tuple k t l its.toArray n dd sl) ⟨ho, rfl, up, ?_⟩)
  refine call_meets F.slot_tuple_mul up F.entry_tuple_mul (F.args_tuple_mul_2 _ _)
      (L2.tuple_mulW l its.toArray n dd sl k t w0 w1 w2 (by omega) w4 (by rw [L2.size_rep, List.size_toArray]; exact long)) ⟨ho, ?_⟩
  rw [L2.size_rep]
  exact q
theorem op_mul' : OpR X (binaryOp .Mult) (rGG mulD) := by
  rintro pins s σ H x y v u Q I rx ry ⟨d, e, z, hd, he, hz, q⟩
  cases hd with
  | int i =>
    cases he with
    | int j =>
      have hz' : (if mulC i j = true then some (Pu.I (i * j)) else if mulWC i j = true then some (Pu.I (i * j)) else none) = some z := hz
      by_cases k : mulC i j = true
      · rw [if_pos k] at hz'
        cases hz'
        exact op_mul pins s σ H _ _ v u Q I rx ry ⟨i, j, rfl, rfl, mulC_ok i j k, q _ H (Grw.refl _) gok_int⟩
      · rw [if_neg k] at hz'
        obtain ⟨k2, rfl⟩ := if_some hz'
        exact op_mulW pins s σ H _ _ v u Q I rx ry ⟨i, j, rfl, rfl, mulWC_ok i j k2, q _ H (Grw.refl _) gok_int⟩
    | _ => cases hz
  | @lst p ob xs ds e1 r1 =>
    cases he with
    | int k =>
      obtain ⟨⟨h1, h2, h3⟩, rfl⟩ := if_some (show (if 0 ≤ k ∧ k ≤ 1000 ∧ ds.length ≤ 1000 then some (SV.own none (.lst (List.replicate k.toNat ds).flatten)) else none) = some z from hz)
      cases rx
      obtain ⟨t, rfl⟩ := ry
      obtain ⟨z1, its, n, v1, l1, t1⟩ := lstF I e1
      have hl : its.length ≤ 1000 := by rw [← l1, r1.length]; exact h3
      refine list_rep t1 h1 h2 hl ?_
      have hb : k.toNat * its.length ≤ 1000 * 1000 := Nat.mul_le_mul (by omega) hl
      exact newL (n := 0) (tk := s.toks) I (v1.rep k.toNat) (by rw [PyProof.Rows.lm_len_rep_flat, sizeLine_eq]; omega) (r1.rep k.toNat) (Nat.le_refl _) (fun _ _ z => Heap.get?_push_of_some _ z) (Heap.get?_push_size _ rfl) q
    | _ => cases hz
  | @tup p ob xs ds e1 d1 r1 =>
    cases he with
    | int k =>
      obtain ⟨⟨h0, h1, h2, h3⟩, rfl⟩ := if_some (show (if 0 < ds.length ∧ 2 ≤ k ∧ k ≤ 1000 ∧ ds.length ≤ 1000 then some (SV.d (.tuple (List.replicate k.toNat ds).flatten)) else none) = some z from hz)
      cases rx
      obtain ⟨t, rfl⟩ := ry
      obtain ⟨z1, its, v1, l1, t1⟩ := tupF I e1
      have hl : its.length = ds.length := by rw [← l1, r1.length]
      refine tup_rep t1 (by omega) h1 h2 (by omega) ?_
      have hb : k.toNat * its.length ≤ 1000 * 1000 := Nat.mul_le_mul (by omega) (by omega)
      exact newT I (v1.rep k.toNat) (by rw [PyProof.Rows.lm_len_rep_flat, sizeLine_eq]; omega) (r1.rep k.toNat) q
    | _ => cases hz
  | _ => cases he <;> cases hz
end
end Pu
/-! Pu6 -/
set_option maxRecDepth 100000
namespace Pu
open PySem PySem.Spec
    PyProof.Rows L2
section
variable {T : List (Addr × Str)} {S : List Addr} {H0 H H' : Hp} {σ : L2.St} {ρ ρ' : Ev} {X : Cx} {W : XK} {e a b c : Expr} {pos : Pos} {pins : List (Addr × Obj)} {s : Shared}
/-! arguments, as data -/
abbrev PstA (mg : Str → Option Value) (T : List (Addr × Str)) (W : XK) (S : List Addr) (H0 H : Hp) (σ : L2.St) (ρ : Ev) (Q : List V → Hp → Prop) : R (List D) → Prop :=
  PstG mg T W S H0 fun ds ρ' => ∀ vs H', RS T S H0 H' σ ρ' → Stp σ ρ ρ' H H' → RpL H' vs ds → Q vs H'
def tA (mg : Str → Option Value) (T : List (Addr × Str)) (W : XK) (f : Ev → R (List D)) : TA := fun σ H Q => ∃ S H0 ρ, RS T S H0 H σ ρ ∧ PstA mg T W S H0 H σ ρ Q (f ρ)
abbrev PAr (X : Cx) (T : List (Addr × Str)) (W : XK) (es : List Expr) (f : Ev → R (List D)) : Prop := PA X es (tA X.mg T W f)
theorem weakA {es : List Expr} {t t' : TA} (h : PA X es t) (w : ∀ σ H Q, t' σ H Q → t σ H Q) : PA X es t' := ⟨fun p pins s σ H Q I q => h.run p pins s σ H Q I (w _ _ _ q)⟩
def fNil : Ev → R (List D) := fun ρ => .ok [] ρ
def fCons (f : Ev → R D) (g : Ev → R (List D)) : Ev → R (List D) := fun ρ => (f ρ).bind fun x ρ => (g ρ).bind fun xs ρ => .ok (x :: xs) ρ
theorem par_nil : PAr X T W [] fNil := weakA pa_nil fun σ H Q ⟨_, _, _, R, q⟩ => q [] H R (Stp.refl _ _ _) .nil
theorem bindA {γ : Type} {ok : γ → Ev → Prop} {mg : Str → Option Value} {f : Ev → R (List D)} {g : List D → Ev → R γ} {K : List V → Hp → Prop} (R : RS T S H0 H σ ρ) (q : PstG mg T W S H0 ok ((f ρ).bind g))
    (k : ∀ y ρ1 v H1, RS T S H0 H1 σ ρ1 → Stp σ ρ ρ1 H H1 → RpL H1 v y → PstG mg T W S H0 ok (g y ρ1) → K v H1) : tA mg T W f σ H K :=
  ⟨S, H0, ρ, R, q.bind.mono fun y ρ1 z v H1 R1 s1 r1 => k y ρ1 v H1 R1 s1 r1 z⟩
theorem par_cons {es : List Expr} {f : Ev → R D} {g : Ev → R (List D)} (ha : PD X T W e f) (hs : PAr X T W es g) (h : starEach (e :: es) X.env = (false, eval e X.env) :: starEach es X.env := by rfl) : PAr X T W (e :: es) (fCons f g) := by
  refine weakA (pa_cons ha hs h) ?_
  rintro σ H Q ⟨S, H0, ρ, R, q⟩
  refine bindD R q fun x ρ1 v H1 R1 s1 r1 q => bindA R1 q fun xs ρ2 vs H2 R2 s2 r2 q => ?_
  exact q _ _ R2 (s1.trans s2) (.cons (r1.k (s2.fz R1)) r2)
/-! displays -/
def fTup (f : Ev → R (List D)) : Ev → R SV := fun ρ => (f ρ).bind fun ds ρ => if ds.length ≤ LIM then .ok (.d (.tuple ds)) ρ else .no
def fLst (f : Ev → R (List D)) : Ev → R SV := fun ρ => (f ρ).bind fun ds ρ => if ds.length ≤ LIM then .ok (.own none (.lst ds)) ρ else .no
theorem ite_ok {mg : Str → Option Value} {γ : Type} {ok : γ → Ev → Prop} {c : Prop} [Decidable c] {x : R γ} (q : PstG mg T W S H0 ok (if c then x else .no)) : c ∧ PstG mg T W S H0 ok x := by
  by_cases k : c
  · rw [if_pos k] at q
    exact ⟨k, q⟩
  · rw [if_neg k] at q
    exact q.elim
theorem pe_tupG {es : List Expr} {x1} {t : TA} (h : PA X es t) : PE X (.Tuple es x1 pos) (fun σ H Q => t σ H fun vs H1 => ∃ ds, RpL H1 vs ds ∧ vs.length ≤ sizeLine ∧ ∀ v H', Grw H1 H' → GOk H1 H' v (.d (.tuple ds)) → Q v H') := by
  constructor
  intro pins s σ H Q I hq
  refine wpAny_Tuple_spliced (thn (h.run pos pins s σ H _ I hq) ?_)
  rintro us s1 ⟨vs, H1, I1, r, ds, rp, z, q⟩
  have hz : us.length ≤ sizeLine := by rw [← r.length]; exact z
  exact ⟨hz, newT I1 r hz rp q⟩
theorem pp_tup {es : List Expr} {x1} {f : Ev → R (List D)} (h : PAr X T W es f) : PP X T W (.Tuple es x1 pos) (fTup f) := by
  refine weakE (pe_tupG h) ?_
  rintro σ H Q ⟨S, H0, ρ, R, q⟩
  refine bindA R q fun ds ρ1 vs H1 R1 s1 r1 q => ?_
  obtain ⟨hl, q⟩ := ite_ok q
  exact ⟨ds, r1, by rw [r1.length]; exact lim_le hl, fun v H' gr go => go.fin gr R1 s1 q⟩
theorem pp_lst {es : List Expr} {f : Ev → R (List D)} (h : PAr X T W es f) : PP X T W (.List es pos) (fLst f) := by
  refine weakE (pe_lst h) ?_
  rintro σ H Q ⟨S, H0, ρ, R, q⟩
  refine bindA R q fun ds ρ1 vs H1 R1 s1 r1 q => ?_
  obtain ⟨hl, q⟩ := ite_ok q
  refine ⟨by rw [r1.length]; exact lim_le hl, fun p np => ?_⟩
  exact GOk.fin (z := .own none (.lst ds)) ⟨rfl, p, vs, rfl, np, upd_same, r1.k (FzS.new np)⟩ (Grw.new np) R1 s1 q
/-! a[i] -/
theorem atI_rp {vs : List V} {ds : List D} {i : Int} {d : D} (r : RpL H vs ds) (h : atI ds i = some d) : ∃ v, atI vs i = some v ∧ Rp H v d := by
  unfold atI at h ⊢
  rw [r.length]
  cases e : ixN ds.length i with
  | none =>
    rw [e] at h
    cases h
  | some j =>
    rw [e] at h
    exact r.get h
def ixD : D → D → Option SV
  | .list xs, .int i => (atI xs i).map .d
  | .tuple xs, .int i => (atI xs i).map .d
  | _, _ => none
theorem map_d {o : Option D} {z : SV} (h : o.map SV.d = some z) : ∃ d, o = some d ∧ z = .d d := by
  cases o with
  | none => cases h
  | some d => exact ⟨d, rfl, (Option.some.inj h).symm⟩
theorem ix_data : IxR X (rGG ixD) := by
  rintro value slice pins s σ H x y v u Q I rx ry ⟨d, e, z, hd, he, hz, q⟩ hs
  cases hd with
  | @tup p ob xs ds e1 d1 r1 =>
    cases he with
    | int i =>
      obtain ⟨w, hw, rfl⟩ := map_d hz
      obtain ⟨w', hw', rw'⟩ := atI_rp r1 hw
      exact ix_tup value slice pins s σ H _ _ v u Q I rx ry ⟨p, xs, i, w', rfl, rfl, .inl (.inr ⟨_, e1⟩), hw', q _ H (Grw.refl _) rw'⟩ hs
    | _ => cases hz
  | @lst p ob xs ds e1 r1 =>
    cases he with
    | int i =>
      obtain ⟨w, hw, rfl⟩ := map_d hz
      obtain ⟨w', hw', rw'⟩ := atI_rp r1 hw
      exact ix_list value slice pins s σ H _ _ v u Q I rx ry ⟨p, xs, i, w', rfl, rfl, .inl (.inr ⟨_, e1⟩), hw', q _ H (Grw.refl _) rw'⟩ hs
    | _ => cases hz
  | _ => cases he <;> cases hz
theorem pp_ix {fa fb : Ev → R D} (ha : PD X T W a fa) (hb : PD X T W b fb) (hs : PlainIx b := by exact fun _ _ => rfl) : PP X T W (.Subscript a b pos) (fBin ixD fa fb) :=
  weakE (pe_ix ix_data ha hb hs) fun _ _ _ h => tOp_of .gg h
/-- what a slot tells to one who only reads -/
def SV.peek : SV → Option D
  | .d x => some x
  | .own _ (.lst xs) => some (.list xs)
  | _ => none
/-- a list of one's own, a locked one, a tuple: read -/
inductive Lk (H : Hp) : V → D → Prop
  | d {v : V} {d : D} : Rp H v d → Lk H v d
  | l {a : Addr} {vs : List V} {xs : List D} : H a = some (.lst vs) → RpL H vs xs → Lk H (.ref a) (.list xs)
theorem peek_slot (R : RS T S H0 H σ ρ) {i : Nat} {x : SV} {d : D} (h : ρ[i]? = some x) (e : x.peek = some d) : ∃ v, σ[i]? = some (some v) ∧ Lk H v d := by
  cases x with
  | d y =>
    cases e
    obtain ⟨v, e1, so⟩ := slot_some R h (fun z => nomatch z)
    exact ⟨v, e1, .d so⟩
  | own t o =>
    cases o with
    | lst xs =>
      cases e
      obtain ⟨v, e1, a, ho, rfl, ha, mu, ob, hS, hk⟩ := slot_some R h (fun z => nomatch z)
      cases ob with
      | lst r => exact ⟨_, e1, .l ha r⟩
    | dic kvs => cases e
  | _ => cases e
/-- x[i], x a name: its own list stays its own -/
def peekAt (ρ : Ev) (i : Nat) : Option D := (ρ[i]?).bind SV.peek
def fIxO (i : Nat) (fb : Ev → R D) : Ev → R SV := fun ρ => (opt (peekAt ρ i) ρ).bind fun _ ρ => (fb ρ).bind fun y ρ => (opt (peekAt ρ i) ρ).bind fun d ρ => opt (ixD d y) ρ
theorem peekAt_of (R : RS T S H0 H σ ρ) {i : Nat} {d : D} (h : peekAt ρ i = some d) : ∃ v, σ[i]? = some (some v) ∧ Lk H v d := by
  unfold peekAt at h
  cases hi : ρ[i]? with
  | none => rw [hi] at h; cases h
  | some x =>
    rw [hi] at h
    exact peek_slot R hi h
theorem pp_ixO {i : Nat} {x : Str} {p : Pos} {fb : Ev → R D} (hN : X.N[i]? = some x) (hv : Vis X.env.scope x) (hb : PD X T W b fb) (hs : PlainIx b := by exact fun _ _ => rfl) (hd : (x == ("__debug__" : Str)) = false := by decide) (hcd : (x == ("__classdict__" : Str)) = false := by decide) :
    PP X T W (.Subscript (.Name x p) b pos) (fIxO i fb) := by
  have low : IxR X (fun x y H Q => ∃ d e z, Lk H x d ∧ Rp H y e ∧ ixD d e = some z ∧ ∀ v, GOk H H v z → Q v H) := by
    rintro value slice pins s σ H x y v u Q I rx ry ⟨d, e, z, hd, he, hz, q⟩ hs
    cases hd with
    | d hd =>
      cases hd with
      | @tup p ob xs ds e1 d1 r1 =>
        cases he with
        | int i =>
          obtain ⟨w, hw, rfl⟩ := map_d hz
          obtain ⟨w', hw', rw'⟩ := atI_rp r1 hw
          exact ix_tup value slice pins s σ H _ _ v u Q I rx ry ⟨p, xs, i, w', rfl, rfl, .inl (.inr ⟨_, e1⟩), hw', q _ rw'⟩ hs
        | _ => cases hz
      | @lst p ob xs ds e1 r1 =>
        cases he with
        | int i =>
          obtain ⟨w, hw, rfl⟩ := map_d hz
          obtain ⟨w', hw', rw'⟩ := atI_rp r1 hw
          exact ix_list value slice pins s σ H _ _ v u Q I rx ry ⟨p, xs, i, w', rfl, rfl, .inl (.inr ⟨_, e1⟩), hw', q _ rw'⟩ hs
        | _ => cases hz
      | _ => cases he <;> cases hz
    | @l p xs ds e1 r1 =>
      cases he with
      | int i =>
        obtain ⟨w, hw, rfl⟩ := map_d hz
        obtain ⟨w', hw', rw'⟩ := atI_rp r1 hw
        exact ix_list value slice pins s σ H _ _ v u Q I rx ry ⟨p, xs, i, w', rfl, rfl, .inl (.inl e1), hw', q _ rw'⟩ hs
      | _ => cases hz
  refine weakE (pe_ix low (pe_var (pos := p) hN hv hd hcd) hb hs) ?_
  rintro σ H Q ⟨S, H0, ρ, R, q⟩
  obtain ⟨d0, hd0, q⟩ := opt_some (PstG.bind q)
  obtain ⟨v, e0, _⟩ := peekAt_of R hd0
  refine ⟨v, e0, bindD R q fun y ρ1 w H1 R1 s1 r1 q => ?_⟩
  obtain ⟨d, hd, q⟩ := opt_some (PstG.bind q)
  obtain ⟨t, ht, q⟩ := opt_some q
  obtain ⟨v', e1, lk⟩ := peekAt_of R1 hd
  rw [e0] at e1
  cases e1
  exact ⟨d, y, t, lk, r1, ht, fun v go => go.fin (Grw.refl _) R1 s1 q⟩
end
end Pu
/-! Pu7 -/
set_option maxRecDepth 100000
namespace Pu
open PySem PySem.Spec
    PyProof.Rows L2
section
variable {T : List (Addr × Str)} {S : List Addr} {H0 H H' : Hp} {σ : L2.St} {ρ ρ' : Ev} {X : Cx} {W : XK} {e a b c : Expr} {pos : Pos} {pins : List (Addr × Obj)} {s : Shared}
/-! slices -/
def tO (mg : Str → Option Value) (T : List (Addr × Str)) (W : XK) (f : Ev → R (Option Int)) : TO := fun σ H Q => ∃ S H0 ρ, RS T S H0 H σ ρ ∧ PstG mg T W S H0 (fun o ρ' => ∀ H', RS T S H0 H' σ ρ' → Stp σ ρ ρ' H H' → Q o H') (f ρ)
abbrev POr (X : Cx) (T : List (Addr × Str)) (W : XK) (e : Option Expr) (f : Ev → R (Option Int)) : Prop := PO X e (tO X.mg T W f)
theorem weakO {e : Option Expr} {t t' : TO} (h : PO X e t) (w : ∀ σ H Q, t' σ H Q → t σ H Q) : PO X e t' := ⟨fun pins s σ H Q I q => h.run pins s σ H Q I (w _ _ _ q)⟩
def fNoPart : Ev → R (Option Int) := fun ρ => .ok none ρ
def D.toI : D → Option Int
  | .int i => some i
  | _ => none
def fPart (f : Ev → R D) : Ev → R (Option Int) := fun ρ => (f ρ).bind fun d ρ => (opt (D.toI d) ρ).bind fun i ρ => .ok (some i) ρ
theorem toI_of {v : V} {d : D} {i : Int} (h : Rp H v d) (e : D.toI d = some i) : v = .int i := by
  cases h with
  | int j => cases e; rfl
  | _ => cases e
theorem por_none : POr X T W none fNoPart := weakO po_none fun σ H Q ⟨_, _, _, R, q⟩ => q H R (Stp.refl _ _ _)
theorem por_some {f : Ev → R D} (h : PD X T W e f) : POr X T W (some e) (fPart f) := by
  refine weakO (po_some h) ?_
  rintro σ H Q ⟨S, H0, ρ, R, q⟩
  refine bindD R q fun x ρ1 v H1 R1 s1 r1 q => ?_
  obtain ⟨i, hi, q⟩ := opt_some (PstG.bind q)
  exact ⟨i, toI_of r1 hi, q H1 R1 s1⟩
theorem bindO {γ : Type} {ok : γ → Ev → Prop} {mg : Str → Option Value} {f : Ev → R (Option Int)} {g : Option Int → Ev → R γ} {K : Option Int → Hp → Prop} (R : RS T S H0 H σ ρ) (q : PstG mg T W S H0 ok ((f ρ).bind g))
    (k : ∀ y ρ1 H1, RS T S H0 H1 σ ρ1 → Stp σ ρ ρ1 H H1 → PstG mg T W S H0 ok (g y ρ1) → K y H1) : tO mg T W f σ H K :=
  ⟨S, H0, ρ, R, q.bind.mono fun y ρ1 z H1 R1 s1 => k y ρ1 H1 R1 s1 z⟩
def cutL {α : Type} (xs : List α) (lo hi : Option Int) : List α := (xs.drop (HT.sIx xs.length 0 lo)).take (HT.sIx xs.length xs.length hi - HT.sIx xs.length 0 lo)
theorem cutL_rp {vs : List V} {ds : List D} (r : RpL H vs ds) (lo hi : Option Int) : RpL H (cutV vs lo hi) (cutL ds lo hi) := by
  unfold cutV cutL
  rw [r.length]
  exact (r.drop _).take _
def slD : D → Option Int → Option Int → Option SV
  | .tuple xs, lo, hi => some (.d (.tuple (cutL xs lo hi)))
  | .list xs, lo, hi => some (.own none (.lst (cutL xs lo hi)))
  | _, _, _ => none
theorem cut_whole {vs : List V} {lo hi : Option Int} (h : HT.sIx vs.length 0 lo = 0 ∧ HT.sIx vs.length vs.length hi = vs.length) : cutV vs lo hi = vs := by
  unfold cutV
  rw [h.1, h.2, List.drop_zero, Nat.sub_zero, List.take_length]
theorem sl_data : SlR X (fun x lo hi H Q => ∃ d z, Rp H x d ∧ slD d lo hi = some z ∧ ∀ v H', Grw H H' → GOk H H' v z → Q v H') := by
  rintro pins s σ H x v vl vu lo hi sl Q I rx hs pl pu ⟨d, z, hd, hz, q⟩
  cases hd with
  | @tup p ob xs ds e1 d1 r1 =>
    cases hz
    cases rx
    obtain ⟨z1, its, v1, l1, t1⟩ := tupF I e1
    have hlen : its.toArray.size = xs.length := by rw [List.size_toArray]; exact l1.symm
    refine ⟨"tuple", _, PyProof.Rows.slot_tuple_getitem.lookup, t1.typeIs, ?_⟩
    have rc := cutL_rp r1 lo hi
    by_cases hw : HT.sIx xs.length 0 lo = 0 ∧ HT.sIx
        xs.length xs.length hi = xs.length
    · rw [cut_whole hw] at rc
      exact getItem_tuple_whole t1 hs pl pu (by rw [hlen]; exact hw) ⟨.ref p, H, I, rfl, q _ H (Grw.refl _) (.tup e1 d1 rc)⟩
    · refine HT.getItem_tuple_cut t1 hs pl pu (by rw [hlen]; exact hw) ?_ (by rw [hlen]; exact z1)
      rw [hlen]
      have vc : Vals (cutV xs lo hi) ((its.drop (HT.sIx xs.length 0 lo)).take (HT.sIx xs.length xs.length hi - HT.sIx xs.length 0 lo)) := (v1.drop _).take _
      exact newT I vc (by rw [← vc.length]; exact Nat.le_trans (cutV_length xs lo hi) z1) rc q
  | @lst p ob xs ds e1 r1 =>
    cases hz
    refine sl_list pins s σ H _ v vl vu lo hi sl Q I rx hs pl pu ⟨p, xs, rfl, .inl (.inr ⟨_, e1⟩), fun p' np => ?_⟩
    exact q _ _ (Grw.new np) ⟨rfl, p', _, rfl, np, upd_same, (cutL_rp r1 lo hi).k (FzS.new np)⟩
  | _ => cases hz
def fSl (f : Ev → R D) (l u : Ev → R (Option Int)) : Ev → R SV := fun ρ => (f ρ).bind fun d ρ => (l ρ).bind fun lo ρ => (u ρ).bind fun hi ρ => opt (slD d lo hi) ρ
theorem pp_sl {lo hi : Option Expr} {p2 : Pos} {f : Ev → R D} {l u : Ev → R (Option Int)} (he : PD X T W e f) (hl : POr X T W lo l) (hu : POr X T W hi u) : PP X T W (.Subscript e (.Slice lo hi none p2) pos) (fSl f l u) := by
  refine weakE (pe_slice sl_data he hl hu) ?_
  rintro σ H Q ⟨S, H0, ρ, R, q⟩
  refine bindD R q fun d ρ1 v H1 R1 s1 r1 q => bindO R1 q fun o ρ2 H2 R2 s2 q => bindO R2 q fun o2 ρ3 H3 R3 s3 q => ?_
  obtain ⟨z, hz, q⟩ := opt_some q
  exact ⟨d, z, (r1.k (s2.fz R1)).k (s3.fz R2), hz, fun w H' gr go => go.fin gr R3 ((s1.trans s2).trans s3) q⟩
/-- e[::-1] -/
def revD : D → Option SV
  | .tuple xs => some (.d (.tuple xs.reverse))
  | .list xs => some (.own none (.lst xs.reverse))
  | _ => none
theorem pe_rev {te : TE} {k : Nat} {p1 p2 p3 : Pos} (he : PE X e te) : PE X (.Subscript e (.Slice none none (some (.UnaryOp .USub (.Constant (.int 1) k p1) p2)) p3) pos)
    (fun σ H Q => te σ H fun x H1 => ∃ d z, Rp H1 x d ∧ revD d = some z ∧ ∀ v H', Grw H1 H' → GOk H1 H' v z → Q v H') := by
  constructor
  intro pins s σ H Q I h
  refine Subscript_ (thn (he.run pins s σ H _ I h) ?_)
  rintro v s1 ⟨x, H1, I1, rx, d, z, hd, hz, q⟩
  have hst : PO X (some (.UnaryOp .USub (.Constant (.int 1) k p1) p2)) (tPart (tUn (rU
      fun i => .int (-i)) (tC (.int 1)))) := po_some (pe_un un_neg pe_int)
  refine wpAny_Slice (thn (po_none.run pins s1 σ H1 (fun o H2 => o = none ∧ H2
      = H1) I1 ⟨rfl, rfl⟩) ?_)
  rintro vl s2 ⟨l, H2, I2, pl, el, e2⟩
  subst el e2
  refine thn (po_none.run pins s2 σ H2 (fun o H3 => o = none ∧ H3 = H2)
      I2 ⟨rfl, rfl⟩) ?_
  rintro vu s3 ⟨u, H3, I3, pu, eu, e3⟩
  subst eu e3
  refine thn (hst.run pins s3 σ H3 (fun o H4 => o = some (-1) ∧ H4 = H3) I3 ⟨1,
      rfl, -1, rfl, rfl, rfl⟩) ?_
  rintro vs s4 ⟨o, H4, I4, ps, eo, e4⟩
  subst eo e4
  have I5 : Inv X pins σ H4 { s4 with heap := s4.heap.push { cls := .type "slice", data := .fields #[vl, vu, vs] } } := I4.kept (t' := s4.toks) fun b ob z => Heap.get?_push_of_some _ z
  show wpAny (model X.prog X.w) X.A (subscriptTail e (.Slice none none (some (.UnaryOp .USub (.Constant (.int 1) k p1) p2)) p3) v (.ref s4.heap.objs.size)) (EP X pins σ Q) X.xe
    { s4 with heap := s4.heap.push { cls := .type "slice", data := .fields #[vl, vu, vs] } }
  cases hd with
  | @tup p ob xs ds e1 d1 r1 =>
    cases hz
    cases rx
    obtain ⟨z1, its, v1, l1, t1⟩ := tupF I5 e1
    refine tail_any (ops := [.ref p, .ref s4.heap.objs.size]) t1.typeIs (PyProof.Rows.slot_tuple_getitem.lookup) ?_ (by with_unfolding_all rfl)
    refine WoR.getItem_tup_back t1 (Heap.IsSliceOf.new _ vl vu vs) pl pu ps (by rw [List.size_toArray]; omega) ?_
    exact newT I5 v1.reverse (by rw [List.length_reverse]; omega) r1.reverse q
  | @lst p ob xs ds e1 r1 =>
    cases hz
    cases rx
    obtain ⟨z1, its, n, v1, l1, t1⟩ := lstF I5 e1
    have il : Heap.IsList _ p its.toArray := ⟨_, t1, rfl, n, rfl⟩
    refine tail_any (ops := [.ref p, .ref s4.heap.objs.size]) il.typeIs
      (PySem.slot_list_getitem.lookup) ?_ (by with_unfolding_all rfl)
    refine wpAny_getItem_list_slice il (Heap.IsSliceOf.new _ vl vu vs) pl pu ps (by decide) ?_ (by rw [List.size_toArray]; omega)
    rw [PySem.W.krv_pick]
    exact newL (n := 0) (tk := s4.toks) I5 v1.reverse (by rw [List.length_reverse]; omega) r1.reverse (Nat.le_refl _) (fun _ _ z => Heap.get?_push_of_some _ z) (Heap.get?_push_size _ rfl) q
  | _ => cases hz
def fUn (g : D → Option SV) (f : Ev → R D) : Ev → R SV := fun ρ => (f ρ).bind fun d ρ => opt (g d) ρ
theorem pp_rev {f : Ev → R D} {k : Nat} {p1 p2 p3 : Pos} (he : PD X T W e f) : PP X T W (.Subscript e (.Slice none none (some (.UnaryOp .USub (.Constant (.int 1) k p1) p2)) p3) pos) (fUn revD f) := by
  refine weakE (pe_rev he) ?_
  rintro σ H Q ⟨S, H0, ρ, R, q⟩
  refine bindD R q fun d ρ1 v H1 R1 s1 r1 q => ?_
  obtain ⟨z, hz, q⟩ := opt_some q
  exact ⟨d, z, r1, hz, fun w H' gr go => go.fin gr R1 s1 q⟩
/-- -i -/
def negD : D → Option SV
  | .int i => some (I (-i))
  | _ => none
theorem pp_neg {f : Ev → R D} (he : PD X T W e f) : PP X T W (.UnaryOp .USub e pos) (fUn negD f) := by
  refine weakE (pe_un un_neg he) ?_
  rintro σ H Q ⟨S, H0, ρ, R, q⟩
  refine bindD R q fun d ρ1 v H1 R1 s1 r1 q => ?_
  obtain ⟨z, hz, q⟩ := opt_some q
  cases r1 with
  | int i =>
    cases hz
    exact ⟨i, rfl, GOk.fin gok_int (Grw.refl _) R1 s1 q⟩
  | _ => cases hz
end
end Pu
/-! PuS -/
set_option maxRecDepth 100000
namespace Pu
open PySem PySem.Spec
    PyProof.Rows L2
/-! sorting data -/
def insD (x : D) : List D → List D
  | [] => [x]
  | y :: ys => if ltB y x = true then y :: insD x ys else x :: y :: ys
def srtD (ds : List D) : List D := ds.foldr insD []
def leB (a b : D) : Bool := !ltB b a
theorem lt_trans' {a b c : D} (h1 : ltB a b = true) (h2 : ltB b c = true) : ltB a c = true := by
  rw [ltB_eq] at h1 h2 ⊢
  exact lex_trans _ _ _ h1 h2
theorem le_trans' {a b c : D} (h1 : leB a b = true) (h2 : leB b c = true) : leB a c = true := by
  unfold leB at h1 h2 ⊢
  rw [ltB_eq] at h1 h2 ⊢
  rw [Bool.not_eq_true'] at h1 h2 ⊢
  cases e : PySem.W.dataLt c a with
  | false => rfl
  | true =>
    rcases lex_negTrans (O := itemOrd) _ (PySem.W.keyToks b) _ e with z | z
    · rw [show PySem.W.dataLt c b = true from z] at h2
      cases h2
    · rw [show PySem.W.dataLt b a = true from z] at h1
      cases h1
theorem le_total' (a b : D) : (leB a b || leB b a) = true := by
  unfold leB
  rw [ltB_eq, ltB_eq]
  cases e : PySem.W.dataLt b a with
  | false => rfl
  | true =>
    cases e2 : PySem.W.dataLt a b with
    | false => rfl
    | true =>
      have z := lex_trans (O := itemOrd) _ _ _ e e2
      rw [lex_irrefl] at z
      cases z
mutual
theorem eq_of_eqv : ∀ x y : D, PySem.W.alike x y = true → PyData.eqv x y = true → x = y
  | .none, y, h, e => by cases y <;> first | rfl | exact absurd h (by simp [PySem.W.alike])
  | .bool a, y, h, e => by
    cases y with
    | bool b => simp only [PyData.eqv, beq_iff_eq] at e; rw [e]
    | _ => exact absurd h (by simp [PySem.W.alike])
  | .int a, y, h, e => by
    cases y with
    | int b => simp only [PyData.eqv, beq_iff_eq] at e; rw [e]
    | _ => exact absurd h (by simp [PySem.W.alike])
  | .str a, y, h, e => by
    cases y with
    | str b => simp only [PyData.eqv, beq_iff_eq] at e; rw [e]
    | _ => exact absurd h (by simp [PySem.W.alike])
  | .list xs, y, h, e => by
    cases y with
    | list ys => rw [eqAll_of_eqv xs ys (by simpa [PySem.W.alike] using h) (by simpa [PyData.eqv] using e)]
    | _ => exact absurd h (by simp [PySem.W.alike])
  | .tuple xs, y, h, e => by
    cases y with
    | tuple ys => rw [eqAll_of_eqv xs ys (by simpa [PySem.W.alike] using h) (by simpa [PyData.eqv] using e)]
    | _ => exact absurd h (by simp [PySem.W.alike])
  | .dict _, y, h, _ => absurd h (by cases y <;> simp [PySem.W.alike])
theorem eqAll_of_eqv : ∀ xs ys : List D, PySem.W.alikeAll xs ys = true → PyData.eqvAll xs ys = true → xs = ys
  | [], [], _, _ => rfl
  | [], _ :: _, _, e => by simp [PyData.eqvAll] at e
  | _ :: _, [], _, e => by simp [PyData.eqvAll] at e
  | x :: xs, y :: ys, h, e => by
    obtain ⟨h1, h2⟩ := PySem.W.alike_all_cons h
    rw [PySem.W.eqv_all_cons, Bool.and_eq_true] at e
    rw [eq_of_eqv x y h1 e.1, eqAll_of_eqv xs ys h2 e.2]
end
theorem le_antisymm' {a b : D} (h : PySem.W.alike a b = true) (h1 : leB a b = true) (h2 : leB b a = true) : a = b := by
  unfold leB at h1 h2
  rw [ltB_eq, Bool.not_eq_true'] at h1 h2
  have e := lex_total (O := itemOrd) _ _ h2 h1
  refine eq_of_eqv a b h ?_
  cases he : PyData.eqv a b with
  | true => rfl
  | false =>
    have z := (PySem.W.toks_eqv a b h).2 he [] [.inl 0]
    rw [List.append_nil, e] at z
    have l1 : PyProof.Rows.lexLt itemOrd (PySem.W.keyToks b) (PySem.W.keyToks b ++ [.inl 0]) = true := by
      have p := PySem.W.lex_pre (PySem.W.keyToks b) [] [.inl 0]
      rw [List.append_nil] at p
      rw [p]
      rfl
    rw [l1, lex_irrefl] at z
    cases z
theorem insD_perm (x : D) : ∀ ys : List D, (insD x ys).Perm (x :: ys)
  | [] => List.Perm.refl _
  | y :: ys => by
    unfold insD
    by_cases h : ltB y x = true
    · rw [if_pos h]
      exact ((insD_perm x ys).cons y).trans (List.Perm.swap x y ys)
    · rw [if_neg h]
theorem srtD_perm : ∀ ds : List D, (srtD ds).Perm ds
  | [] => List.Perm.refl _
  | d :: ds => (insD_perm d (srtD ds)).trans ((srtD_perm ds).cons d)
theorem insD_sorted (x : D) : ∀ ys : List D, ys.Pairwise (fun a b => leB a b = true) → (insD x ys).Pairwise (fun a b => leB a b = true)
  | [], _ => List.pairwise_singleton _ _
  | y :: ys, h => by
    obtain ⟨h1, h2⟩ :=
        List.pairwise_cons.mp h
    unfold insD
    by_cases e : ltB y x = true
    · rw [if_pos e]
      refine List.pairwise_cons.mpr ⟨fun z hz => ?_, insD_sorted x ys h2⟩
      rcases List.mem_cons.mp ((insD_perm x ys).mem_iff.mp hz) with rfl | hz
      · have t := le_total' y z
        have n : leB z y = false := by
          unfold leB
          rw [e]
          rfl
        rw [n, Bool.or_false] at t
        exact t
      · exact h1 z hz
    · rw [if_neg e]
      have ex : leB x y = true := by
        unfold leB
        rw [Bool.not_eq_true'] 
        cases q : ltB y x with
        | false => rfl
        | true => exact (e q).elim
      refine List.pairwise_cons.mpr ⟨fun z hz => ?_, h⟩
      rcases List.mem_cons.mp
          hz with rfl | hz
      · exact ex
      · exact le_trans' ex (h1 z hz)
theorem srtD_sorted : ∀ ds : List D, (srtD ds).Pairwise (fun a b => leB a b = true)
  | [] => List.Pairwise.nil
  | d :: ds => insD_sorted d _ (srtD_sorted ds)
/-- two sorted lists of the same data -/
theorem sorted_uniq : ∀ {xs ys : List D}, xs.Pairwise (fun a b => leB a b = true) → ys.Pairwise (fun a b => leB a b = true) → (∀ a ∈ xs, ∀ b ∈ xs, PySem.W.alike a b = true) → xs.Perm ys → xs = ys
  | [], ys, _, _, _, p => (List.nil_perm.mp p).symm ▸ rfl
  | x :: xs, [], _, _, _, p => absurd (List.perm_nil.mp p) (by simp)
  | x :: xs, y :: ys, h1, h2, ha, p => by
    obtain ⟨a1, a2⟩ := List.pairwise_cons.mp h1
    obtain ⟨b1, b2⟩ := List.pairwise_cons.mp h2
    have hy : y ∈ x :: xs := p.mem_iff.mpr List.mem_cons_self
    have hx : x ∈ y :: ys := p.mem_iff.mp List.mem_cons_self
    have e : x = y := by
      rcases List.mem_cons.mp
          hy with e | hy'
      · exact e.symm
      · rcases List.mem_cons.mp hx with e | hx'
        · exact e
        · exact le_antisymm' (ha x List.mem_cons_self y hy) (a1 y hy') (b1 x hx')
    subst e
    rw [sorted_uniq a2 b2 (fun a ha' b hb => ha a (List.mem_cons_of_mem _ ha') b (List.mem_cons_of_mem _ hb)) (List.Perm.cons_inv p)]
theorem srtD_eq {ds : List D} (ha : PySem.W.AllAlike ds) : ds.mergeSort (fun a b => leB a b) = srtD ds := by
  refine sorted_uniq (List.pairwise_mergeSort (le := fun a b => leB a b) (fun a b c h1 h2 => le_trans' h1 h2) (fun a b => le_total' a b) ds) (srtD_sorted ds) (fun a h1 b h2 => ?_) ?_
  · have p := List.mergeSort_perm ds (fun a b => leB a b)
    exact ha a (p.mem_iff.mp h1) b (p.mem_iff.mp h2)
  · exact (List.mergeSort_perm ds _).trans (srtD_perm ds).symm
/-- what may be sorted: ints, or data that are alike -/
def isInt : D → Bool
  | .int _ => true
  | _ => false
def isStr : D → Bool
  | .str _ => true
  | _ => false
def isTupC : D → Bool
  | .tuple (_ :: _) => true
  | _ => false
def isPlainKind : D → Bool
  | .none => false
  | .tuple _ => false
  | _ => true
def allAlikeB (ds : List D) : Bool := ds.all isInt || ds.all fun d => ds.all fun e => PySem.W.alike d e
def sortableB (ds : List D) : Bool := ds.all isTupC || ds.all isPlainKind
def depthsB (ds : List D) : Bool := ds.all isInt || ds.all fun d => decide (d.depth ≤ 50)
theorem isInt_ex {d : D} (h : isInt d = true) : ∃ i, d = .int i := by
  cases d with
  | int i => exact ⟨i, rfl⟩
  | _ => cases h
theorem allAlike_of {ds : List D} (h : allAlikeB ds = true) : PySem.W.AllAlike ds := by
  unfold allAlikeB at h
  rw [Bool.or_eq_true] at h
  intro d hd e he
  rcases h with h | h
  · obtain ⟨i, rfl⟩ := isInt_ex (List.all_eq_true.mp h d hd)
    obtain ⟨j, rfl⟩ := isInt_ex (List.all_eq_true.mp h e he)
    simp [PySem.W.alike]
  · exact List.all_eq_true.mp (List.all_eq_true.mp h d hd) e he
theorem sortable_of {ds : List D} (h : sortableB ds = true) : PySem.W.Sortable ds := by
  unfold sortableB at h
  rw [Bool.or_eq_true] at h
  rcases h with h | h
  · refine .inl fun d hd => ?_
    have := List.all_eq_true.mp
        h d hd
    cases d with
    | tuple xs =>
      cases xs with
      | nil => cases this
      | cons x r =>
          exact ⟨x, r, rfl⟩
    | _ => cases this
  · refine .inr fun d hd => ?_
    have := List.all_eq_true.mp
        h d hd
    cases d with
    | none => cases this
    | tuple xs => cases this
    | _ => exact ⟨(by intro z; cases z), (by intro xs z; cases z)⟩
theorem depths_of {ds : List D} (h : depthsB ds = true) : ∀ d ∈ ds, d.depth ≤ 50 := by
  unfold depthsB at h
  rw [Bool.or_eq_true] at h
  intro d hd
  rcases h with h | h
  · obtain ⟨i, rfl⟩ := isInt_ex (List.all_eq_true.mp h d hd)
    exact (by decide : 0 ≤ 50)
  · exact of_decide_eq_true (List.all_eq_true.mp h d hd)
def sortedD : D → Option SV
  | .list xs => if (allAlikeB xs && sortableB xs && depthsB xs) = true then some (.own none (.lst (srtD xs))) else none
  | .tuple xs => if (allAlikeB xs && sortableB xs && depthsB xs) = true then some (.own none (.lst (srtD xs))) else none
  | _ => none
/-! the calls -/
section
variable {prog : Program} {w : World} {A : Around} {E
    : Value → Shared → Prop} {s : Shared}
theorem sortedT_of {tp : Addr} {vs : List Value} {Q : Value → Shared → Prop} (ht : IsTup s.heap tp vs.toArray) (hL : vs.length ≤ sizeLine)
    (body : ∀ E' : Value → Shared → Prop, wpAny (model prog w) A.in1.in1 (Builtin.«list.sort» ⟨[.ref (s.heap.objs.size + 1)], []⟩) (fun f s' => f = .done (.ret .none) ∧ Q (.ref (s.heap.objs.size + 1)) s') E' { s with heap := PySem.W.copyHeap s.heap vs }) :
    wpAny (model prog w) A (call (.builtin "sorted") [.ref tp]) Q E s := by
  refine Calls.call_function_entry kind_sorted
      plain_sorted entry_sorted (args_sorted1 _) ?_
  unfold Builtin.«sorted»
  refine wpAny_bind (m := checkCount
      "sorted" 1 1 _) (wpAny_pure ?_)
  refine wpAny_bind (WoR.collect_tup ht hL ?_)
  refine wpAny_bind
      (wpAny_newList ?_ hL)
  have n1 : (WoR.gath s.heap vs).objs.size = s.heap.objs.size + 1 := by
    unfold WoR.gath
    rw [Heap.size_update,
        size_push']
  show wpAny _ _ _ _ _ { s with heap := PySem.W.copyHeap s.heap vs }
  rw [n1]
  refine wpAny_bind (wpAny_holding (wpAny_call_entry slot_list_sort ⟨_, PySem.W.copyHeap_at s.heap vs, rfl⟩ entry_list_sort ?_ (args_list_sort _)))
  refine wpAny_mono (body _) ?_ fun _ _ e => e
  rintro f s' ⟨rfl, hq⟩
  exact ⟨_, rfl, wpAny_pure
      ⟨_, rfl, hq⟩⟩
theorem sortedT_data {tp : Addr} {vs : List Value} {β : Type} {bs : List β} {enc : β → PyData} {Rl : Value → β → Prop} {Q : Value → Shared → Prop} (ht : IsTup s.heap tp vs.toArray) (e : PySem.W.EachIs Rl vs bs) (er : PySem.W.EachIs (fun v b => ∃ as, Reads s.heap v (enc b) as) vs bs) (hal : PySem.W.AllAlike (bs.map enc)) (hk : PySem.W.Sortable (bs.map enc)) (hL : bs.length ≤ sizeLine)
    (hu : ∀ b, b ∈ bs → A.units + 2 + (enc b).depth < cLine) (h : ∀ out, out.length = bs.length → PySem.W.EachIs Rl out (bs.mergeSort (PySem.W.dataLe false enc)) → Q (.ref (s.heap.objs.size + 1)) { s with heap := sortedAll s.heap vs (List.toArray out) }) :
    wpAny (model prog w) A (call (.builtin "sorted") [.ref tp]) Q E s := by
  have hl : vs.length ≤ sizeLine := by rw [e.length]; exact hL
  have er' : PySem.W.EachIs (fun v b => ∃ as, Reads (PySem.W.sortingHeap (PySem.W.copyHeap s.heap vs) (s.heap.objs.size + 1) vs) v (enc b) as) vs bs := er.mono fun _ _ ⟨as, r⟩ => ⟨as, PyProof.Rows.Reads.keeps (fun _ _ => PySem.W.sorting_copy_old) r⟩
  have S : PySem.W.SortsAt prog w A.in1.in1 { s with heap := PySem.W.sortingHeap (PySem.W.copyHeap s.heap vs) (s.heap.objs.size + 1) vs } _ vs := PySem.W.SortsAt.data (PySem.W.each_map (R := fun v d => ∃ as, Reads (PySem.W.sortingHeap (PySem.W.copyHeap s.heap vs) (s.heap.objs.size + 1) vs) v d as) enc er') hal hk (PySem.W.bound_map hu)
  refine sortedT_of ht hl fun E' => PySem.W.list_sort_vals (s := { s with heap := PySem.W.copyHeap s.heap vs }) (PySem.W.copyHeap_at s.heap vs) S hl ⟨rfl, ?_⟩
  exact h _ (by rw [PySem.W.sortVals_length false rfl]; exact e.length) (PySem.W.sortVals_data false e er' hal)
end
/-! the items, told by values and by data -/
section
variable {H : Hp} {σ : L2.St} {X : Cx} {pins : List (Addr × Obj)} {s : Shared}
theorem each_pairs (I : Inv X pins σ H s) : ∀ {xs : List V} {us : List Value} {ds : List D}, Vals xs us → RpL H xs ds →
    PySem.W.EachIs (fun u (p : V × D) => RelV p.1 u ∧ Rp H p.1 p.2) us (xs.zip ds) ∧ PySem.W.EachIs (fun u (p : V × D) => ∃ as, Reads s.heap u p.2 as) us (xs.zip ds) ∧ (xs.zip ds).map Prod.snd = ds ∧ (xs.zip ds).length = us.length
  | _, _, _, .nil, .nil => ⟨.nil, .nil, rfl, rfl⟩
  | _, _, _, .cons r t, .cons h1 h2 => by
    obtain ⟨a, b, c, d⟩ := each_pairs I t h2
    refine ⟨.cons ⟨r, h1⟩ a, .cons (h1.reads I r) b, ?_, ?_⟩
    · rw [List.zip_cons_cons, List.map_cons, c]
    · rw [List.zip_cons_cons, List.length_cons, List.length_cons, d]
theorem each_out : ∀ {us : List Value} {bs : List (V × D)}, PySem.W.EachIs (fun u (p : V × D) => RelV p.1 u ∧ Rp H p.1 p.2) us bs → Vals (bs.map Prod.fst) us ∧ RpL H (bs.map Prod.fst) (bs.map Prod.snd)
  | _, _, .nil => ⟨.nil, .nil⟩
  | _, _, .cons h t => by
    obtain ⟨a, b⟩ := each_out t
    exact ⟨.cons h.1 a, .cons h.2 b⟩
theorem sorted_snd {bs : List (V × D)} (ha : PySem.W.AllAlike (bs.map Prod.snd)) : (bs.mergeSort (PySem.W.dataLe false Prod.snd)).map Prod.snd = srtD (bs.map Prod.snd) := by
  rw [← srtD_eq ha]
  refine List.map_mergeSort (s := fun a b => leB a b) fun a _ b _ => ?_
  show (!PySem.W.dataLt b.2 a.2) = leB a.2 b.2
  unfold leB
  rw [ltB_eq]
end
end Pu
/-! Pu8 -/
set_option maxRecDepth 100000
namespace Pu
open PySem PySem.Spec
    PyProof.Rows L2
section
variable {T : List (Addr × Str)} {S : List Addr} {H0 H H' : Hp} {σ : L2.St} {ρ ρ' : Ev} {X : Cx} {W : XK} {e a b c : Expr} {pos p : Pos} {pins : List (Addr × Obj)} {s : Shared}
/-! calls of built-ins -/
/-- one argument, which may be a list of one's own that is only read -/
def r1 (g : D → Option SV) : List V → Hp → VK → Prop := fun vs H Q => ∃ v d z, vs = [v] ∧ Lk H v d ∧ g d = some z ∧ ∀ w H', Grw H H' → GOk H H' w z → Q w H'
def rN (g : List D → Option SV) : List V → Hp → VK → Prop := fun vs H Q => ∃ ds z, RpL H vs ds ∧ g ds = some z ∧ ∀ w H', Grw H H' → GOk H H' w z → Q w H'
/-- built-in functions, types -/
def BK (X : Cx) (x : Str) (f : Value) : Prop := Gl X x ∧ X.mg x = none ∧ bootBuiltins x = some f ∧ ((∃ id, f = .builtin id) ∨ ∃ t, f = .type t)
theorem pe_callBT {x : Str} {f : Value} {r : List V → Hp → VK → Prop} {es : List Expr} {t : TA} (k : BK X x f) (hc : CallR X f r) (ha : PA X (e :: es) t) (hn : x ≠ "__name__" := by decide) (hdb : (x == ("__debug__" : Str)) = false := by decide)
    (he : starEach (e :: es) X.env = (false, eval e X.env) :: starEach es X.env := by rfl) (hpl : (backTo pos (starEach es
        X.env)).any (·.1) = false := by rfl) : PE X (.Call (.Name x p) (e :: es) [] pos) (tCB r t) := by
  obtain ⟨hg, hm, hv, ⟨id, rfl⟩ | ⟨ty, rfl⟩⟩ := k
  · exact pe_callB hc hg hm hv ha hn hdb he hpl
  · exact pe_callTy hc hg hm hv ha hn hdb he hpl
theorem pp_call1 {x : Str} {f : Value} {g : D → Option SV} {fa : Ev → R D} (k : BK X x f) (hc : CallR X f (r1 g)) (ha : PD X T W e fa) (hn : x ≠ "__name__" := by decide) (hdb : (x == ("__debug__" : Str)) = false := by decide)
    (he : starEach [e] X.env = (false, eval e X.env) :: starEach [] X.env := by rfl) : PP X T W (.Call (.Name x p) [e] [] pos) (fUn g fa) := by
  refine weakE (pe_callBT k hc (pa_cons ha pa_nil he) hn hdb he) ?_
  rintro σ H Q ⟨S, H0, ρ, R, q⟩
  refine bindD R q fun d ρ1 v H1 R1 s1 q1 q => ?_
  obtain ⟨z, hz, q⟩ := opt_some q
  exact ⟨v, d, z, rfl, .d q1, hz, fun w H' gr go => go.fin gr R1 s1 q⟩
def fUnO (g : D → Option SV) (i : Nat) : Ev → R SV := fun ρ => (opt (peekAt ρ i) ρ).bind fun d ρ => opt (g d) ρ
theorem pp_call1O {i : Nat} {x y : Str} {f : Value} {g : D → Option SV} {p2 : Pos} (k : BK X x f) (hc : CallR X f (r1 g)) (hN : X.N[i]? = some y) (hv : Vis X.env.scope y) (hn : x ≠ "__name__" := by decide) (hdb : (x == ("__debug__" : Str)) = false := by decide)
    (hd : (y == ("__debug__" : Str)) = false := by decide) (hcd : (y == ("__classdict__" : Str)) = false := by decide)
    (he : starEach [.Name y p2] X.env = (false, eval (.Name y p2) X.env) :: starEach [] X.env := by rfl) : PP X T W (.Call (.Name x p) [.Name y p2] [] pos) (fUnO g i) := by
  refine weakE (pe_callBT k hc (pa_cons (pe_var hN hv hd hcd) pa_nil he) hn hdb he) ?_
  rintro σ H Q ⟨S, H0, ρ, R, q⟩
  obtain ⟨d, hd, q⟩ := opt_some (PstG.bind q)
  obtain ⟨z, hz, q⟩ := opt_some q
  obtain ⟨v, e0, lk⟩ := peekAt_of R hd
  exact ⟨v, e0, v, d, z, rfl, lk, hz, fun w H' gr go => go.fin gr R (Stp.refl _ _ _) q⟩
theorem pp_callN {x : Str} {f : Value} {g : List D → Option SV} {es : List Expr} {fa : Ev → R (List D)} (k : BK X x f) (hc : CallR X f (rN g)) (ha : PAr X T W (e :: es) fa) (hn : x ≠ "__name__" := by decide) (hdb : (x == ("__debug__" : Str)) = false := by decide)
    (he : starEach (e :: es) X.env = (false, eval e X.env) :: starEach es X.env := by rfl) (hpl : (backTo pos (starEach es X.env)).any (·.1) = false := by rfl) : PP X T W (.Call (.Name x p) (e :: es) [] pos) (fun ρ => (fa ρ).bind fun ds ρ => opt (g ds) ρ) := by
  refine weakE (pe_callBT k hc ha hn hdb he hpl) ?_
  rintro σ H Q ⟨S, H0, ρ, R, q⟩
  refine bindA R q fun ds ρ1 vs H1 R1 s1 q1 q => ?_
  obtain ⟨z, hz, q⟩ := opt_some q
  exact ⟨ds, z, q1, hz, fun w H' gr go => go.fin gr R1 s1 q⟩
/-! what stands in a list that is read -/
theorem Lk.list {K : PySem.W.Frag} {v : V} {ds : List D} (h : Lk H v (.list ds)) : ∃ a vs, v = .ref a ∧ SqL K H a vs ∧ RpL H vs ds := by
  cases h with
  | d h =>
    cases h with
    | lst e r => exact ⟨_, _, rfl, .inl (.inr ⟨_, e⟩), r⟩
  | l e r => exact ⟨_, _, rfl, .inl (.inl e), r⟩
theorem Lk.tup {v : V} {ds : List D} (h : Lk H v (.tuple ds)) : ∃ a ob vs, v = .ref a ∧ H a = some (.frz ob (.tup vs)) ∧ ob.dict = none ∧ RpL H vs ds := by
  cases h with
  | d h =>
    cases h with
    | tup e n r => exact ⟨_, _, _, rfl, e, n, r⟩
theorem Lk.atom {v : V} {d : D} (h : Lk H v d) (n : ∀ xs, d ≠ .list xs) : Rp H v d := by
  cases h with
  | d h => exact h
  | l e r => exact (n _ rfl).elim
def lenD : D → Option SV
  | .list xs => some (I xs.length)
  | .tuple xs => some (I xs.length)
  | .str x => if x.length ≤ LIM then some (I x.length) else none
  | _ => none
theorem cd_len : CallR X (.builtin "len") (r1 lenD) := by
  rintro pins s σ H xs us Q J r ⟨v, d, z, rfl, lk, hz, q⟩
  cases d with
  | list ds =>
    cases hz
    obtain ⟨a, vs, rfl, hs, rl⟩ := lk.list
    refine call_len_seq pins s σ H _ us Q J r ⟨a, vs, rfl, .inl hs, ?_⟩
    rw [rl.length]
    exact q _ H (Grw.refl _) gok_int
  | tuple ds =>
    cases hz
    obtain ⟨a, ob, vs, rfl, e, n, rl⟩ := lk.tup
    refine call_len_seq pins s σ H _ us Q J r ⟨a, vs, rfl, .inr (.inl (.inr ⟨_, e⟩)), ?_⟩
    rw [rl.length]
    exact q _ H (Grw.refl _) gok_int
  | str x =>
    obtain ⟨hl, rfl⟩ := if_some hz
    cases lk.atom (fun _ z => nomatch z)
    exact call_len_str pins s σ H _ us Q J r ⟨x, rfl, lim_le hl, q _ H (Grw.refl _) gok_int⟩
  | _ => cases hz
def absD : D → Option SV
  | .int i => some (I (if i < 0 then -i else i))
  | _ => none
theorem cd_abs : CallR X (.builtin "abs") (r1 absD) := by
  rintro pins s σ H xs us Q J r ⟨v, d, z, rfl, lk, hz, q⟩
  cases d with
  | int i =>
    cases hz
    cases lk.atom (fun _ z => nomatch z)
    exact call_abs pins s σ H _ us Q J r ⟨i, rfl, q _ H (Grw.refl _) gok_int⟩
  | _ => cases hz
def intD : D → Option SV
  | .int i => some (I i)
  | .bool b => some (I (if b then 1 else 0))
  | _ => none
theorem cd_int : CallR X (.type "int") (r1 intD) := by
  rintro pins s σ H xs us Q J r ⟨v, d, z, rfl, lk, hz, q⟩
  cases d with
  | int i =>
    cases hz
    cases lk.atom (fun _ z => nomatch z)
    exact call_int1 pins s σ H _ us Q J r (.inl ⟨i, rfl, q _ H (Grw.refl _) gok_int⟩)
  | bool i =>
    cases hz
    cases lk.atom (fun _ z => nomatch z)
    exact call_int1 pins s σ H _ us Q J r (.inr ⟨i, rfl, q _ H (Grw.refl _) gok_int⟩)
  | _ => cases hz
def listD : D → Option SV
  | .list xs => some (.own none (.lst xs))
  | .tuple xs => some (.own none (.lst xs))
  | _ => none
theorem cd_list : CallR X (.type "list") (r1 listD) := by
  rintro pins s σ H xs us Q J r ⟨v, d, z, rfl, lk, hz, q⟩
  cases d with
  | list ds =>
    cases hz
    obtain ⟨a, vs, rfl, hs, rl⟩ := lk.list
    exact call_list_of pins s σ H _ us Q J r ⟨a, vs, rfl, .inl hs, fun l nl => q _ _ (Grw.new nl) ⟨rfl, l, vs, rfl, nl, upd_same, rl.k (FzS.new nl)⟩⟩
  | tuple ds =>
    cases hz
    obtain ⟨a, ob, vs, rfl, e, n, rl⟩ := lk.tup
    exact call_list_of pins s σ H _ us Q J r ⟨a, vs, rfl, .inr (.inl (.inr ⟨_, e⟩)), fun l nl => q _ _ (Grw.new nl) ⟨rfl, l, vs, rfl, nl, upd_same, rl.k (FzS.new nl)⟩⟩
  | _ => cases hz
def tupleD : D → Option SV
  | .list xs => some (.d (.tuple xs))
  | .tuple xs => some (.d (.tuple xs))
  | _ => none
theorem cd_tuple : CallR X (.type "tuple") (r1 tupleD) := by
  rintro pins s σ H xs us Q J r ⟨v, d, z, rfl, lk, hz, q⟩
  cases d with
  | list ds =>
    cases hz
    obtain ⟨a, vs, rfl, hs, rl⟩ := lk.list
    obtain ⟨u, rfl,
        rx⟩ := vals1 r
    cases rx
    obtain ⟨its, r', pl, hz⟩ := J.list hs
    have hlen := r'.length
    refine call_tuple_list pl.isList (fun h' kp => ?_) (by
        simp only [List.size_toArray] <;> omega)
    have J1 : Inv X pins σ H { s with heap := h' } := J.kept (t' := s.toks) kp
    exact newT J1 r' (by omega) rl q
  | tuple ds =>
    cases hz
    obtain ⟨a, ob, vs, rfl, e, n, rl⟩ := lk.tup
    obtain ⟨u, rfl,
        rx⟩ := vals1 r
    cases rx
    obtain ⟨z1, its, r', l', tp⟩ := tupF J e
    exact call_tuple_same tp ⟨.ref a, H, J, rfl, q _ H (Grw.refl _) (.tup e n rl)⟩
  | _ => cases hz
/-- ints of data -/
def intsOf : List D → Option (List Int)
  | [] => some []
  | .int i :: ds => (intsOf ds).map (i :: ·)
  | _ :: _ => none
theorem intsOf_eq : ∀ {ds : List D} {ns : List Int}, intsOf ds = some ns → ds = ns.map PyData.int
  | [], ns, h => by cases h; rfl
  | d :: ds, ns, h => by
    cases d with
    | int i =>
      unfold intsOf at h
      cases e : intsOf ds with
      | none =>
          rw [e] at h; cases h
      | some ms =>
        rw [e] at h
        cases h
        rw [intsOf_eq e]
        rfl
    | _ => cases h
theorem rpl_ints : ∀ {ns : List Int} {vs : List V}, RpL H vs (ns.map PyData.int) → vs = ns.map V.int
  | [], _, h => by cases h; rfl
  | n :: ns, _, h => by
    cases h with
    | cons h1 h2 =>
      cases h1
      rw [rpl_ints h2]
      rfl
theorem intsOf_map (ns : List Int) : intsOf (ns.map PyData.int) = some ns := by
  induction ns with
  | nil => rfl
  | cons n ns ih =>
    show (intsOf (ns.map PyData.int)).map (n :: ·) = _
    rw [ih]
    rfl
def boolsOf : List D → Option (List Bool)
  | [] => some []
  | .bool i :: ds => (boolsOf ds).map (i :: ·)
  | _ :: _ => none
theorem boolsOf_eq : ∀ {ds : List D} {ns : List Bool}, boolsOf ds = some ns → ds = ns.map PyData.bool
  | [], ns, h => by cases h; rfl
  | d :: ds, ns, h => by
    cases d with
    | bool i =>
      unfold boolsOf at h
      cases e : boolsOf ds with
      | none =>
          rw [e] at h; cases h
      | some ms =>
        rw [e] at h
        cases h
        rw [boolsOf_eq e]
        rfl
    | _ => cases h
theorem rpl_bools : ∀ {ns : List Bool} {vs : List V}, RpL H vs (ns.map PyData.bool) → vs = ns.map V.bl
  | [], _, h => by cases h; rfl
  | n :: ns, _, h => by
    cases h with
    | cons h1 h2 =>
      cases h1
      rw [rpl_bools h2]
      rfl
theorem boolsOf_map (ns : List Bool) : boolsOf (ns.map PyData.bool) = some ns := by
  induction ns with
  | nil => rfl
  | cons n ns ih =>
    show (boolsOf (ns.map PyData.bool)).map (n :: ·) = _
    rw [ih]
    rfl
def allD : D → Option SV
  | .list xs => (boolsOf xs).map fun bs => B (bs.all id)
  | _ => none
def anyD : D → Option SV
  | .list xs => (boolsOf xs).map fun bs => B (bs.any id)
  | _ => none
theorem omap {α : Type} {o : Option α} {f : α → SV} {z : SV} (h : o.map f = some z) : ∃ x, o = some x ∧ f x = z := by
  cases o with
  | none => cases h
  | some x => exact ⟨x, rfl, Option.some.inj h⟩
theorem cd_all (hc : X.calm = true) : CallR X (.builtin "all") (r1 allD) := by
  rintro pins s σ H xs us Q J r ⟨v, d, z, rfl, lk, hz, q⟩
  cases d with
  | list ds =>
    obtain ⟨bs, hb, rfl⟩ := omap hz
    obtain ⟨a, vs, rfl, hs, rl⟩ := lk.list
    rw [boolsOf_eq hb] at rl
    rw [rpl_bools rl] at hs
    exact cr_all hc pins s σ H _ us Q J r ⟨a, bs, rfl, hs, q _ H (Grw.refl _) gok_bl⟩
  | _ => cases hz
theorem cd_any (hc : X.calm = true) : CallR X (.builtin "any") (r1 anyD) := by
  rintro pins s σ H xs us Q J r ⟨v, d, z, rfl, lk, hz, q⟩
  cases d with
  | list ds =>
    obtain ⟨bs, hb, rfl⟩ := omap hz
    obtain ⟨a, vs, rfl, hs, rl⟩ := lk.list
    rw [boolsOf_eq hb] at rl
    rw [rpl_bools rl] at hs
    exact cr_any hc pins s σ H _ us Q J r ⟨a, bs, rfl, hs, q _ H (Grw.refl _) gok_bl⟩
  | _ => cases hz
def sumD : D → Option SV
  | .list xs => (intsOf xs).map fun ns => Pu.I ns.sum
  | .tuple xs => (intsOf xs).map fun ns => Pu.I ns.sum
  | _ => none
theorem cd_sum (hc : X.calm = true) : CallR X (.builtin "sum") (r1 sumD) := by
  rintro pins s σ H xs us Q J r ⟨v, d, z, rfl, lk, hz, q⟩
  cases d with
  | list ds =>
    obtain ⟨ns, hb, rfl⟩ := omap hz
    obtain ⟨a, vs, rfl, hs, rl⟩ := lk.list
    rw [intsOf_eq hb] at rl
    rw [rpl_ints rl] at hs
    exact cr_sum hc pins s σ H _ us Q J r ⟨a, ns, rfl, hs, q _ H (Grw.refl _) gok_int⟩
  | tuple ds =>
    obtain ⟨ns, hb, rfl⟩ := omap hz
    obtain ⟨a, ob, vs, rfl, e, n, rl⟩ := lk.tup
    rw [intsOf_eq hb] at rl
    have ev := rpl_ints rl
    subst ev
    obtain ⟨u, rfl,
        rx⟩ := vals1 r
    cases rx
    obtain ⟨z1, its, r', l', tp⟩ := tupF J e
    have hi := r'.ints
    obtain ⟨ys, ey⟩ := hi.allInts.items
    have hn : numsOf (intItems ys).toList = ns := by rw [← ey]; exact hi.numsOf
    rw [nums_intItems] at hn
    rw [ey] at tp
    refine PySem.W.ktm_sumG (J.ok.hd hc) tp fun h' tk t' hk => ?_
    refine ⟨.int ns.sum, H, J.kept hk, ⟨t', ?_⟩, q _ H (Grw.refl _) gok_int⟩
    rw [preSum_eq, List.take_of_length_le
        (by simp), hn]
  | _ => cases hz
/-! min, max -/
def minL (x : D) (xs : List D) : D := xs.foldl (fun a y => if ltB y a = true then y else a) x
def maxL (x : D) (xs : List D) : D := xs.foldl (fun a y => if ltB a y = true then y else a) x
theorem minL_eq (x : D) (xs : List D) : minL x xs = PySem.W.minD x xs := by
  unfold minL PySem.W.minD
  congr 1
  funext a y
  rw [ltB_eq]
theorem maxL_eq (x : D) (xs : List D) : maxL x xs = PySem.W.maxD x xs := by
  unfold maxL PySem.W.maxD
  congr 1
  funext a y
  rw [ltB_eq]
def minMaxC (ds : List D) : Bool := allAlikeB ds && depthsB ds && ds.all fun d => match d with | .none => false | _ => true
theorem minMaxC_of {ds : List D} (h : minMaxC ds = true) : PySem.W.AlikeAll ds ∧ PyData.depthAll ds ≤ 50 := by
  unfold minMaxC at h
  rw [Bool.and_eq_true, Bool.and_eq_true] at h
  refine ⟨⟨allAlike_of h.1.1, fun x hx z => ?_⟩, ?_⟩
  · have := List.all_eq_true.mp h.2 x hx
    subst z
    cases this
  · have hd := depths_of h.1.2
    clear h
    induction ds with
    | nil => exact Nat.zero_le _
    | cons d ds ih =>
      rw [PyData.depthAll]
      exact Nat.max_le.mpr ⟨hd d List.mem_cons_self, ih fun x hx => hd x (List.mem_cons_of_mem _ hx)⟩
def minD : D → Option SV
  | .list (x :: xs) => if minMaxC (x :: xs) = true then some (.d (minL x xs)) else none
  | .tuple (x :: xs) => if minMaxC (x :: xs) = true then some (.d (minL x xs)) else none
  | _ => none
def maxD : D → Option SV
  | .list (x :: xs) => if minMaxC (x :: xs) = true then some (.d (maxL x xs)) else none
  | .tuple (x :: xs) => if minMaxC (x :: xs) = true then some (.d (maxL x xs)) else none
  | _ => none
/-- an item that reads as m is m -/
theorem item_is (J : Inv X pins σ H s) {vs : List V} {us : List Value} {ds : List D} {i : Nat} {u : Value} {m : D} {bs : List Addr} (r : Vals vs us) (rl : RpL H vs ds) (e : us.toArray[i]? = some u) (rd : Reads s.heap u m bs) : ∃ v, RelV v u ∧ Rp H v m := by
  have e' : us[i]? = some u := by simpa using e
  have hlt : i < vs.length := by rw [r.length]; exact (List.getElem?_eq_some_iff.mp e').1
  obtain ⟨u', hu, ru⟩ := r.get (i := i) (x := vs[i]) (by simp [hlt])
  rw [e'] at hu
  cases hu
  obtain ⟨d, hd, hr⟩ := rl.getV (i := i) (v := vs[i]) (by simp [hlt])
  obtain ⟨as, rd'⟩ := hr.reads J ru
  have em : d = m := SeqAt.plain_unique d m u as bs hr.plain rd' rd
  subst em
  exact ⟨_, ru, hr⟩
theorem list_reads (J : Inv X pins σ H s) {vs : List V} {us : List Value} {ds : List D} (r : Vals vs us) (rl : RpL H vs ds) : ∃ as, ReadsAll s.heap us ds as := Dp.readsAll J ds vs us (RpL.dp ds vs rl) r
theorem cd_min (hc : X.calm = true) (hu : X.A.units + 64 < cLine) : CallR X (.builtin "min") (r1 minD) := by
  rintro pins s σ H xs us Q J r ⟨v, d, z, rfl, lk, hz, q⟩
  cases d with
  | list ds =>
    cases ds with
    | nil => cases hz
    | cons x ds =>
      obtain ⟨hm, rfl⟩ := if_some (show (if minMaxC (x :: ds) = true then some (SV.d (minL x ds)) else none) = some z from hz)
      obtain ⟨h1, h2⟩ := minMaxC_of hm
      obtain ⟨a, vs, rfl, hs, rl⟩ := lk.list
      obtain ⟨u, rfl,
          rx⟩ := vals1 r
      cases rx
      obtain ⟨its, rv, pl, _⟩ := J.list hs
      obtain ⟨as, rd⟩ := list_reads J rv rl
      refine PySem.W.min_list_data (J.ok.hd hc) pl.isList rd h1 (by omega) fun i u h' tk bs ei ru hk => ?_
      have J1 : Inv X pins σ H { s with heap := h', toks := tk } := J.kept hk
      obtain ⟨w, rw', rp⟩ := item_is J1 rv rl ei ru
      exact ⟨w, H, J1, rw', q w H (Grw.refl _) (by rw [minL_eq]; exact rp)⟩
  | tuple ds =>
    cases ds with
    | nil => cases hz
    | cons x ds =>
      obtain ⟨hm, rfl⟩ := if_some (show (if minMaxC (x :: ds) = true then some (SV.d (minL x ds)) else none) = some z from hz)
      obtain ⟨h1, h2⟩ := minMaxC_of hm
      obtain ⟨a, ob, vs, rfl, e, n, rl⟩ := lk.tup
      obtain ⟨u, rfl,
          rx⟩ := vals1 r
      cases rx
      obtain ⟨z1, its, rv, l', tp⟩ := tupF J e
      obtain ⟨as, rd⟩ := list_reads J rv rl
      refine PySem.W.min_tuple_data (J.ok.hd hc) tp rd h1 (by omega) fun i u h' tk bs ei ru hk => ?_
      have J1 : Inv X pins σ H { s with heap := h', toks := tk } := J.kept hk
      obtain ⟨w, rw', rp⟩ := item_is J1 rv rl ei ru
      exact ⟨w, H, J1, rw', q w H (Grw.refl _) (by rw [minL_eq]; exact rp)⟩
  | _ => cases hz
theorem cd_max (hc : X.calm = true) (hu : X.A.units + 64 < cLine) : CallR X (.builtin "max") (r1 maxD) := by
  rintro pins s σ H xs us Q J r ⟨v, d, z, rfl, lk, hz, q⟩
  cases d with
  | list ds =>
    cases ds with
    | nil => cases hz
    | cons x ds =>
      obtain ⟨hm, rfl⟩ := if_some (show (if minMaxC (x :: ds) = true then some (SV.d (maxL x ds)) else none) = some z from hz)
      obtain ⟨h1, h2⟩ := minMaxC_of hm
      obtain ⟨a, vs, rfl, hs, rl⟩ := lk.list
      obtain ⟨u, rfl,
          rx⟩ := vals1 r
      cases rx
      obtain ⟨its, rv, pl, _⟩ := J.list hs
      obtain ⟨as, rd⟩ := list_reads J rv rl
      refine PySem.W.max_list_data (J.ok.hd hc) pl.isList rd h1 (by omega) fun i u h' tk bs ei ru hk => ?_
      have J1 : Inv X pins σ H { s with heap := h', toks := tk } := J.kept hk
      obtain ⟨w, rw', rp⟩ := item_is J1 rv rl ei ru
      exact ⟨w, H, J1, rw', q w H (Grw.refl _) (by rw [maxL_eq]; exact rp)⟩
  | tuple ds =>
    cases ds with
    | nil => cases hz
    | cons x ds =>
      obtain ⟨hm, rfl⟩ := if_some (show (if minMaxC (x :: ds) = true then some (SV.d (maxL x ds)) else none) = some z from hz)
      obtain ⟨h1, h2⟩ := minMaxC_of hm
      obtain ⟨a, ob, vs, rfl, e, n, rl⟩ := lk.tup
      obtain ⟨u, rfl,
          rx⟩ := vals1 r
      cases rx
      obtain ⟨z1, its, rv, l', tp⟩ := tupF J e
      obtain ⟨as, rd⟩ := list_reads J rv rl
      refine PySem.W.max_tuple_data (J.ok.hd hc) tp rd h1 (by omega) fun i u h' tk bs ei ru hk => ?_
      have J1 : Inv X pins σ H { s with heap := h', toks := tk } := J.kept hk
      obtain ⟨w, rw', rp⟩ := item_is J1 rv rl ei ru
      exact ⟨w, H, J1, rw', q w H (Grw.refl _) (by rw [maxL_eq]; exact rp)⟩
  | _ => cases hz
def min2D : List D → Option SV
  | [.int i, .int j] => some (Pu.I (if j < i then j else i))
  | _ => none
def max2D : List D → Option SV
  | [.int i, .int j] => some (Pu.I (if j > i then j else i))
  | _ => none
theorem two_ints {g : Int → Int → Option SV} {ds : List D} {vs : List V} {z : SV} (f : List D → Option SV) (hf : ∀ ds z, f ds = some z → ∃ i j, ds = [.int i, .int j] ∧ g i j = some z) (r : RpL H vs ds) (h : f ds = some z) : ∃ i j, vs = [.int i, .int j] ∧ g i j = some z := by
  obtain ⟨i, j, rfl, e⟩ := hf ds z h
  have := rpl_ints (ns := [i, j]) r
  exact ⟨i, j, this, e⟩
theorem min2D_inv (ds : List D) (z : SV) (h : min2D ds = some z) : ∃ i j, ds = [.int i, .int j] ∧ some (Pu.I (if j < i then j else i)) = some z := by
  unfold min2D at h
  split at h
  · exact ⟨_, _, rfl, h⟩
  · cases h
theorem max2D_inv (ds : List D) (z : SV) (h : max2D ds = some z) : ∃ i j, ds = [.int i, .int j] ∧ some (Pu.I (if j > i then j else i)) = some z := by
  unfold max2D at h
  split at h
  · exact ⟨_, _, rfl, h⟩
  · cases h
theorem cd_min2 (hc : X.calm = true) : CallR X (.builtin "min") (rN min2D) := by
  rintro pins s σ H xs us Q J r ⟨ds, z, rl, hz, q⟩
  obtain ⟨i, j, rfl, e⟩ := two_ints min2D min2D_inv rl hz
  cases e
  exact call_min2 hc pins s σ H _ us Q J r ⟨i, j, rfl, q _ H (Grw.refl _) gok_int⟩
theorem cd_max2 (hc : X.calm = true) : CallR X (.builtin "max") (rN max2D) := by
  rintro pins s σ H xs us Q J r ⟨ds, z, rl, hz, q⟩
  obtain ⟨i, j, rfl, e⟩ := two_ints max2D max2D_inv rl hz
  cases e
  exact call_max2 hc pins s σ H _ us Q J r ⟨i, j, rfl, q _ H (Grw.refl _) gok_int⟩
/-! sorted -/
theorem cd_sorted (hu : X.A.units + 64 < cLine) : CallR X (.builtin "sorted") (r1 sortedD) := by
  rintro pins s σ H xs us Q J r ⟨v, d, z, rfl, lk, hz, q⟩
  have fin : ∀ {its : List Value} {vs : List V} {ds : List D} (rv : Vals vs its) (rl : RpL H vs ds) (out : List Value), PySem.W.AllAlike ds → its.length ≤ sizeLine → out.length = ((vs.zip ds)).length → PySem.W.EachIs (fun u (p : V × D) => RelV p.1 u ∧ Rp H p.1 p.2) out ((vs.zip ds).mergeSort (PySem.W.dataLe false Prod.snd)) →
      (∀ w H', Grw H H' → GOk H H' w (.own none (.lst (srtD ds))) → Q w H') → EP X pins σ Q (.ref (s.heap.objs.size + 1)) { s with heap := sortedAll s.heap its (List.toArray out) } := by
    intro its vs ds rv rl out hal hz ho he q
    obtain ⟨a1, a2, a3, a4⟩ := each_pairs J rv rl
    obtain ⟨o1, o2⟩ := each_out he
    have hs : ((vs.zip ds).mergeSort (PySem.W.dataLe false Prod.snd)).map Prod.snd = srtD ds := by
      rw [sorted_snd (by rw [a3]; exact hal), a3]
    rw [hs] at o2
    obtain ⟨n, hn⟩ := PyProof.Rows.sortedAll_at s.heap its out.toArray
    exact newL (n := n) (tk := s.toks) J o1 (by rw [ho, a4]; exact hz) o2 (Nat.le_succ _) (fun _ _ => PyProof.Rows.sortedAll_old) hn q
  cases d with
  | list ds =>
    obtain ⟨hm, rfl⟩ := if_some (show (if (allAlikeB ds && sortableB ds && depthsB ds) = true then some (SV.own none (.lst (srtD ds))) else none) = some z from hz)
    rw [Bool.and_eq_true, Bool.and_eq_true] at hm
    obtain ⟨a, vs, rfl, hs, rl⟩ := lk.list
    obtain ⟨u, rfl,
        rx⟩ := vals1 r
    cases rx
    obtain ⟨its, rv, pl, hz⟩ := J.list hs
    obtain ⟨a1, a2, a3, a4⟩ := each_pairs J rv rl
    have hlen := rv.length
    refine PySem.W.sorted_data pl.isList a1 a2 (by rw [a3]; exact allAlike_of hm.1.1) (by rw [a3]; exact sortable_of hm.1.2) (by rw [a4]; omega) (fun b hb => ?_) fun out ho he => fin rv rl out (allAlike_of hm.1.1) (by omega) ho he q
    have := depths_of hm.2 b.2 (by rw [← a3]; exact List.mem_map.mpr ⟨b, hb, rfl⟩)
    omega
  | tuple ds =>
    obtain ⟨hm, rfl⟩ := if_some (show (if (allAlikeB ds && sortableB ds && depthsB ds) = true then some (SV.own none (.lst (srtD ds))) else none) = some z from hz)
    rw [Bool.and_eq_true, Bool.and_eq_true] at hm
    obtain ⟨a, ob, vs, rfl, e, n, rl⟩ := lk.tup
    obtain ⟨u, rfl,
        rx⟩ := vals1 r
    cases rx
    obtain ⟨z1, its, rv, l', tp⟩ := tupF J e
    obtain ⟨a1, a2, a3, a4⟩ := each_pairs J rv rl
    refine sortedT_data tp a1 a2 (by rw [a3]; exact allAlike_of hm.1.1) (by rw [a3]; exact sortable_of hm.1.2) (by rw [a4]; omega) (fun b hb => ?_) fun out ho he => fin rv rl out (allAlike_of hm.1.1) (by omega) ho he q
    have := depths_of hm.2 b.2 (by rw [← a3]; exact List.mem_map.mpr ⟨b, hb, rfl⟩)
    omega
  | _ => cases hz
end
end Pu
/-! Pu9 -/
set_option maxRecDepth 100000
namespace Pu
open PySem PySem.Spec
    PyProof.Rows L2
section
variable {T : List (Addr × Str)} {S : List Addr} {H0 H H' : Hp} {σ : L2.St} {ρ ρ' : Ev} {X : Cx} {W : XK} {e a b c o : Expr} {pos p apos cpos : Pos} {pins : List (Addr × Obj)} {s : Shared}
/-! isinstance -/
inductive Ty5 where
  | int | bool | tuple | list | str
def Ty5.nm : Ty5 → String
  | .int => "int"
  | .bool => "bool"
  | .tuple => "tuple"
  | .list => "list"
  | .str => "str"
def Ty5.is : Ty5 → D → Bool
  | .int, d => d.isInt
  | .bool, d => d.isBool
  | .tuple, d => d.isTuple
  | .list, d => d.isList
  | .str, d => d.isStr
def fIsi (t : Ty5) (f : Ev → R D) : Ev → R SV := fun ρ => (f ρ).bind fun d ρ => .ok (B (t.is d)) ρ
theorem cd_isi (t : Ty5) : CallR X (.builtin "isinstance") (fun vs H Q => ∃ v d, vs = [v, .ty t.nm] ∧ Rp H v d ∧ Q (.bl (t.is d)) H) := by
  rintro pins s σ H xs us Q J r ⟨v, d, rfl, h, q⟩
  obtain ⟨u, w, rfl, r1, r2⟩ := vals2 r
  cases (show w = Value.type t.nm from r2)
  obtain ⟨as, rd⟩ := h.reads J r1
  have fin : ∀ tk, s.toks ≤ tk → EP X pins σ Q (.bool (t.is d)) { s with toks := tk } := fun tk _ => ⟨.bl _, H, J.tok tk, rfl, q⟩
  cases t with
  | int => exact PySem.W.isinstance_int_data rd fin
  | bool => exact PySem.W.isinstance_bool_data rd fin
  | tuple => exact PySem.W.isinstance_tuple_data rd fin
  | list => exact PySem.W.isinstance_list_data rd fin
  | str => exact PySem.W.isinstance_str_data rd fin
theorem pp_isi (t : Ty5) {n : Str} {p2 : Pos} {f : Ev → R D} (k : BK X "isinstance" (.builtin "isinstance")) (k2 : BK X n (.type t.nm)) (ha : PD X T W e f) (hn : n ≠ "__name__" := by decide) (hdb : (n == ("__debug__" : Str)) = false := by decide)
    (he : starEach [e, .Name n p2] X.env = (false, eval e X.env) :: starEach [.Name n p2] X.env := by rfl) (he2 : starEach [.Name n p2] X.env = (false, eval (.Name n p2) X.env) :: starEach [] X.env := by rfl) (hpl : (backTo pos (starEach [.Name n p2] X.env)).any (·.1) = false := by rfl) :
    PP X T W (.Call (.Name "isinstance" p) [e, .Name n p2] [] pos) (fIsi t f) := by
  obtain ⟨hg, hm, hv, _⟩ := k2
  refine weakE (pe_callBT k (cd_isi t) (pa_cons ha (pa_cons (pe_bltn (v := .ty t.nm) (pos := p2) hg hm hv rfl hn hdb) pa_nil he2) he) (by decide) (by decide) he hpl) ?_
  rintro σ H Q ⟨S, H0, ρ, R, q⟩
  refine bindD R q fun d ρ1 v H1 R1 s1 r1 q => ?_
  exact ⟨v, d, rfl, r1, q _ H1 R1 s1 (.bl _) trivial⟩
/-! xs.index(x) -/
def indexD : D → D → Option SV
  | .list xs, d => if d.depth ≤ 50 ∧ true ∈ xs.map (fun y => PyData.eqv y d) then some (I (((xs.map fun y => PyData.eqv y d).idxOf true : Nat) : Int)) else none
  | .tuple xs, d => if d.depth ≤ 50 ∧ true ∈ xs.map (fun y => PyData.eqv y d) then some (I (((xs.map fun y => PyData.eqv y d).idxOf true : Nat) : Int)) else none
  | _, _ => none
theorem items_eq {A : Around} (J : Inv X pins σ H s) {vs : List V} {us : List Value} {ds : List D} {v : V} {u : Value} {d : D} (r : Vals vs us) (rl : RpL H vs ds) (h : Rp H v d) (ru : RelV v u) (hd : d.depth ≤ 50) (hu : A.units + 60 < cLine) : SeqAt.ItemsEq A s us (ds.map fun y => PyData.eqv y d) u true := by
  refine ⟨by rw [List.length_map, ← rl.length, r.length], fun j h1 h2 => ?_⟩
  have hj : j < ds.length := by rw [← rl.length, r.length]; exact h1
  obtain ⟨x, hx, rx⟩ := rl.get (i := j) (d := ds[j]) (by simp [hj])
  obtain ⟨w, hw, rw'⟩ := r.get hx
  have e : us[j] = w := by
    rw [List.getElem?_eq_getElem h1] at hw
    exact Option.some.inj hw
  rw [e]
  obtain ⟨as, ra⟩ := rx.reads J rw'
  obtain ⟨bs, rb⟩ := h.reads J ru
  have q := SeqAt.eqAt_plain ds[j] d A s w u as bs ra rb rx.plain h.plain (by have := Nat.min_le_right ds[j].depth d.depth; omega)
  have eb : decide ((ds.map fun y => PyData.eqv y d)[j] = true) = PyData.eqv ds[j] d := by
    rw [List.getElem_map]
    cases PyData.eqv ds[j] d <;> rfl
  rw [eb]
  exact q
/-- a list; a tuple -/
def knd : D → Option Bool
  | .list _ => some true
  | .tuple _ => some false
  | _ => none
theorem pe_index {to te : TE} (hu : X.A.units + 64 < cLine) (ho : PE X o to) (ha : PE X e te)
    (hbase : attributeBase o (Str.ofString "index") X.env (eval o X.env) = eval o X.env := by rfl)
    (hfew : ((backTo cpos (starEach [e] X.env)).all (fun x => !x.1) &&
        (backToKw cpos (keywordEach [] X.env)).all (fun x => x.1.isSome)
        && decide ([e].length + ([] : List Keyword).length + (if ([] : List
            Keyword).isEmpty then 0 else 1) < 30)) = true := by rfl)
    (hline : (apos.endLine == cpos.line) = true := by rfl) (hs : starEach [e] X.env = (false, eval e X.env) :: starEach [] X.env := by rfl)
    (hplain : (backTo cpos (starEach []
        X.env)).any (·.1) = false := by rfl) :
    PE X (.Call (.Attribute o "index" apos) [e] [] cpos) (fun σ H Q => to σ H fun x H1 => ∃ k, (∃ d, Lk H1 x d ∧ knd d = some k) ∧ te σ H1 fun y H2 => ∃ d e z, Lk H2 x d ∧ knd d = some k ∧ Rp H2 y e ∧ indexD d e = some z ∧ ∀ w, GOk H2 H2 w z → Q w H2) := by
  constructor
  intro pins s σ H Q J h
  refine wpAny_Call_method_late hbase hfew hline rfl (thn (ho.run pins s σ H _ J h) ?_)
  rintro v s1 ⟨x, H1, J1, rx, kk, ⟨d1, lk1, sq⟩, q1⟩
  have hA := (pa_cons ha pa_nil hs).run cpos pins s1 σ H1 (fun vs H2 => match vs with
    | [y] => ∃ d e z, Lk H2 x d ∧ knd d = some kk ∧ Rp H2 y e ∧ indexD d e = some z ∧ ∀ w, GOk H2 H2 w z → Q w H2
    | _ => False) J1 q1
  have fin : ∀ (id : String), (∀ s2 H2 y u, Inv X pins σ H2 s2 → RelV y u → (∃ d e z, Lk H2 x d ∧ knd d = some kk ∧ Rp H2 y e ∧ indexD d e = some z ∧ ∀ w, GOk H2 H2 w z → Q w H2) → wpAny (model X.prog X.w) X.A (call (.builtin id) [v, u]) (EP X pins σ Q) X.xe s2) →
      wpAny (model X.prog X.w) X.A (callWith cpos (.builtin id) [v] (backTo cpos (starEach [e] X.env)) (backToKw cpos (keywordEach [] X.env))) (EP X pins σ Q) X.xe s1 := by
    intro id hk
    rw [hs] at hA ⊢
    refine Calls.callWith_builtin ?_ (Calls.evalArgs_plain ?_)
    · show (false || (backTo cpos (starEach [] X.env)).any (·.1)) = false
      rw [hplain]
      rfl
    · refine thn hA ?_
      rintro us s2 ⟨vs, H2, J2, r2, q2⟩
      cases r2 with
      | nil => exact q2.elim
      | cons ry rr =>
        cases rr with
        | nil => exact hk s2 H2 _ _ J2 ry q2
        | cons a b => exact q2.elim
  have core : ∀ {s2 : Shared} {H2 : Hp} {y : V} {u : Value} {its : List Value} {vs : List V} {ds : List D} {d : D}, Inv X pins σ H2 s2 → RelV y u → Vals vs its → RpL H2 vs ds → Rp H2 y d → d.depth ≤ 50 → SeqAt.ItemsEq X.A.in1 s2 its (ds.map fun y => PyData.eqv y d) u true := by
    intro s2 H2 y u its vs ds d J2 ry rv rl h hd
    exact items_eq J2 rv rl h ry hd (by show X.A.units + 1 + 60 < cLine; omega)
  have idx : ∀ {ds : List D} {d : D} {z : SV}, (if d.depth ≤ 50 ∧ true ∈ ds.map (fun y => PyData.eqv y d) then some (Pu.I (((ds.map fun y => PyData.eqv y d).idxOf true : Nat) : Int)) else none) = some z → (d.depth ≤ 50 ∧ true ∈ ds.map (fun y => PyData.eqv y d)) ∧ Pu.I (((ds.map fun y => PyData.eqv y d).idxOf true : Nat) : Int) = z := if_some
  cases kk with
  | true =>
    have isl : ∀ {H : Hp} {d : D}, knd d = some true → Lk H x d → ∃ ds, d = .list ds := fun {H d} h lk => by
      cases d with
      | list ds => exact ⟨ds, rfl⟩
      | _ => cases h
    obtain ⟨ds1, rfl⟩ := isl sq lk1
    obtain ⟨a, vs, rfl, hs1, rl⟩ := lk1.list (K := X.K)
    cases rx
    obtain ⟨its, rv, ⟨ob, n, eo, c1, c2, c3⟩, z1⟩ := J1.list hs1
    refine ⟨"list", "list.index", PySem.F.plainAttrs_list, PySem.F.slot_list_index, PySem.F.type_list_index, ⟨ob, eo, c1⟩, fun b z => ?_, fin _ ?_⟩
    · cases z
      exact ⟨ob, eo, c2⟩
    · rintro s2 H2 y u J2 ry ⟨d, d2, z, lk, hk, hd, hz, q⟩
      obtain ⟨ds, rfl⟩ := isl hk lk
      obtain ⟨a, vs, e, hs2, rl⟩ := lk.list (K := X.K)
      cases e
      obtain ⟨its, rv, pl, z1⟩ := J2.list hs2
      obtain ⟨⟨h1, h2⟩, rfl⟩ := idx hz
      refine SeqAt.call_list_index pl.isList (core J2 ry rv rl hd h1) (by rw [List.length_map, ← rl.length]; exact z1) h2 ?_
      exact ⟨.int _, H2, J2.tok _, ⟨_, rfl⟩, q _ gok_int⟩
  | false =>
    have isl : ∀ {H : Hp} {d : D}, knd d = some false → Lk H x d → ∃ ds, d = .tuple ds := fun {H d} h lk => by
      cases d with
      | tuple ds => exact ⟨ds, rfl⟩
      | _ => cases h
    obtain ⟨ds1, rfl⟩ := isl sq lk1
    obtain ⟨a, ob, vs, rfl, e1, nd, rl⟩ := lk1.tup
    cases rx
    obtain ⟨eo, z, its, r, ob', e2, c, n, d⟩ := J1.hok a _ e1
    rw [eo] at e2
    cases e2
    refine ⟨"tuple", "tuple.index", PySem.F.plainAttrs_tuple, PySem.F.slot_tuple_index, PySem.F.type_tuple_index, ⟨ob, eo, c⟩, fun b z => ?_, fin _ ?_⟩
    · cases z
      exact ⟨ob, eo, nd⟩
    · rintro s2 H2 y u J2 ry ⟨d, d2, z, lk, hk, hd, hz, q⟩
      obtain ⟨ds, rfl⟩ := isl hk lk
      obtain ⟨a, ob, vs, e, e1, nd, rl⟩ := lk.tup
      cases e
      obtain ⟨z1, its, rv, l', tp⟩ := tupF J2 e1
      obtain ⟨⟨h1, h2⟩, rfl⟩ := idx hz
      refine SeqAt.call_tuple_index tp (core J2 ry rv rl hd h1) h2 ?_
      exact ⟨.int _, H2, J2.tok _, ⟨_, rfl⟩, q _ gok_int⟩
def fIdx (f g : Ev → R D) : Ev → R SV := fun ρ => (f ρ).bind fun d ρ => (opt (knd d) ρ).bind fun _ ρ => (g ρ).bind fun e ρ => opt (indexD d e) ρ
theorem pp_index {f g : Ev → R D} (hu : X.A.units + 64 < cLine) (ho : PD X T W o f) (ha : PD X T W e g)
    (hbase : attributeBase o (Str.ofString "index") X.env (eval o X.env) = eval o X.env := by rfl)
    (hfew : ((backTo cpos (starEach [e] X.env)).all (fun x => !x.1) &&
        (backToKw cpos (keywordEach [] X.env)).all (fun x => x.1.isSome)
        && decide ([e].length + ([] : List Keyword).length + (if ([] : List
            Keyword).isEmpty then 0 else 1) < 30)) = true := by rfl)
    (hline : (apos.endLine == cpos.line) = true := by rfl) (hs : starEach [e] X.env = (false, eval e X.env) :: starEach [] X.env := by rfl)
    (hplain : (backTo cpos (starEach [] X.env)).any (·.1) = false := by rfl) : PP X T W (.Call (.Attribute o "index" apos) [e] [] cpos) (fIdx f g) := by
  refine weakE (pe_index hu ho ha hbase hfew hline hs hplain) ?_
  rintro σ H Q ⟨S, H0, ρ, R, q⟩
  refine bindD R q fun d ρ1 v H1 R1 s1 r1 q => ?_
  obtain ⟨k, hk, q⟩ := opt_some (PstG.bind q)
  refine ⟨k, ⟨d, .d r1, hk⟩, bindD R1 q fun d2 ρ2 v2 H2 R2 s2 r2 q => ?_⟩
  obtain ⟨z, hz, q⟩ := opt_some q
  exact ⟨d, d2, z, .d (r1.k (s2.fz R1)), hk, r2, hz, fun w go => go.fin (Grw.refl _) R2 (s1.trans s2) q⟩
def fIdxO (i : Nat) (g : Ev → R D) : Ev → R SV := fun ρ => (opt (peekAt ρ i) ρ).bind fun d0 ρ => (opt (knd d0) ρ).bind fun k0 ρ => (g ρ).bind fun e ρ => (opt (peekAt ρ i) ρ).bind fun d ρ => (opt (knd d) ρ).bind fun k ρ => if k = k0 then opt (indexD d e) ρ else .no
theorem pp_indexO {i : Nat} {x : Str} {g : Ev → R D} (hu : X.A.units + 64 < cLine) (hN : X.N[i]? = some x) (hv : Vis X.env.scope x) (ha : PD X T W e g) (hd : (x == ("__debug__" : Str)) = false := by decide) (hcd : (x == ("__classdict__" : Str)) = false := by decide)
    (hbase : attributeBase (.Name x p) (Str.ofString "index") X.env (eval (.Name x p) X.env) = eval (.Name x p) X.env := by rfl)
    (hfew : ((backTo cpos (starEach [e] X.env)).all (fun x => !x.1) &&
        (backToKw cpos (keywordEach [] X.env)).all (fun x => x.1.isSome)
        && decide ([e].length + ([] : List Keyword).length + (if ([] : List
            Keyword).isEmpty then 0 else 1) < 30)) = true := by rfl)
    (hline : (apos.endLine == cpos.line) = true := by rfl) (hs : starEach [e] X.env = (false, eval e X.env) :: starEach [] X.env := by rfl)
    (hplain : (backTo cpos (starEach [] X.env)).any (·.1) = false := by rfl) : PP X T W (.Call (.Attribute (.Name x p) "index" apos) [e] [] cpos) (fIdxO i g) := by
  refine weakE (pe_index hu (pe_var hN hv hd hcd) ha hbase hfew hline hs hplain) ?_
  rintro σ H Q ⟨S, H0, ρ, R, q⟩
  obtain ⟨d0, hd0, q⟩ := opt_some (PstG.bind q)
  obtain ⟨k, hk, q⟩ := opt_some (PstG.bind q)
  obtain ⟨v, e0, lk⟩ := peekAt_of R hd0
  refine ⟨v, e0, k, ⟨d0, lk, hk⟩, bindD R q fun d2 ρ2 v2 H2 R2 s2 r2 q => ?_⟩
  obtain ⟨d, hd, q⟩ := opt_some (PstG.bind q)
  obtain ⟨k2, hk2, q⟩ := opt_some (PstG.bind q)
  obtain ⟨ek, q2⟩ := ite_ok q
  subst ek
  obtain ⟨z, hz, q3⟩ := opt_some q2
  obtain ⟨v', e1, lk'⟩ := peekAt_of R2 hd
  rw [e0] at e1
  cases e1
  exact ⟨d, d2, z, lk', hk2, r2, hz, fun w go => go.fin (Grw.refl _) R2 s2 q3⟩
end
end Pu
/-! PuT -/
set_option maxRecDepth 100000
namespace Pu
open PySem PySem.Spec
    PyProof.Rows L2
/-- what a statement comes to -/
inductive SR where
  | nx (ρ : Ev)
  | rt (r : SV) (ρ : Ev)
  | bk (ρ : Ev)
  | ct (ρ : Ev)
  | er (e : Er)
  | no
section
variable {T : List (Addr × Str)} {S : List Addr} {H0 H H' H1 : Hp} {σ : L2.St} {ρ ρ' ρ1 : Ev} {X : Cx} {W : XK} {e a b c : Expr} {pos p : Pos} {mg : Str → Option Value}
/-- what is wanted behind
    a statement -/
def PstS (mg : Str → Option Value) (T : List (Addr × Str)) (W : XK) (S : List Addr) (H0 H : Hp) (Dn : Ends) : SR → Prop
  | .nx ρ' => ∀ σ' H', RS T S H0 H' σ' ρ' → FzS H H' → Dn.nx σ' H'
  | .rt r ρ' => ∀ σ' v H', RS T S H0 H' σ' ρ' → FzS H H' → VOk S H0 H' σ' ρ' v r → Dn.rt v H'
  | .bk ρ' => ∀ σ' H', RS T S H0 H' σ' ρ' → FzS H H' → Dn.bk σ' H'
  | .ct ρ' => ∀ σ' H', RS T S H0 H' σ' ρ' → FzS H H' → Dn.ct σ' H'
  | .er e => ∀ C d H', Frm S H0 H' → LamX.Tabs T H' → ErIs mg e C d H' → W (.ref C) d H'
  | .no => False
def tS (mg : Str → Option Value) (T : List (Addr × Str)) (W : XK) (f : Ev → SR) : TS := fun Dn σ H => ∃ S H0 ρ, RS T S H0 H σ ρ ∧ PstS mg T W S H0 H Dn (f ρ)
abbrev PSp (X : Cx) (T : List (Addr × Str)) (W : XK) (st : Stmt) (f : Ev → SR) : Prop := PS X st (tS X.mg T W f)
abbrev PBp (X : Cx) (T : List (Addr × Str)) (W : XK) (b : List Stmt) (f : Ev → SR) : Prop := PSs X b (tS X.mg T W f)
theorem weakSt {st : Stmt} {t t' : TS} (h : PS X st t) (w : ∀ Dn σ H, t' Dn σ H → t Dn σ H) : PS X st t' := ⟨fun pins s σ H Dn I q => h.run pins s σ H Dn I (w _ _ _ q)⟩
theorem weakSs {st : List Stmt} {t t' : TS} (h : PSs X st t) (w : ∀ Dn σ H, t' Dn σ H → t Dn σ H) : PSs X st t' := ⟨fun pins s σ H Dn I q => h.run pins s σ H Dn I (w _ _ _ q)⟩
theorem PstS.step {x : SR} {Dn : Ends} (q : PstS mg T W S H0 H Dn x) (k : FzS H H1) : PstS mg T W S H0 H1 Dn x := by
  cases x with
  | nx ρ => exact fun σ' H' R f => q σ' H' R (k.trans f)
  | rt r ρ => exact fun σ' v H' R f => q σ' v H' R (k.trans f)
  | bk ρ => exact fun σ' H' R f => q σ' H' R (k.trans f)
  | ct ρ => exact fun σ' H' R f => q σ' H' R (k.trans f)
  | er e => exact q
  | no => exact q
theorem PstS.mono {x : SR} {Dn Dn' : Ends} (q : PstS mg T W S H0 H Dn x) (hn : ∀ σ' H', FzS H H' → Dn.nx σ' H' → Dn'.nx σ' H') (hr : ∀ v H', Dn.rt v H' → Dn'.rt v H') (hb : ∀ σ' H', Dn.bk σ' H' → Dn'.bk σ' H') (hc : ∀ σ' H', Dn.ct σ' H' → Dn'.ct σ' H') : PstS mg T W S H0 H Dn' x := by
  cases x with
  | nx ρ => exact fun σ' H' R f => hn _ _ f (q σ' H' R f)
  | rt r ρ => exact fun σ' v H' R f k => hr _ _ (q σ' v H' R f k)
  | bk ρ => exact fun σ' H' R f => hb _ _ (q σ' H' R f)
  | ct ρ => exact fun σ' H' R f => hc _ _ (q σ' H' R f)
  | er e => exact q
  | no => exact q
/-! one after another -/
def fSeq (f g : Ev → SR) : Ev → SR := fun ρ => match f ρ with
  | .nx ρ' => g ρ'
  | x => x
def fNx : Ev → SR := fun ρ => .nx ρ
theorem pb_nil : PBp X T W [] fNx := weakSs pss_nil fun Dn σ H ⟨S, H0, ρ, R, q⟩ => q σ H R (FzS.refl H)
theorem pb_one {st : Stmt} {f : Ev → SR} (h : PSp X T W st f) : PBp X T W [st] f := pss_one h
theorem tSeq_of {f g : Ev → SR} {Dn : Ends} (h : tS mg T W (fSeq f g) Dn σ H) : tSeq (tS mg T W f) (tS mg T W g) Dn σ H := by
  obtain ⟨S, H0, ρ, R, q⟩ := h
  refine ⟨S, H0, ρ, R, ?_⟩
  unfold fSeq at q
  cases e : f ρ with
  | nx ρ' =>
    rw [e] at q
    intro σ' H' R' k
    exact ⟨S, H0, ρ', R', PstS.step q k⟩
  | rt r ρ' => rw [e] at q; exact q
  | bk ρ' => rw [e] at q; exact q
  | ct ρ' => rw [e] at q; exact q
  | er z => rw [e] at q; exact q
  | no => rw [e] at q; exact q
theorem pb_cons {st : Stmt} {rest : List Stmt} {f g : Ev → SR} (h : PSp X T W st f) (k : PBp X T W rest g) : PBp X T W (st :: rest) (fSeq f g) := weakSs (pss_cons h k) fun _ _ _ q => tSeq_of q
/-! expressions in statements -/
def R.toS {α : Type} (x : R α) (k : α → Ev → SR) : SR := match x with
  | .ok a ρ => k a ρ
  | .er e => .er e
  | .no => .no
theorem PstS.of {α : Type} {x : R α} {k : α → Ev → SR} {Dn : Ends} (q : PstS mg T W S H0 H Dn (x.toS k)) : PstG mg T W S H0 (fun a ρ1 => PstS mg T W S H0 H Dn (k a ρ1)) x := by
  cases x with
  | ok a ρ1 => exact q
  | er e => exact q
  | no => exact q
theorem stP {f : Ev → R SV} {g : SV → Ev → SR} {Dn : Ends} {K : VK} (R : RS T S H0 H σ ρ) (q : PstS mg T W S H0 H Dn ((f ρ).toS g))
    (k : ∀ y ρ1 v H1, RS T S H0 H1 σ ρ1 → Stp σ ρ ρ1 H H1 → VOk S H0 H1 σ ρ1 v y → NewV H σ ρ v y → PstS mg T W S H0 H1 Dn (g y ρ1) → K v H1) : tP mg T W f σ H K :=
  ⟨S, H0, ρ, R, q.of.mono fun y ρ1 z v H1 R1 s1 r1 n1 => k y ρ1 v H1 R1 s1 r1 n1 (PstS.step z (s1.fz R))⟩
theorem stD {f : Ev → R D} {g : D → Ev → SR} {Dn : Ends} {K : VK} (R : RS T S H0 H σ ρ) (q : PstS mg T W S H0 H Dn ((f ρ).toS g))
    (k : ∀ y ρ1 v H1, RS T S H0 H1 σ ρ1 → Stp σ ρ ρ1 H H1 → Rp H1 v y → PstS mg T W S H0 H1 Dn (g y ρ1) → K v H1) : tD mg T W f σ H K :=
  ⟨S, H0, ρ, R, q.of.mono fun y ρ1 z v H1 R1 s1 r1 => k y ρ1 v H1 R1 s1 r1 (PstS.step z (s1.fz R))⟩
theorem stT {f : Ev → R Bool} {g : Bool → Ev → SR} {Dn : Ends} {K : Bool → Hp → Prop} (R : RS T S H0 H σ ρ) (q : PstS mg T W S H0 H Dn ((f ρ).toS g))
    (k : ∀ y ρ1 H1, RS T S H0 H1 σ ρ1 → Stp σ ρ ρ1 H H1 → PstS mg T W S H0 H1 Dn (g y ρ1) → K y H1) : tT mg T W f σ H K :=
  ⟨S, H0, ρ, R, q.of.mono fun y ρ1 z H1 R1 s1 => k y ρ1 H1 R1 s1 (PstS.step z (s1.fz R))⟩
def fDrop (f : Ev → R SV) : Ev → SR := fun ρ => (f ρ).toS fun _ ρ => .nx ρ
theorem ps_drop {f : Ev → R SV} (h : PP X T W e f) (hs : swapsWith e none pos.line X.env = pure false := by rfl) : PSp X T W (.Expr e pos) (fDrop f) := by
  refine weakSt (ps_expr h hs) ?_
  rintro Dn σ H ⟨S, H0, ρ, R, q⟩
  exact stP R q fun y ρ1 v H1 R1 s1 _ _ q => q σ H1 R1 (FzS.refl H1)
def fRet (f : Ev → R SV) : Ev → SR := fun ρ => (f ρ).toS fun r ρ => .rt r ρ
theorem ps_rt {f : Ev → R SV} (h : PP X T W e f) : PSp X T W (.Return (some e) pos) (fRet f) := by
  refine weakSt (ps_ret h) ?_
  rintro Dn σ H ⟨S, H0, ρ, R, q⟩
  exact stP R q fun y ρ1 v H1 R1 s1 v1 _ q => q σ v H1 R1 (FzS.refl H1) v1
def fRetN : Ev → SR := fun ρ => .rt (.d .none) ρ
theorem ps_rtN : PSp X T W (.Return none pos) fRetN := weakSt ps_retN fun Dn σ H ⟨S, H0, ρ, R, q⟩ => q σ _ H R (FzS.refl H) .non
/-- a slot forgets what it holds -/
theorem RS.forget (R : RS T S H0 H σ ρ) (i : Nat) : RS T S H0 H σ (ρ.set i .un) := by
  refine ⟨by rw [List.length_set]; exact R.len, fun j x hx => ?_, fun j j' b h1 h2 => R.sep j j' b (own_set un_ny h1).1 (own_set un_ny h2).1, fun j b h => R.new j b (own_set un_ny h).1, R.fr, R.tab, R.nt, R.dm⟩
  by_cases e : j = i
  · subst e
    by_cases hlen : j < ρ.length
    · rw [List.getElem?_set_self hlen] at hx
      cases hx
      cases σ[j]?.getD none <;> trivial
    · rw [List.getElem?_eq_none (by rw [List.length_set]; omega)] at hx
      cases hx
  · rw [List.getElem?_set_ne (Ne.symm e)] at hx
    exact R.slot j x hx
/-- a local list given away -/
def fMove (i : Nat) : Ev → R SV := fun ρ => match ρ[i]? with
  | some (.own none o) => .ok (.own none o) (ρ.set i .un)
  | _ => fVar i ρ
theorem pp_move {i : Nat} {x : Str} (hN : X.N[i]? = some x) (hv : Vis X.env.scope x) (hd : (x == ("__debug__" : Str)) = false := by decide) (hcd : (x == ("__classdict__" : Str)) = false := by decide) : PP X T W (.Name x pos) (fMove i) := by
  refine weakE (pe_frz (pe_var hN hv hd hcd)) ?_
  rintro σ H Q ⟨S, H0, ρ, R, q⟩
  unfold fMove at q
  cases hi : ρ[i]? with
  | none => rw [hi] at q; unfold fVar at q; rw [hi] at q; exact q.elim
  | some y =>
    rw [hi] at q
    cases y with
    | un => unfold fVar at q; rw [hi] at q; exact q.elim
    | d z =>
      unfold fVar at q; rw [hi] at q
      obtain ⟨v, e, so⟩ := slot_some R hi (fun z => nomatch z)
      exact ⟨v, e, .inl (q v H R (Stp.refl _ _ _) so trivial)⟩
    | fz o =>
      unfold fVar at q; rw [hi] at q
      obtain ⟨v, e, so⟩ := slot_some R hi (fun z => nomatch z)
      exact ⟨v, e, .inl (q v H R (Stp.refl _ _ _) so trivial)⟩
    | raw u =>
      unfold fVar at q; rw [hi] at q
      obtain ⟨v, e, so⟩ := slot_some R hi (fun z => nomatch z)
      exact ⟨v, e, .inl (q v H R (Stp.refl _ _ _) so trivial)⟩
    | own t o =>
      cases t with
      | some k => unfold fVar at q; rw [hi] at q; exact q.elim
      | none =>
        obtain ⟨v, e, a, ho, rfl, ha, mu, ob, hS, hk⟩ := slot_some R hi (fun z => nomatch z)
        refine ⟨_, e, .inl ?_⟩
        have own : Own σ ρ i a := ⟨e, none, o, hi⟩
        have n0 : H0 a = none := (R.new i a own).resolve_left (hS rfl)
        refine q _ H (R.forget i) ⟨fun b o h _ _ => h, fun j b h => (own_set un_ny h).1, fun b e => e⟩ ⟨rfl, a, ho, rfl, ha, mu, ob, fun j h => ?_, n0, hS rfl⟩ ?_
        · obtain ⟨h1, h2⟩ := own_set un_ny h
          exact h2 (R.sep j i a h1 own)
        · intro b eb
          cases eb
          exact .inr ⟨i, own⟩
/-! a name is given a value -/
theorem own_upd {i j : Nat} {v : V} {y : SV} {a : Addr} (len : σ.length = ρ.length) (h : Own (σ.set i (some v)) (ρ.set i y) j a) : (j ≠ i ∧ Own σ ρ j a) ∨ (j = i ∧ v = .ref a ∧ ∃ t o, y = .own t o) := by
  obtain ⟨h1, t, o, h2⟩ := h
  by_cases e : j = i
  · subst e
    by_cases hj : j < ρ.length
    · rw [List.getElem?_set_self hj] at h2
      rw [List.getElem?_set_self (by omega)] at h1
      exact .inr ⟨rfl, Option.some.inj (Option.some.inj h1), t, o, Option.some.inj h2⟩
    · rw [List.getElem?_eq_none (by rw [List.length_set]; omega)] at h2
      cases h2
  · rw [List.getElem?_set_ne (Ne.symm e)] at h1 h2
    exact .inl ⟨e, h1, t, o, h2⟩
theorem VOk.slot {v : V} {r : SV} (h : VOk S H0 H σ ρ v r) : SlotOk S H (some v) r := by
  cases r with
  | un => trivial
  | d x => exact h
  | own t o =>
    obtain ⟨rfl, a, ho, e1, e2, mu, ob, _, _, n⟩ := h
    exact ⟨a, ho, e1, e2, mu, ob, fun _ => n, fun k z => nomatch z⟩
  | fz o => exact h
  | raw u => exact h
theorem RS.set (R : RS T S H0 H σ ρ) {v : V} {r : SV} (h : VOk S H0 H σ ρ v r) (i : Nat) : RS T S H0 H (σ.set i (some v)) (ρ.set i r) := by
  refine ⟨by rw [List.length_set, List.length_set]; exact R.len, fun j x hx => ?_, fun j j' b h1 h2 => ?_, fun j b hb => ?_, R.fr, R.tab, R.nt, R.dm⟩
  · by_cases e : j = i
    · subst e
      by_cases hlen : j < ρ.length
      · rw [List.getElem?_set_self hlen] at hx
        cases hx
        rw [List.getElem?_set_self (by rw [R.len]; exact hlen)]
        exact h.slot
      · rw [List.getElem?_eq_none (by rw [List.length_set]; omega)] at hx
        cases hx
    · rw [List.getElem?_set_ne (Ne.symm e)] at hx
      rw [List.getElem?_set_ne (Ne.symm e)]
      exact R.slot j x hx
  · have no : ∀ t o j, r = .own t o → v = .ref b → ¬ Own σ ρ j b := fun t o j e1 e2 k => by
      subst e1
      obtain ⟨_, a, ho, e3, _, _, _, n, _⟩ := h
      rw [e2] at e3
      cases e3
      exact n j k
    rcases own_upd R.len h1 with ⟨k1, k2⟩ | ⟨k1, k2, t, o, k3⟩ <;> rcases own_upd R.len h2 with ⟨l1, l2⟩ | ⟨l1, l2, t', o', l3⟩
    · exact R.sep j j' b k2 l2
    · exact (no _ _ _ l3 l2 k2).elim
    · exact (no _ _ _ k3 k2 l2).elim
    · rw [k1, l1]
  · rcases own_upd R.len hb with ⟨k1, k2⟩ | ⟨k1, k2, t, o, k3⟩
    · exact R.new j b k2
    · subst k3
      obtain ⟨_, a, ho, e3, _, _, _, n, n0, _⟩ := h
      rw [k2] at e3
      cases e3
      exact .inr n0
def fSet (i : Nat) (f : Ev → R SV) : Ev → SR := fun ρ => (f ρ).toS fun r ρ => .nx (ρ.set i r)
theorem ps_st {i : Nat} {x : Str} {f : Ev → R SV} {pos' : Pos} (hn : X.N.Nodup) (hN : X.N[i]? = some x) (hl : L2.Loc X.env.scope x) (h : PP X T W e f)
    (hs : swapsWith e (some (Expr.Name x pos')) pos.line X.env = pure false := by rfl) (hf : X.fn x = true ∨ List.lookup x X.env.scope.names = some NameKind.local := by exact .inl rfl) : PSp X T W (.Assign [.Name x pos'] e pos) (fSet i f) := by
  refine weakSt (ps_set hn hN hl h hs hf) ?_
  rintro Dn σ H ⟨S, H0, ρ, R, q⟩
  exact stP R q fun y ρ1 v H1 R1 s1 v1 _ q => q _ H1 (R1.set v1 i) (FzS.refl H1)
/-! if -/
def fIfS (c : Ev → R Bool) (f g : Ev → SR) : Ev → SR := fun ρ => (c ρ).toS fun b ρ => if b = true then f ρ else g ρ
theorem ps_iff {t : Ev → R Bool} {f g : Ev → SR} {l r : List Stmt} (hc : PTt X T W c t) (ha : PBp X T W l f) (hb : PBp X T W r g) : PSp X T W (.If c l r pos) (fIfS t f g) := by
  refine weakSt (ps_if hc ha hb) ?_
  rintro Dn σ H ⟨S, H0, ρ, R, q⟩
  refine stT R q fun y ρ1 H1 R1 s1 q => ?_
  cases y with
  | true => exact iteT ⟨S, H0, ρ1, R1, q⟩
  | false => exact iteF ⟨S, H0, ρ1, R1, q⟩
/-! break, continue, pass -/
def fBrk : Ev → SR := fun ρ => .bk ρ
def fCnt : Ev → SR := fun ρ => .ct ρ
theorem ps_brk : PSp X T W (.Break pos) fBrk := weakSt ps_break fun Dn σ H ⟨S, H0, ρ, R, q⟩ => q σ H R (FzS.refl H)
theorem ps_cnt : PSp X T W (.Continue pos) fCnt := weakSt ps_continue fun Dn σ H ⟨S, H0, ρ, R, q⟩ => q σ H R (FzS.refl H)
theorem ps_pss : PSp X T W (.Pass pos) fNx := weakSt ps_pass fun Dn σ H ⟨S, H0, ρ, R, q⟩ => q σ H R (FzS.refl H)
/-! raise C("..") -/
theorem RS.frm (R : RS T S H0 H σ ρ) : Frm S H0 H := R.fr
def fRais (x : Str) : Ev → SR := fun _ => .er ⟨x, none⟩
/-- an own class of errors over OrderError, at C -/
structure ErK (K : PySem.W.Frag) (mg : Str → Option Value) (x : Str) (C : Addr) (bm : List Value) : Prop where
  g : mg x = some (.ref C)
  x : PySem.W.excIn K C bm "ValueError.__new__" = true
  k : PySem.W.keepIn K (.ref C) = true
  b : PySem.W.subIn K (.ref C) (.type "BaseException") = some true
  t : PySem.W.typeIn K (.ref C) = some (.type "type")
theorem ps_rs {x m : Str} {C : Addr} {j : Nat} {p2 p3 : Pos} (hc : X.calm = true) (tk : L2N.Takes X fun cls d _ H => W cls d H) (E : ErK X.K X.mg x C [.type "ValueError", .type "Exception", .type "BaseException", .type "object"]) (hg : Gl X x) (hd : (x == Str.ofString "__debug__") = false := by decide) :
    PSp X T W (.Raise (some (.Call (.Name x p) [.Constant (.str m) j p2] [] p3)) none pos) (fRais x) := by
  refine weakSt (L2N.ps_raise hc tk (L2N.pmk_own PySem.F.excBase_ValueError E.x E.g E.k (raises_own E.b E.t) hg hd)) ?_
  rintro Dn σ H ⟨S, H0, ρ, R, q⟩
  exact q C none H R.frm R.tab ⟨E.g, rfl⟩
end
end Pu
/-! PuF -/
set_option maxRecDepth 100000
namespace Pu
open PySem PySem.Spec
    PyProof.Rows L2
/-- what an iterator gives: a datum; or (k) a new tuple of data -/
def YR : Bool → Hp → V → D → Prop
  | false, H, v, d => Rp H v d
  | true, H, v, d => Rp H v d ∨ ∃ a vs ds, v = .ref a ∧ d = .tuple ds ∧ H a = some (.tup vs) ∧ RpL H vs ds
/-- an iterator over the data ds, while C holds -/
structure ItD (k : Bool) (J : It) (C : Hp → Prop) (ds : List D) : Prop where
  stop : ∀ H, C H → J.stop ds.length H
  go : ∀ i H, i < ds.length → C H → J.go i H
  yld : ∀ i H x H' d, C H → J.yld i H x H' → ds[i]? = some d → Grw H H' ∧ YR k H' x d
section
variable {T : List (Addr × Str)} {S : List Addr} {H0 H H' H1 : Hp} {σ : L2.St} {ρ ρ' ρ1 : Ev} {X : Cx} {W : XK} {e a b c : Expr} {pos p : Pos} {mg : Str → Option Value} {tg : Expr}
def tI (mg : Str → Option Value) (T : List (Addr × Str)) (W : XK) (k : Bool) (f : Ev → R (List D)) : TI := fun σ H R' => ∃ S H0 ρ, RS T S H0 H σ ρ ∧ PstG mg T W S H0 (fun ds ρ' => ∀ J H', RS T S H0 H' σ ρ' → Stp σ ρ ρ' H H' → ItD k J (FzS H') ds → R' J H') (f ρ)
abbrev PIr (X : Cx) (T : List (Addr × Str)) (W : XK) (tg e : Expr) (k : Bool) (f : Ev → R (List D)) : Prop := PI X tg e (tI X.mg T W k f)
theorem weakI {t t' : TI} (h : PI X tg e t) (w : ∀ σ H Q, t' σ H Q → t σ H Q) : PI X tg e t' := ⟨fun pins s σ H Q I q => h.run pins s σ H Q I (w _ _ _ q)⟩
def seqD : D → Option (List D)
  | .list xs => some xs
  | .tuple xs => some xs
  | _ => none
def fIt (f : Ev → R D) : Ev → R (List D) := fun ρ => (f ρ).bind fun d ρ => opt (seqD d) ρ
theorem itd_list {K : PySem.W.Frag} {a : Addr} {ob : Obj} {vs : List V} {ds : List D} (h : H a = some (.frz ob (.lst vs))) (r : RpL H vs ds) : ItD false (Itl K a) (FzS H) ds := by
  refine ⟨fun H1 k => ⟨vs, .inl (.inr ⟨_, k _ _ _ h⟩), by rw [r.length]; exact Nat.le_refl _⟩, fun i H1 hi k => ?_, fun i H1 x H' d k y hd => ?_⟩
  · have hv : i < vs.length := by rw [r.length]; exact hi
    exact ⟨vs, vs[i], .inl (.inr ⟨_, k _ _ _ h⟩), List.getElem?_eq_getElem hv⟩
  · obtain ⟨rfl, y⟩ := y
    have e1 := y vs (.inl (.inr ⟨_, k _ _ _ h⟩))
    obtain ⟨v, e2, rv⟩ := (r.k k).get hd
    rw [e1] at e2
    cases e2
    exact ⟨Grw.refl _, rv⟩
theorem itd_tup {K : PySem.W.Frag} {a : Addr} {ob : Obj} {vs : List V} {ds : List D} (h : H a = some (.frz ob (.tup vs))) (r : RpL H vs ds) : ItD false (Itt K a) (FzS H) ds := by
  refine ⟨fun H1 k => ⟨vs, .inl (.inr ⟨_, k _ _ _ h⟩), by rw [r.length]; exact Nat.le_refl _⟩, fun i H1 hi k => ?_, fun i H1 x H' d k y hd => ?_⟩
  · have hv : i < vs.length := by rw [r.length]; exact hi
    exact ⟨vs, vs[i], .inl (.inr ⟨_, k _ _ _ h⟩), List.getElem?_eq_getElem hv⟩
  · obtain ⟨rfl, y⟩ := y
    have e1 := y vs (.inl (.inr ⟨_, k _ _ _ h⟩))
    obtain ⟨v, e2, rv⟩ := (r.k k).get hd
    rw [e1] at e2
    cases e2
    exact ⟨Grw.refl _, rv⟩
theorem pir_seq {f : Ev → R D} (h : PD X T W e f) : PIr X T W tg e false (fIt f) := by
  constructor
  rintro pins s σ H Q I ⟨S, H0, ρ, R, q⟩
  refine thn (h.run pins s σ H _ I (bindD (K := fun v H1 => (∃ a ob vs, v = .ref a ∧ H1 a = some (.frz ob (.lst vs)) ∧ Q (Itl X.K a) H1) ∨ (∃ a ob vs, v = .ref a ∧ H1 a = some (.frz ob (.tup vs)) ∧ Q (Itt X.K a) H1)) R q fun d ρ1 v H1 R1 s1 r1 q => ?_)) ?_
  · obtain ⟨ds, hd, q⟩ := opt_some q
    cases d with
    | list xs =>
      cases hd
      cases r1 with
      | lst e r => exact .inl ⟨_, _, _, rfl, e, q _ _ R1 s1 (itd_list e r)⟩
    | tuple xs =>
      cases hd
      cases r1 with
      | tup e n r => exact .inr ⟨_, _, _, rfl, e, q _ _ R1 s1 (itd_tup e r)⟩
    | _ => cases hd
  · rintro u s1 ⟨x, H1, I1, r1, ⟨a, ob, vs, rfl, e1, q⟩ | ⟨a, ob, vs, rfl, e1, q⟩⟩
    · cases r1
      obtain ⟨its, rv, pl, hz⟩ := I1.list (.inl (.inr ⟨_, e1⟩))
      refine wpAny_pyIter_list pl.isList ⟨s1.heap.objs.size, [s1.heap.objs.size], fun i h => h.IsListIter s1.heap.objs.size a i, Itl X.K a, H1, rfl, I1.kept fun b o e => Heap.get?_push_of_some _ e, turn_list a _, ⟨_, Heap.get?_push_size s1.1 rfl, rfl, rfl⟩, fun b hb => ?_, q⟩
      have hb : b = s1.heap.objs.size := by simpa using hb
      subst hb
      exact I1.fpOk (Nat.le_refl _)
          (I1.hok.fresh (Nat.le_refl _))
    · cases r1
      obtain ⟨its, rv, pl, hz⟩ := I1.tuple (.inl (.inr ⟨_, e1⟩))
      refine wpAny_pyIter_tuple pl ⟨s1.heap.objs.size, [s1.heap.objs.size], fun i h => h.IsTupleIter s1.heap.objs.size a i, Itt X.K a, H1, rfl, I1.kept fun b o e => Heap.get?_push_of_some _ e, turn_tuple a _, ⟨_, Heap.get?_push_size s1.1 rfl, rfl, rfl⟩, fun b hb => ?_, q⟩
      have hb : b = s1.heap.objs.size := by simpa using hb
      subst hb
      exact I1.fpOk (Nat.le_refl _)
          (I1.hok.fresh (Nat.le_refl _))
/-! range -/
/-- n ints from lo on, c apart -/
def rngL (lo c : Int) (n : Nat) : List D := (List.range n).map fun (i : Nat) => .int (lo + (i : Int) * c)
theorem rngL_len {lo c : Int} {n : Nat} : (rngL lo c n).length = n := by
  unfold rngL
  rw [List.length_map,
      List.length_range]
theorem rngL_get {lo c : Int} {n i : Nat} {d : D} (h : (rngL lo c n)[i]? = some d) : d = .int (lo + (i : Int) * c) := by
  unfold rngL at h
  rw [List.getElem?_map] at h
  by_cases hi : i < n
  · rw [List.getElem?_range hi] at h
    exact (Option.some.inj h).symm
  · rw [List.getElem?_eq_none (by rw [List.length_range]; omega)] at h
    cases h
theorem itd_rng {lo : Int} {n : Nat} {C : Hp → Prop} : ItD false (Itr lo n) C (rngL lo 1 n) := by
  refine ⟨fun H1 k => by rw [rngL_len]; exact Nat.le_refl n, fun i H1 hi k => by rw [rngL_len] at hi; exact hi, fun i H1 x H' d k y hd => ?_⟩
  obtain ⟨rfl, rfl⟩ := y
  refine ⟨Grw.refl _, ?_⟩
  rw [rngL_get hd, Int.mul_one]
  exact .int _
theorem itd_rngC {lo c : Int} {n : Nat} {C : Hp → Prop} : ItD false (Itc lo c n) C (rngL lo c n) := by
  refine ⟨fun H1 k => by rw [rngL_len]; exact Nat.le_refl n, fun i H1 hi k => by rw [rngL_len] at hi; exact hi, fun i H1 x H' d k y hd => ?_⟩
  obtain ⟨rfl, rfl⟩ := y
  refine ⟨Grw.refl _, ?_⟩
  rw [rngL_get hd]
  exact .int _
/-- within 2^62 (told by Nat.ble: the kernel must not count down from 2^62 where i is unknown) -/
def inR62 : Int → Bool
  | .ofNat n => Nat.ble n 4611686018427387903
  | .negSucc n => Nat.ble n 4611686018427387903
theorem inR62_of {i : Int} (h : inR62 i = true) : -(2 ^ 62) ≤ i ∧ i < 2 ^ 62 := by
  cases i with
  | ofNat n =>
    have := Nat.le_of_ble_eq_true (show Nat.ble n 4611686018427387903 = true from h)
    show -(2 ^ 62) ≤ (n : Int) ∧ (n : Int) < 2 ^ 62
    omega
  | negSucc n =>
    have := Nat.le_of_ble_eq_true (show Nat.ble n 4611686018427387903 = true from h)
    rw [Int.negSucc_eq]
    omega
theorem inR62_nat {m : Nat} (h : m < 4611686018427387904) : inR62 (m : Int) = true := Nat.ble_eq_true_of_le (show m ≤ 4611686018427387903 by omega)
def rng1D : List D → Option (List D)
  | [.int j] => if inR62 j = true then some (rngL 0 1 j.toNat) else none
  | _ => none
def rng2D : List D → Option (List D)
  | [.int i, .int j] => if inR62 i = true ∧ inR62 j = true then some (rngL i 1 (j - i).toNat) else none
  | _ => none
def fArgs (g : List D → Option (List D)) (f : Ev → R (List D)) : Ev → R (List D) := fun ρ => (f ρ).bind fun ds ρ => opt (g ds) ρ
theorem ints1 {vs : List V} {i : Int} (h : RpL H vs [.int i]) : vs = [.int i] := by
  cases h with
  | cons h t =>
    cases h
    cases t
    rfl
theorem ints2 {vs : List V} {i j : Int} (h : RpL H vs [.int i, .int j]) : vs = [.int i, .int j] := by
  cases h with
  | cons h t =>
    cases h
    rw [ints1 t]
theorem ints3 {vs : List V} {i j k : Int} (h : RpL H vs [.int i, .int j, .int k]) : vs = [.int i, .int j, .int k] := by
  cases h with
  | cons h t =>
    cases h
    rw [ints2 t]
theorem some_of {α β : Type} {c : Prop} [Decidable c] {x : α} {y : α} (h : (if c then some x else none) = some y) : c ∧ x = y := by
  by_cases k : c
  · rw [if_pos k] at h
    exact ⟨k, Option.some.inj h⟩
  · rw [if_neg k] at h
    cases h
theorem pir_range1 {f : Ev → R (List D)} (hg : Gl X (Str.ofString "range")) (hm : X.mg (Str.ofString "range") = none) (h : PAr X T W [a] f) (hs : starEach [a] X.env = [(false, eval a X.env)] := by rfl) :
    PIr X T W tg (.Call (.Name (Str.ofString "range") p) [a] [] pos) false (fArgs rng1D f) := by
  refine weakI (pi_range1 hg hm h hs) ?_
  rintro σ H Q ⟨S, H0, ρ, R, q⟩
  refine bindA R q fun ds ρ1 vs H1 R1 s1 r1 q => ?_
  obtain ⟨ds', hd, q⟩ := opt_some q
  unfold rng1D at hd
  split at hd
  · obtain ⟨h1, rfl⟩ := some_of (β := Unit) hd
    obtain ⟨l, u⟩ := inR62_of h1
    exact ⟨_, ints1 r1, l, u, q _ _ R1 s1 itd_rng⟩
  · cases hd
theorem pir_range2 {f : Ev → R (List D)} (hg : Gl X (Str.ofString "range")) (hm : X.mg (Str.ofString "range") = none) (h : PAr X T W [a, b] f) (hs : starEach [a, b] X.env = [(false, eval a X.env), (false, eval b X.env)] := by rfl) (hs2 : starEach [b] X.env = [(false, eval b X.env)] := by rfl) :
    PIr X T W tg (.Call (.Name (Str.ofString "range") p) [a, b] [] pos) false (fArgs rng2D f) := by
  refine weakI (pi_range2 hg hm h hs hs2) ?_
  rintro σ H Q ⟨S, H0, ρ, R, q⟩
  refine bindA R q fun ds ρ1 vs H1 R1 s1 r1 q => ?_
  obtain ⟨ds', hd, q⟩ := opt_some q
  unfold rng2D at hd
  split at hd
  · obtain ⟨⟨h1, h2⟩, rfl⟩ := some_of (β := Unit) hd
    obtain ⟨l, u⟩ := inR62_of h1
    obtain ⟨l2, u2⟩ := inR62_of h2
    exact ⟨_, _, ints2 r1, ⟨l, u, l2, u2⟩, q _ _ R1 s1 itd_rng⟩
  · cases hd
/-- how many turns a range has -/
def rngN (i j c : Int) : Nat := (Builtin.Range.rangeSize i j c).toNat
def rng3D : List D → Option (List D)
  | [.int i, .int j, .int c] => if c ≠ 0 ∧ c.natAbs < 1073741824 ∧ Builtin.Range.small i j c = true ∧ 0 ≤ Builtin.Range.rangeSize i j c then some (rngL i c (rngN i j c)) else none
  | _ => none
theorem pir_range3 {f : Ev → R (List D)} (hg : Gl X (Str.ofString "range")) (hm : X.mg (Str.ofString "range") = none) (h : PAr X T W [a, b, c] f) (hs : starEach [a, b, c] X.env = (false, eval a X.env) :: starEach [b, c] X.env := by rfl) (hp : ((backTo pos (starEach [b, c] X.env)).any fun x => x.fst) = false := by rfl) :
    PIr X T W tg (.Call (.Name (Str.ofString "range") p) [a, b, c] [] pos) false (fArgs rng3D f) := by
  refine weakI (pi_range3 hg hm h hs hp) ?_
  rintro σ H Q ⟨S, H0, ρ, R, q⟩
  refine bindA R q fun ds ρ1 vs H1 R1 s1 r1 q => ?_
  obtain ⟨ds', hd, q⟩ := opt_some q
  unfold rng3D at hd
  split at hd
  · obtain ⟨⟨h1, h2, h3, h4⟩, rfl⟩ := some_of (β := Unit) hd
    exact ⟨_, _, _, _, ints3 r1, ⟨h1, h2, h3, (Int.toNat_of_nonneg h4).symm⟩, q _ _ R1 s1 itd_rngC⟩
  · cases hd
/-! enumerate -/
def enuL : Nat → List D → List D
  | _, [] => []
  | i, d :: ds => .tuple [.int (i : Int), d] :: enuL (i + 1) ds
theorem enuL_len : ∀ (ds : List D) (i : Nat), (enuL i ds).length = ds.length
  | [], _ => rfl
  | d :: ds, i => congrArg (· + 1) (enuL_len ds (i + 1))
theorem enuL_get : ∀ (ds : List D) (i j : Nat) (d : D), (enuL i ds)[j]? = some d → ∃ x, ds[j]? = some x ∧ d = .tuple [.int ((i + j : Nat) : Int), x]
  | [], i, j, d, h => by cases h
  | x :: ds, i, 0, d, h => by cases h; exact ⟨x, rfl, rfl⟩
  | x :: ds, i, j + 1, d, h => by
    obtain ⟨y, e1, e2⟩ := enuL_get ds (i + 1) j d h
    refine ⟨y, e1, ?_⟩
    rw [e2, show i + 1 + j = i + (j + 1) by omega]
theorem itd_enuL {K : PySem.W.Frag} {a : Addr} {ob : Obj} {vs : List V} {ds : List D} (h : H a = some (.frz ob (.lst vs))) (r : RpL H vs ds) : ItD true (Ite K a) (FzS H) (enuL 0 ds) := by
  refine ⟨fun H1 k => ⟨vs, .inl (.inr ⟨_, k _ _ _ h⟩), by rw [enuL_len, r.length]; exact Nat.le_refl _⟩, fun i H1 hi k => ?_, fun i H1 x H' d k y hd => ?_⟩
  · rw [enuL_len] at hi
    have hv : i < vs.length := by rw [r.length]; exact hi
    exact ⟨vs, vs[i], .inl (.inr ⟨_, k _ _ _ h⟩), List.getElem?_eq_getElem hv⟩
  · obtain ⟨t, w, rfl, nt, rfl, y⟩ := y
    have e1 := y vs (.inl (.inr ⟨_, k _ _ _ h⟩))
    obtain ⟨x, hx, rfl⟩ := enuL_get ds 0 i d hd
    obtain ⟨v, e2, rv⟩ := (r.k k).get hx
    rw [e1] at e2
    cases e2
    have g : Grw H1 (upd H1 t (.tup [.int (i : Int), w])) := Grw.new nt
    refine ⟨g, .inr ⟨t, _, _, rfl, rfl, upd_same, ?_⟩⟩
    rw [Nat.zero_add]
    exact .cons (.int _) (.cons (rv.k g.fz) .nil)
theorem itd_enuT {K : PySem.W.Frag} {a : Addr} {ob : Obj} {vs : List V} {ds : List D} (h : H a = some (.frz ob (.tup vs))) (r : RpL H vs ds) : ItD true (WoR.IteT K a) (FzS H) (enuL 0 ds) := by
  refine ⟨fun H1 k => ⟨vs, .inl (.inr ⟨_, k _ _ _ h⟩), by rw [enuL_len, r.length]⟩, fun i H1 hi k => ?_, fun i H1 x H' d k y hd => ?_⟩
  · rw [enuL_len] at hi
    have hv : i < vs.length := by rw [r.length]; exact hi
    exact ⟨vs, vs[i], .inl (.inr ⟨_, k _ _ _ h⟩), List.getElem?_eq_getElem hv⟩
  · obtain ⟨t, w, rfl, nt, rfl, y⟩ := y
    have e1 := y vs (.inl (.inr ⟨_, k _ _ _ h⟩))
    obtain ⟨x, hx, rfl⟩ := enuL_get ds 0 i d hd
    obtain ⟨v, e2, rv⟩ := (r.k k).get hx
    rw [e1] at e2
    cases e2
    have g : Grw H1 (upd H1 t (.tup [.int (i : Int), w])) := Grw.new nt
    refine ⟨g, .inr ⟨t, _, _, rfl, rfl, upd_same, ?_⟩⟩
    rw [Nat.zero_add]
    exact .cons (.int _) (.cons (rv.k g.fz) .nil)
def fEnu (f : Ev → R D) : Ev → R (List D) := fun ρ => (f ρ).bind fun d ρ => (opt (seqD d) ρ).bind fun ds ρ => .ok (enuL 0 ds) ρ
theorem pir_enum {f : Ev → R D} {tpos : Pos} {elts : List Expr} {kk : Nat} (hg : Gl X "enumerate") (hm : X.mg "enumerate" = none) (h : PD X T W e f) (hs : starEach [e] X.env = [(false, eval e X.env)] := by rfl) :
    PIr X T W (.Tuple elts kk tpos) (.Call (.Name "enumerate" p) [e] [] pos) true (fEnu f) := by
  constructor
  rintro pins s σ H Q I ⟨S, H0, ρ, R, q⟩
  have ha := pa_cons h pa_nil hs
  refine Call_ (ld_blt I hg hm boot_enumerate (PyProof.Rows.callWith_type1 (thn (ha.run pos pins s σ H (fun vs H1 => (∃ a ob us, vs = [.ref a] ∧ H1 a = some (.frz ob (.lst us)) ∧ Q (Ite X.K a) H1) ∨ (∃ a ob us, vs = [.ref a] ∧ H1 a = some (.frz ob (.tup us)) ∧ Q (WoR.IteT X.K a) H1)) I
    (bindD R q fun d ρ1 v H1 R1 s1 r1 q => ?_)) fun us s1 ⟨vs, H1, I1, r1, q1⟩ => ?_) hs rfl))
  · obtain ⟨ds, hd, q⟩ := opt_some (PstG.bind q)
    cases d with
    | list xs =>
      cases hd
      cases r1 with
      | lst e r => exact .inl ⟨_, _, _, rfl, e, q _ _ R1 s1 (itd_enuL e r)⟩
    | tuple xs =>
      cases hd
      cases r1 with
      | tup e n r => exact .inr ⟨_, _, _, rfl, e, q _ _ R1 s1 (itd_enuT e r)⟩
    | _ => cases hd
  · rcases q1 with ⟨a, ob, ws, rfl, e1, q⟩ | ⟨a, ob, ws, rfl, e1, q⟩
    · cases r1 with
      | cons r rr =>
        cases rr
        cases r
        obtain ⟨its, rv, pl, hz⟩ := I1.list (.inl (.inr ⟨_, e1⟩))
        refine call_enumerate_list pl.isList fun h' he hit hsz hk => wpAny_pyIter_enum he ?_
        have I2 : Inv X pins σ H1 { s1 with heap :=
            h' } := I1.kept (t' := s1.toks) hk
        refine ⟨s1.heap.objs.size + 1, [s1.heap.objs.size + 1, s1.heap.objs.size], _, _, H1, rfl, I2, turn_enum a
            (s1.heap.objs.size + 1) s1.heap.objs.size, ⟨⟨.none, he⟩, hit, Nat.succ_ne_self _⟩, fun b hb => ?_, q⟩
        have hle : s1.heap.objs.size
            ≤ b := by
          rcases (show b = s1.heap.objs.size + 1 ∨ b = s1.heap.objs.size by simpa using hb) with z | z
          · rw [z]; exact
              Nat.le_add_right _ _
          · rw [z]; exact Nat.le_refl _
        exact I1.fpOk hle
            (I1.hok.fresh hle)
    · cases r1 with
      | cons r rr =>
        cases rr
        cases r
        obtain ⟨its, rv, pt, hz⟩ := I1.tuple (.inl (.inr ⟨_, e1⟩))
        refine WoR.call_enumT pt fun h' he hit hk => wpAny_pyIter_enum he ?_
        have I2 : Inv X pins σ H1 { s1 with heap :=
            h' } := I1.kept (t' := s1.toks) hk
        refine ⟨s1.heap.objs.size + 1, [s1.heap.objs.size + 1, s1.heap.objs.size], _, _, H1, rfl, I2, WoR.turn_enumT a (s1.heap.objs.size + 1) s1.heap.objs.size, ⟨⟨.none, he⟩, hit, Nat.succ_ne_self _⟩, fun b hb => ?_, q⟩
        have hle : s1.heap.objs.size
            ≤ b := by
          rcases (show b = s1.heap.objs.size + 1 ∨ b = s1.heap.objs.size by simpa using hb) with z | z
          · rw [z]; exact
              Nat.le_add_right _ _
          · rw [z]; exact Nat.le_refl _
        exact I1.fpOk hle
            (I1.hok.fresh hle)
end
end Pu
/-! PuG -/
set_option maxRecDepth 100000
namespace Pu
open PySem PySem.Spec
    PyProof.Rows L2
/-! targets: a name; names in a tuple -/
structure Keeps (sl : List Nat) (σ : L2.St) (ρ : Ev) (σ' : L2.St) (ρ' : Ev) : Prop where
  len : σ'.length = σ.length
  get : ∀ j, j ∉ sl → σ'[j]? = σ[j]?
  own : ∀ j a, Own σ' ρ' j a → Own σ ρ j a
/-- a target that takes a datum -/
def TgOk (K : PySem.W.Frag) (k : Bool) (g : TG) (sl : List Nat) (bd : D → Ev → Option Ev) : Prop := ∀ (T : List (Addr × Str)) (S : List Addr) (H0 H : Hp) (σ : L2.St) (ρ : Ev) (v : V) (d : D) (ρ' : Ev) (Q : L2.St → Hp → Prop),
  RS T S H0 H σ ρ → YR k H v d → bd d ρ = some ρ' → (∀ σ', RS T S H0 H σ' ρ' → Keeps sl σ ρ σ' ρ' → Q σ' H) → g v σ H Q
def TgsOk (K : PySem.W.Frag) (g : TGs) (sl : List Nat) (bd : List D → Ev → Option Ev) : Prop := ∀ (T : List (Addr × Str)) (S : List Addr) (H0 H : Hp) (σ : L2.St) (ρ : Ev) (vs : List V) (ds : List D) (ρ' : Ev) (Q : L2.St → Hp → Prop),
  RS T S H0 H σ ρ → RpL H vs ds → bd ds ρ = some ρ' → (∀ σ', RS T S H0 H σ' ρ' → Keeps sl σ ρ σ' ρ' → Q σ' H) → g vs σ H Q
theorem Keeps.refl (sl : List Nat) (σ : L2.St) (ρ : Ev) : Keeps sl σ ρ σ ρ := ⟨rfl, fun _ _ => rfl, fun _ _ h => h⟩
theorem Keeps.app {s1 s2 : List Nat} {σ σ1 σ2 : L2.St} {ρ ρ1 ρ2 : Ev} (a : Keeps s1 σ ρ σ1 ρ1) (b : Keeps s2 σ1 ρ1 σ2 ρ2) : Keeps (s1 ++ s2) σ ρ σ2 ρ2 := ⟨b.1.trans a.1, fun j h => by
  rw [List.mem_append, not_or] at h
  rw [b.2 j h.2, a.2 j h.1], fun j c h => a.own j c (b.own j c h)⟩
def bNm (i : Nat) : D → Ev → Option Ev := fun d ρ => some (ρ.set i (.d d))
theorem tg_nm {K : PySem.W.Frag} {i : Nat} : TgOk K false (gName i) [i] (bNm i) := by
  intro T S H0 H σ ρ v d ρ' Q R y h q
  cases h
  refine q _ (R.set (r := .d d) y i) ⟨by rw [List.length_set], fun j hj => ?_, fun j b h => ?_⟩
  · rw [List.getElem?_set_ne (by simpa using Ne.symm (by simpa using hj))]
  · rcases own_upd R.len h with ⟨_, h⟩ | ⟨_, _, _, _, h⟩
    · exact h
    · cases h
def bNil : List D → Ev → Option Ev
  | [], ρ => some ρ
  | _, _ => none
def bCons (f : D → Ev → Option Ev) (g : List D → Ev → Option Ev) : List D → Ev → Option Ev
  | d :: ds, ρ => (f d ρ).bind (g ds)
  | _, _ => none
theorem tgs_nil {K : PySem.W.Frag} : TgsOk K gNil [] bNil := by
  intro T S H0 H σ ρ vs ds ρ' Q R y h q
  cases y with
  | nil =>
    cases h
    exact ⟨rfl, q σ R (Keeps.refl _ _ _)⟩
  | cons _ _ => cases h
theorem tgs_cons {K : PySem.W.Frag} {k : Bool} {t : TG} {u : TGs} {s1 s2 : List Nat} {f : D → Ev → Option Ev} {g : List D → Ev → Option Ev} (hk : k = false ∨ k = true) (h1 : TgOk K k t s1 f) (h2 : TgsOk K u s2 g) : TgsOk K (gCons t u) (s1 ++ s2) (bCons f g) := by
  intro T S H0 H σ ρ vs ds ρ' Q R y h q
  cases y with
  | nil => cases h
  | @cons v vs d ds y1 y2 =>
    cases hf : f d ρ with
    | none => rw [bCons, hf] at h; cases h
    | some ρ1 =>
      rw [bCons, hf] at h
      refine ⟨v, vs, rfl, h1 T S H0 H σ ρ v d ρ1 _ R ?_ hf fun σ1 R1 k1 => h2 T S H0 H σ1 ρ1 vs ds ρ' _ R1 y2 h fun σ2 R2 k2 => q σ2 R2 (k1.app k2)⟩
      rcases hk with rfl | rfl
      · exact y1
      · exact .inl y1
def bTup (g : List D → Ev → Option Ev) : D → Ev → Option Ev
  | .tuple ds, ρ => g ds ρ
  | _, _ => none
theorem tg_tup {K : PySem.W.Frag} {n : Nat} {t : TGs} {sl : List Nat} {g : List D → Ev → Option Ev} (h : TgsOk K t sl g) (hn : ∀ ds ρ ρ', g ds ρ = some ρ' → ds.length = n) : TgOk K true (gTup K n t) sl (bTup g) := by
  intro T S H0 H σ ρ v d ρ' Q R y e q
  rcases y with y | ⟨a, vs, ds, rfl, rfl, ha, rl⟩
  · cases y with
    | @tup a ob vs ds h1 h2 rl =>
      exact ⟨a, vs, rfl, .inl (.inr ⟨_, h1⟩), by rw [rl.length]; exact hn _ _ _ e, h T S H0 H σ ρ vs ds ρ' Q R rl e q⟩
    | _ => cases e
  · exact ⟨a, vs, rfl, .inl (.inl ha), by rw [rl.length]; exact hn _ _ _ e, h T S H0 H σ ρ vs ds ρ' Q R rl e q⟩
theorem bn_nil : ∀ ds ρ ρ', bNil ds ρ = some ρ' → ds.length = 0 := fun ds ρ ρ' h => by
  cases ds with
  | nil => rfl
  | cons _ _ => cases h
theorem bn_cons {f : D → Ev → Option Ev} {g : List D → Ev → Option Ev} {n : Nat} (h : ∀ ds ρ ρ', g ds ρ = some ρ' → ds.length = n) : ∀ ds ρ ρ', bCons f g ds ρ = some ρ' → ds.length = n + 1 := fun ds ρ ρ' e => by
  cases ds with
  | nil => cases e
  | cons d ds =>
    cases hf : f d ρ with
    | none => rw [bCons, hf] at e; cases e
    | some ρ1 =>
      rw [bCons, hf] at e
      exact congrArg (· + 1) (h _ _ _ e)
section
variable {T : List (Addr × Str)} {S : List Addr} {H0 H H' H1 : Hp} {σ : L2.St} {ρ ρ' ρ1 : Ev} {X : Cx} {W : XK} {e a b c : Expr} {pos p : Pos} {mg : Str → Option Value} {tg iter : Expr}
/-! for -/
def forL (bd : D → Ev → Option Ev) (fb : Ev → SR) : List D → Ev → SR
  | [], ρ => .nx ρ
  | d :: ds, ρ => match bd d ρ with
    | none => .no
    | some ρ1 => match fb ρ1 with
      | .nx ρ2 => forL bd fb ds ρ2
      | .ct ρ2 => forL bd fb ds ρ2
      | .bk ρ2 => .nx ρ2
      | x => x
def fFor (fi : Ev → R (List D)) (bd : D → Ev → Option Ev) (fb : Ev → SR) : Ev → SR := fun ρ => (fi ρ).toS fun ds ρ => forL bd fb ds ρ
theorem Grw.pst {x : SR} {Dn : Ends} (g : Grw H H1) (q : PstS mg T W S H0 H Dn x) : PstS mg T W S H0 H1 Dn x := q.step g.fz
theorem ps_forr {k : Bool} {fi : Ev → R (List D)} {g : TG} {sl : List Nat} {bd : D → Ev → Option Ev} {fb : Ev → SR} {body : List Stmt} (hp : PassesOwn (model X.prog X.w) X.A X.env X.xe) (hc : X.calm = true) (hi : PIr X T W tg iter k fi) (hg : PG X tg g) (ht : TgOk X.K k g sl bd) (hb : PBp X T W body fb)
    (hf : ∀ (x : Value), foldedSetIterable iter X.env x = pure x := by intro _; rfl) : PSp X T W (.For tg iter body [] pos) (fFor fi bd fb) := by
  refine weakSt (ps_for hp hc hi hg hb hf) ?_
  rintro Dn σ H ⟨S, H0, ρ, R, q⟩
  refine ⟨S, H0, ρ, R, q.of.mono fun ds ρ1 q J H1 R1 s1 J1 => ?_⟩
  have q := q.step (s1.fz R)
  refine ⟨fun i m σ' H' => i ≤ ds.length ∧ m = ds.length - i ∧ FzS H1 H' ∧ ∃ ρ', RS T S H0 H' σ' ρ' ∧ PstS X.mg T W S H0 H' Dn (forL bd fb (ds.drop i) ρ'), ⟨ds.length, Nat.zero_le _, rfl, FzS.refl _, ρ1, R1, q⟩, ?_⟩
  rintro i m σ' H' ⟨hi, rfl, fz, ρ', R', q⟩
  by_cases hl : i < ds.length
  · refine .inr ⟨J1.go i H' hl fz, fun σ2 H2 => i + 1 ≤ ds.length ∧ FzS H1 H2 ∧ ∃ ρ2, RS T S H0 H2 σ2 ρ2 ∧ PstS X.mg T W S H0 H2 Dn (forL bd fb (ds.drop (i + 1)) ρ2), ?_, ?_⟩
    · rintro σ2 H2 ⟨h1, h2, h3⟩
      exact ⟨ds.length - (i + 1), by omega, h1, rfl, h2, h3⟩
    · intro x H2 y
      obtain ⟨gr, yr⟩ := J1.yld i H' x H2 ds[i] fz y (List.getElem?_eq_getElem hl)
      rw [List.drop_eq_getElem_cons hl, forL] at q
      cases hb : bd ds[i] ρ' with
      | none => rw [hb] at q; exact q.elim
      | some ρ2 =>
        rw [hb] at q
        dsimp only at q
        refine ht T S H0 H2 σ' ρ' x _ ρ2 _ (R'.grw gr) yr hb fun σ2 R2 _ => ⟨S, H0, ρ2, R2, ?_⟩
        have q := gr.pst q
        have f2 : FzS H1 H2 := fz.trans gr.fz
        cases hq : fb ρ2 with
        | nx ρ3 => rw [hq] at q; exact fun σ3 H3 R3 f3 => ⟨hl, f2.trans f3, ρ3, R3, q.step f3⟩
        | ct ρ3 => rw [hq] at q; exact fun σ3 H3 R3 f3 => ⟨hl, f2.trans f3, ρ3, R3, q.step f3⟩
        | bk ρ3 => rw [hq] at q; exact fun σ3 H3 R3 f3 => q σ3 H3 R3 f3
        | rt r ρ3 => rw [hq] at q; exact q
        | er e => rw [hq] at q; exact q
        | no => rw [hq] at q; exact q
  · have : i = ds.length := by omega
    subst this
    refine .inl ⟨J1.stop H' fz, ?_⟩
    rw [List.drop_length, forL] at q
    exact q σ' H' R' (FzS.refl _)
/-! while -/
def whl (c : Ev → R Bool) (fb : Ev → SR) : Nat → Ev → SR
  | 0, _ => .no
  | n + 1, ρ => (c ρ).toS fun t ρ => if t = true then (match fb ρ with
      | .nx ρ2 => whl c fb n ρ2
      | .ct ρ2 => whl c fb n ρ2
      | .bk ρ2 => .nx ρ2
      | x => x) else .nx ρ
theorem whl_more {c : Ev → R Bool} {fb : Ev → SR} : ∀ (n : Nat) (ρ : Ev), whl c fb n ρ ≠ .no → whl c fb (n + 1) ρ = whl c fb n ρ
  | 0, ρ, h => (h rfl).elim
  | n + 1, ρ, h => by
    rw [whl] at h
    rw [whl, whl]
    cases hc : c ρ with
    | ok t ρ1 =>
      rw [hc] at h
      cases t with
      | false => rfl
      | true =>
        simp only [R.toS, if_pos] at h ⊢
        cases hb : fb ρ1 with
        | nx ρ2 =>
          rw [hb] at h
          exact whl_more n ρ2 h
        | ct ρ2 =>
          rw [hb] at h
          exact whl_more n ρ2 h
        | _ => rfl
    | er e => rfl
    | no => rfl
theorem whl_le {c : Ev → R Bool} {fb : Ev → SR} {n : Nat} {ρ : Ev} (h : whl c fb n ρ ≠ .no) : ∀ k, whl c fb (n + k) ρ = whl c fb n ρ
  | 0 => rfl
  | k + 1 => by
    have e := whl_le h k
    rw [← Nat.add_assoc, whl_more (n + k) ρ (by rw [e]; exact h), e]
open Classical in
noncomputable def fWhile (c : Ev → R Bool) (fb : Ev → SR) : Ev → SR := fun ρ => if h : ∃ n, whl c fb n ρ ≠ .no then whl c fb (choose h) ρ else .no
theorem fWhile_of {c : Ev → R Bool} {fb : Ev → SR} {n : Nat} {ρ : Ev} {x : SR} (h : whl c fb n ρ = x) (hx : x ≠ .no) : fWhile c fb ρ = x := by
  subst h
  have he : ∃ n, whl c fb n ρ ≠ .no := ⟨n, hx⟩
  unfold fWhile
  rw [dif_pos he]
  have h2 := Classical.choose_spec he
  generalize Classical.choose he = m at h2
  have e1 := whl_le h2 n
  have e2 := whl_le hx m
  rw [Nat.add_comm] at e2
  rw [← e1, e2]
theorem fWhile_eq {c : Ev → R Bool} {fb : Ev → SR} {ρ : Ev} : ∃ n, fWhile c fb ρ = whl c fb n ρ := by
  unfold fWhile
  by_cases h : ∃ n, whl c fb n ρ ≠ .no
  · rw [dif_pos h]
    exact ⟨_, rfl⟩
  · rw [dif_neg h]
    exact ⟨0, rfl⟩
theorem ps_whl {f : Ev → R Bool} {fb : Ev → SR} {body : List Stmt} (hp : PassesOwn (model X.prog X.w) X.A X.env X.xe) (hc : PTt X T W c f) (hb : PBp X T W body fb) : PSp X T W (.While c body [] pos) (fWhile f fb) := by
  refine weakSt (ps_while hp hc hb) ?_
  rintro Dn σ H ⟨S, H0, ρ, R, q⟩
  obtain ⟨n, hn⟩ := fWhile_eq (c := f) (fb := fb) (ρ := ρ)
  rw [hn] at q
  refine ⟨fun m σ' H' => ∃ ρ', RS T S H0 H' σ' ρ' ∧ PstS X.mg T W S H0 H' Dn (whl f fb m ρ'), ⟨n, ρ, R, q⟩, ?_⟩
  rintro m σ' H' ⟨ρ', R', q⟩
  cases m with
  | zero => exact q.elim
  | succ m =>
    rw [whl] at q
    refine stT R' q fun t ρ1 H1 R1 s1 q => ?_
    cases t with
    | false => exact iteF (q σ' H1 R1 (FzS.refl _))
    | true =>
      refine iteT ⟨fun σ2 H2 => ∃ ρ2, RS T S H0 H2 σ2 ρ2 ∧ PstS X.mg T W S H0 H2 Dn (whl f fb m ρ2), fun σ2 H2 h => ⟨m, Nat.lt_succ_self m, h⟩, S, H0, ρ1, R1, ?_⟩
      simp only [if_pos] at q
      cases hq : fb ρ1 with
      | nx ρ3 => rw [hq] at q; exact fun σ3 H3 R3 f3 => ⟨ρ3, R3, q.step f3⟩
      | ct ρ3 => rw [hq] at q; exact fun σ3 H3 R3 f3 => ⟨ρ3, R3, q.step f3⟩
      | bk ρ3 => rw [hq] at q; exact fun σ3 H3 R3 f3 => q σ3 H3 R3 f3
      | rt r ρ3 => rw [hq] at q; exact q
      | er e => rw [hq] at q; exact q
      | no => rw [hq] at q; exact q
end
end Pu
/-! PuL -/
set_option maxRecDepth 100000
namespace Pu
open PySem PySem.Spec
    PyProof.Rows L2
/-! list comprehensions -/
def wipeE (ρ : Ev) : List Nat → Ev
  | [] => ρ
  | v :: vs => (wipeE ρ vs).set v .un
def noE {α : Type} : R α → R α
  | .er _ => .no
  | x => x
def lcL (bd : D → Ev → Option Ev) (fc : Ev → R Bool) (fe : Ev → R D) (vs : List Nat) : List D → Ev → R (List D)
  | [], ρ => .ok [] ρ
  | d :: ds, ρ => match bd d ρ with
    | none => .no
    | some ρ1 => (noE (fc ρ1)).bind fun t ρ2 => if t = true then (noE (fe ρ2)).bind fun y ρ3 => (lcL bd fc fe vs ds (wipeE ρ3 vs)).bind fun ys ρ4 => .ok (y :: ys) ρ4 else lcL bd fc fe vs ds (wipeE ρ2 vs)
def fLc (fi : Ev → R (List D)) (bd : D → Ev → Option Ev) (fc : Ev → R Bool) (fe : Ev → R D) (vs : List Nat) : Ev → R SV :=
  fun ρ => (fi ρ).bind fun ds ρ => (lcL bd fc fe vs ds (wipeE ρ vs)).bind fun ys ρ => if ys.length ≤ LIM then .ok (.own none (.lst ys)) ρ else .no
theorem wipe_get (σ : L2.St) : ∀ (vs : List Nat) (j : Nat), (wipe σ vs)[j]? = if j ∈ vs then (σ[j]?).map (fun _ => none) else σ[j]?
  | [], j => by simp [wipe]
  | v :: vs, j => by
    show ((wipe σ vs).set v none)[j]? = _
    by_cases e : j = v
    · subst e
      rw [if_pos (by simp), List.getElem?_set]
      have := wipe_get σ vs j
      by_cases h : j < (wipe σ vs).length
      · rw [if_pos rfl, if_pos h]
        rw [List.getElem?_eq_getElem h] at this
        cases hs : σ[j]? with
        | none => rw [hs] at this; split at this <;> cases this
        | some w => rfl
      · rw [if_pos rfl, if_neg h]
        rw [List.getElem?_eq_none (by omega)] at this
        cases hs : σ[j]? with
        | none => rfl
        | some w => rw [hs] at this; split at this <;> cases this
    · rw [List.getElem?_set_ne (Ne.symm e), wipe_get σ vs j]
      have : (j ∈ v :: vs) ↔ j ∈ vs := by simp [e]
      simp only [this]
theorem wipeE_get (ρ : Ev) : ∀ (vs : List Nat) (j : Nat), (wipeE ρ vs)[j]? = if j ∈ vs then (ρ[j]?).map (fun _ => .un) else ρ[j]?
  | [], j => by simp [wipeE]
  | v :: vs, j => by
    show ((wipeE ρ vs).set v .un)[j]? = _
    by_cases e : j = v
    · subst e
      rw [if_pos (by simp), List.getElem?_set]
      have := wipeE_get ρ vs j
      by_cases h : j < (wipeE ρ vs).length
      · rw [if_pos rfl, if_pos h]
        rw [List.getElem?_eq_getElem h] at this
        cases hs : ρ[j]? with
        | none => rw [hs] at this; split at this <;> cases this
        | some w => rfl
      · rw [if_pos rfl, if_neg h]
        rw [List.getElem?_eq_none (by omega)] at this
        cases hs : ρ[j]? with
        | none => rfl
        | some w => rw [hs] at this; split at this <;> cases this
    · rw [List.getElem?_set_ne (Ne.symm e), wipeE_get ρ vs j]
      have : (j ∈ v :: vs) ↔ j ∈ vs := by simp [e]
      simp only [this]
theorem wipe_len (σ : L2.St) : ∀ vs : List Nat, (wipe σ vs).length = σ.length
  | [] => rfl
  | v :: vs => by
    show ((wipe σ vs).set v none).length = _
    rw [List.length_set, wipe_len σ vs]
theorem wipeE_len (ρ : Ev) : ∀ vs : List Nat, (wipeE ρ vs).length = ρ.length
  | [] => rfl
  | v :: vs => by
    show ((wipeE ρ vs).set v .un).length = _
    rw [List.length_set, wipeE_len ρ vs]
section
variable {T : List (Addr × Str)} {S : List Addr} {H0 H H' H1 : Hp} {σ σ' : L2.St} {ρ ρ' ρ1 : Ev} {X : Cx} {W : XK} {e a b c : Expr} {pos p : Pos} {mg : Str → Option Value} {tg iter : Expr} {vs sl : List Nat}
theorem own_wipe {i : Nat} {a : Addr} (h : Own (wipe σ vs) (wipeE ρ vs) i a) : i ∉ vs ∧ Own σ ρ i a := by
  obtain ⟨h1, t, o, h2⟩ := h
  rw [wipeE_get] at h2
  by_cases e : i ∈ vs
  · rw [if_pos e] at h2
    cases hs : ρ[i]? with
    | none => rw [hs] at h2; cases h2
    | some w => rw [hs] at h2; cases h2
  · rw [if_neg e] at h2
    rw [wipe_get, if_neg e] at h1
    exact ⟨e, h1, t, o, h2⟩
/-- own names are told nothing of -/
theorem RS.wipe (R : RS T S H0 H σ ρ) (vs : List Nat) : RS T S H0 H (L2.wipe σ vs) (wipeE ρ vs) := by
  refine ⟨by rw [wipe_len, wipeE_len]; exact R.len, fun j x hx => ?_, fun j j' b h1 h2 => R.sep j j' b (own_wipe h1).2 (own_wipe h2).2, fun j b h => R.new j b (own_wipe h).2, R.fr, R.tab, R.nt, R.dm⟩
  rw [wipeE_get] at hx
  rw [wipe_get]
  by_cases e : j ∈ vs
  · rw [if_pos e] at hx ⊢
    cases hs : ρ[j]? with
    | none => rw [hs] at hx; cases hx
    | some w =>
      rw [hs] at hx
      cases hx
      cases (Option.map (fun _ => (none : Option V)) σ[j]?).getD none <;> trivial
  · rw [if_neg e] at hx ⊢
    exact R.slot j x hx
def UnAt (vs : List Nat) (ρ : Ev) : Prop := ∀ v ∈ vs, ∀ x, ρ[v]? = some x → x = .un
theorem unAt_wipeE : UnAt vs (wipeE ρ vs) := fun v hv x hx => by
  rw [wipeE_get, if_pos hv] at hx
  cases hs : ρ[v]? with
  | none => rw [hs] at hx; cases hx
  | some w => rw [hs] at hx; cases hx; rfl
theorem own_unwipe (u : UnAt vs ρ) {i : Nat} {a : Addr} : Own σ ρ i a ↔ Own (L2.wipe σ vs) ρ i a := by
  constructor
  · rintro ⟨h1, t, o, h2⟩
    refine ⟨?_, t, o, h2⟩
    rw [wipe_get, if_neg fun e => nomatch u i e _ h2]
    exact h1
  · rintro ⟨h1, t, o, h2⟩
    refine ⟨?_, t, o, h2⟩
    rw [wipe_get, if_neg fun e => nomatch u i e _ h2] at h1
    exact h1
theorem RS.unwipe (R : RS T S H0 H (L2.wipe σ vs) ρ) (u : UnAt vs ρ) : RS T S H0 H σ ρ := by
  refine ⟨by rw [← R.len, wipe_len], fun j x hx => ?_, fun j j' b h1 h2 => R.sep j j' b ((own_unwipe u).1 h1) ((own_unwipe u).1 h2), fun j b h => R.new j b ((own_unwipe u).1 h), R.fr, R.tab, R.nt, R.dm⟩
  by_cases e : j ∈ vs
  · rw [u j e x hx]
    cases σ[j]?.getD none <;> trivial
  · have := R.slot j x hx
    rw [wipe_get, if_neg e] at this
    exact this
/-- an object that is no slot's own is changed -/
theorem RS.updD (R : RS T S H0 H σ ρ) {a : Addr} {u w : HO} (h : H a = some u) (mu : Mu u) (n : ∀ i, ¬ Own σ ρ i a) (n2 : H0 a = none) (hne : ∀ c q, u ≠ LamX.CodeO c q) : RS T S H0 (upd H a w) σ ρ := by
  have k : FzS H (upd H a w) := fun b ob w e => by
    rw [upd_ne (fun z => by rw [z, h] at e; cases e; exact mu.nofrz)]
    exact e
  refine ⟨R.len, fun i x hx => ?_, R.sep, R.new, fun b o e1 e2 => ?_, ?_, R.nt, fun b e => R.dm b (by
    by_cases z : b = a
    · subst z; rw [upd_same] at e; cases e
    · rw [upd_ne z] at e; exact e)⟩
  · have q := R.slot i x hx
    cases hs : σ[i]?.getD none with
    | none =>
      rw [hs] at q
      cases x with
      | un => trivial
      | _ => exact q
    | some v =>
      rw [hs] at q
      cases x with
      | un => trivial
      | d z => exact Rp.k q k
      | own t o =>
        obtain ⟨b, ho, e1, e2, mu', ob, m⟩ := q
        have hb : b ≠ a
            := fun z => by
          subst z
          subst e1
          refine n i ⟨?_, t, o, hx⟩
          cases hs2 : σ[i]? with
          | none => rw [hs2] at hs; cases hs
          | some w => rw [hs2] at hs; exact congrArg some hs
        exact ⟨b, ho, e1, by rw [upd_ne hb]; exact e2, mu', ob.k k, m⟩
      | fz o =>
        obtain ⟨b, ob, ho, e1, e2, r⟩ := q
        exact ⟨b, ob, ho, e1, k _ _ _ e2, r.k k⟩
      | raw w => exact q
  · rw [upd_ne (fun z => by rw [z, n2] at e1; cases e1)]
    exact R.fr b o e1 e2
  · intro p hp
    obtain ⟨ps, h1, h2, h3⟩ := R.tab p hp
    have hpa : p.1 ≠ a := fun z => by
      rw [z, h] at h1
      cases h1
      exact mu.notbl
    refine ⟨ps, by rw [upd_ne hpa]; exact h1, h2, fun pos cv hc => ?_⟩
    obtain ⟨c, e1, e2⟩
        := h3 pos cv hc
    refine ⟨c, e1, ?_⟩
    rw [upd_ne (fun z => by
      rw [z, h] at e2
      exact hne _ _ (Option.some.inj e2))]
    exact e2
theorem wipe_keep {σ1 : L2.St} (k : Keeps sl (L2.wipe σ vs) ρ σ1 ρ1) (hs : ∀ i ∈ sl, i ∈ vs) : L2.wipe σ1 vs = L2.wipe σ vs := by
  refine List.ext_getElem?
      fun j => ?_
  rw [wipe_get, wipe_get]
  by_cases e : j ∈ vs
  · rw [if_pos e, if_pos e]
    have : j < σ1.length ↔ j < σ.length := by rw [k.len, wipe_len]
    by_cases h : j < σ.length
    · rw [List.getElem?_eq_getElem h, List.getElem?_eq_getElem (this.2 h)]
      rfl
    · rw [List.getElem?_eq_none (l := σ1) (by have := mt this.1 h; omega), List.getElem?_eq_none (l := σ) (by omega)]
  · rw [if_neg e, if_neg e, k.get j fun z => e (hs j z), wipe_get, if_neg e]
theorem noE_ok {α β : Type} {ok : β → Ev → Prop} {x : R α} {g : α → Ev → R β} (q : PstG mg T W S H0 ok ((noE x).bind g)) : PstG mg T E0 S H0 (fun y ρ1 => PstG mg T W S H0 ok (g y ρ1)) x := by
  cases x with
  | ok y ρ1 => exact q
  | er e => exact q.elim
  | no => exact q.elim
theorem noE_er {α : Type} {x : R α} {e : Er} : noE x ≠ .er e := by
  cases x <;> intro h <;> cases h
theorem bind_er {α β : Type} {x : R α} {f : α → Ev → R β} {e : Er} (h : x.bind f = .er e) : x = .er e ∨ ∃ a ρ, x = .ok a ρ ∧ f a ρ = .er e := by
  cases x with
  | ok a ρ => exact .inr ⟨a, ρ, rfl, h⟩
  | er e => exact .inl (by cases h; rfl)
  | no => cases h
theorem lcL_er {bd : D → Ev → Option Ev} {fc : Ev → R Bool} {fe : Ev → R D} : ∀ (ds : List D) (ρ : Ev) (e : Er), lcL bd fc fe vs ds ρ ≠ .er e
  | [], ρ, e, h => by cases h
  | d :: ds, ρ, e, h => by
    rw [lcL] at h
    cases hb : bd d ρ with
    | none =>
        rw [hb] at h; cases h
    | some ρ1 =>
      rw [hb] at h
      rcases bind_er h with h | ⟨t, ρ2, _, h⟩
      · exact noE_er h
      · cases t with
        | false => exact lcL_er ds _ e h
        | true =>
          rcases bind_er h with h | ⟨y, ρ3, _, h⟩
          · exact noE_er h
          · rcases bind_er h with h | ⟨z, ρ4, _, h⟩
            · exact lcL_er ds _ e h
            · cases h
/-- own names' values are of no account behind a comprehension -/
theorem own_blk {σ1 : L2.St} (e : L2.wipe σ1 vs = L2.wipe σ vs) {i : Nat} {a : Addr} (h : Own (L2.wipe σ vs) (wipeE ρ vs) i a) : Own σ1 ρ i a := by
  rw [← e] at h
  exact (own_wipe h).2
theorem tLc_of {k : Bool} {fi : Ev → R (List D)} {g : TG} {bd : D → Ev → Option Ev} {fc : Ev → R Bool} {fe : Ev → R D} {K : PySem.W.Frag} {Q : VK} (ht : TgOk K k g sl bd) (hs : ∀ i ∈ sl, i ∈ vs) (h : tP mg T W (fLc fi bd fc fe vs) σ H Q) :
    tLc (tI mg T W k fi) g (tT mg T E0 fc) (tD mg T E0 fe) vs σ H Q := by
  obtain ⟨S, H0, ρ, R, q⟩ := h
  refine ⟨S, H0, ρ, R, q.bind.mono fun ds ρ1 q J H1 R1 s1 J1 Da hD => ?_⟩
  have q := q.bind
  have hn : ∀ i, ¬ Own σ ρ1 i Da := R1.fresh hD
  obtain ⟨d0, dS⟩ := R1.dm Da hD
  let Iv : Nat → Hp → Prop := fun i H2 => i ≤ ds.length ∧ FzS H1 H2 ∧ ∃ ρ2 acc ys, RS T S H0 H2 (L2.wipe σ vs) ρ2 ∧ UnAt vs ρ2 ∧ (∀ j a, Own (L2.wipe σ vs) ρ2 j a → Own σ ρ1 j a) ∧ (∀ b o, H1 b = some o → (∀ j, ¬ Own σ ρ1 j b) → NoTbl o → H2 b = some o) ∧ (∀ b, Emp H2 b → Emp H1 b)
    ∧ H2 Da = some (.lst acc) ∧ RpL H2 acc ys ∧ PstG mg T W S H0 (fun zs ρ3 => Pst mg T W S H0 H σ ρ Q (if (ys ++ zs).length ≤ LIM then .ok (.own none (.lst (ys ++ zs))) ρ3 else .no)) (lcL bd fc fe vs (ds.drop i) ρ2)
  have hg0 : Grw H1 (upd H1 Da (.lst [])) := Grw.new hD
  refine ⟨fun i m H2 => m = ds.length - i ∧ Iv i H2, ⟨ds.length, by omega, Nat.zero_le _, hg0.fz, wipeE ρ1 vs, [], [], (R1.grw hg0).wipe vs, unAt_wipeE, fun j a h => (own_wipe h).2, fun b o h _ _ => hg0 b o h, fun b h => hg0.emp h, upd_same, .nil, q⟩, ?_⟩
  rintro i m H2 ⟨rfl, hi, fz, ρ2, acc, ys, R2, u2, ow, kp, dm2, hDa, rl, q⟩
  by_cases hl : i < ds.length
  · refine .inr ⟨J1.go i H2 hl fz, fun H3 => Iv (i + 1) H3, fun H3 h => ⟨ds.length - (i + 1), by omega, rfl, h⟩, ?_⟩
    intro x H3 y
    obtain ⟨gr, yr⟩ := J1.yld i H2 x H3 ds[i] fz y (List.getElem?_eq_getElem hl)
    rw [List.drop_eq_getElem_cons hl, lcL] at q
    cases hb : bd ds[i] ρ2 with
    | none => rw [hb] at q; exact q.elim
    | some ρ3 =>
      rw [hb] at q
      dsimp only at q
      refine ht T S H0 H3 (L2.wipe σ vs) ρ2 x _ ρ3 _ (R2.grw gr) yr hb fun σ3 R3 k3 => ⟨wipe_keep k3 hs, ?_⟩
      have ew := wipe_keep k3 hs
      refine ⟨S, H0, ρ3, R3, (noE_ok q).mono fun t ρ4 q H4 R4 s4 => ?_⟩
      have dn3 : ∀ j, ¬ Own σ3 ρ3 j Da := fun j h => hn j (ow j _ (k3.own j _ h))
      have hD3 : H3 Da = some (.lst acc) := gr _ _ hDa
      have nt : NoTbl (.lst acc) := fun _ z => nomatch z
      have hD4 := s4.keep Da _ hD3 dn3 nt
      have rl4 := (rl.k gr.fz).k (s4.fz R3)
      have fz4 : FzS H1 H4 := (fz.trans gr.fz).trans (s4.fz R3)
      have ow4 : ∀ j a, Own σ3 ρ4 j a → Own σ ρ1 j a := fun j a h => ow j a (k3.own j a (s4.own j a h))
      have kp4 : ∀ b o, H1 b = some o → (∀ j, ¬ Own σ ρ1 j b) → NoTbl o → H4 b = some o := fun b o h n t => s4.keep b o (gr b o (kp b o h n t)) (fun j z => n j (ow j b (k3.own j b z))) t
      have dm4 : ∀ b, Emp H4 b → Emp H1 b := fun b h => dm2 b (gr.emp (s4.dm b h))
      cases t with
      | false =>
        refine iteF ?_
        rw [if_neg (by decide)] at q
        refine ⟨hl, fz4, wipeE ρ4 vs, acc, ys, ?_, unAt_wipeE, fun j a h => ow4 j a (own_blk ew h), kp4, dm4, hD4, rl4, q⟩
        have := R4.wipe vs
        rw [ew] at this
        exact this
      | true =>
        refine iteT ?_
        rw [if_pos rfl] at q
        refine ⟨S, H0, ρ4, R4, (noE_ok q).mono fun y ρ5 q v H5 R5 s5 ry => ?_⟩
        have dn4 : ∀ j, ¬ Own σ3 ρ4 j Da := fun j h => dn3 j (s4.own j _ h)
        have dn5 : ∀ j, ¬ Own σ3 ρ5 j Da := fun j h => dn4 j (s5.own j _ h)
        have hD5 := s5.keep Da _ hD4 dn4 nt
        have rl5 := rl4.k (s5.fz R4)
        have q := q.bind
        refine ⟨acc, hD5, ?_, hl, ?_⟩
        · -- the size
          cases hr : lcL bd fc fe vs (List.drop (i + 1) ds) (wipeE ρ5 vs) with
          | ok zs ρ6 =>
            rw [hr] at q
            have h6 : Pst mg T W S H0 H σ ρ Q (if (ys ++ y :: zs).length ≤ LIM then .ok (.own none (.lst (ys ++ y :: zs))) ρ6 else .no) := q
            obtain ⟨hl6, _⟩ := ite_ok h6
            have := lim_le hl6
            rw [List.length_append, List.length_cons] at this
            rw [rl.length]
            omega
          | er e =>
            exact (lcL_er _ _ _ hr).elim
          | no => rw [hr] at q; exact q.elim
        · have kk : FzS H5 (upd H5 Da (.lst (acc ++ [v]))) := fun b ob w e => by
            rw [upd_ne (fun z => by rw [z, hD5] at e; cases e)]
            exact e
          have R6 := R5.updD (w := .lst (acc ++ [v])) hD5 trivial dn5 d0 (ObR.nocode (.lst rl5))
          refine ⟨(fz4.trans (s5.fz R4)).trans kk, wipeE ρ5 vs, acc ++ [v], ys ++ [y], ?_, unAt_wipeE, fun j a h => ow4 j a (s5.own j a (own_blk ew h)), fun b o h n t => ?_, fun b h => ?_, upd_same, (rl5.k kk).append (.one (ry.k kk)), ?_⟩
          · have := R6.wipe vs
            rw [ew] at this
            exact this
          · rw [upd_ne (fun z => by rw [z, hD] at h; cases h)]
            exact s5.keep b o (kp4 b o h n t) (fun j z => n j (ow4 j b z)) t
          · exact dm4 b (s5.dm b (emp_lst h))
          · refine q.mono fun zs ρ6 q => ?_
            have e : (ys ++ [y]) ++ zs = ys ++ y :: zs := by rw [List.append_assoc]; rfl
            rw [e]
            exact q
  · have : i = ds.length := by omega
    subst this
    refine .inl ⟨J1.stop H2 fz, ?_⟩
    rw [List.drop_length, lcL] at q
    have q : Pst mg T W S H0 H σ ρ Q _ := q
    rw [List.append_nil] at q
    obtain ⟨hl6, q⟩ := ite_ok q
    have R3 := R2.unwipe u2
    have own3 : ∀ j a, Own σ ρ2 j a → Own σ ρ1 j a := fun j a h => ow j a ((own_unwipe u2).1 h)
    refine q _ H2 R3 (s1.trans ⟨kp, own3, dm2⟩) ⟨rfl, Da, _, rfl, hDa, trivial, .lst rl, fun j h => hn j (own3 j _ h), d0, dS⟩ fun a e => ?_
    cases e
    exact .inl (s1.dm _ (.inl hD))
/-! [e for tg in xs if c] -/
def fYes : Ev → R Bool := fun ρ => .ok true ρ
abbrev PTr (X : Cx) (T : List (Addr × Str)) (W : XK) (es : List Expr) (f : Ev → R Bool) : Prop := PTs X es (tT X.mg T W f)
theorem ptr_nil : PTr X T W [] fYes := ⟨fun pins s σ H Q I ⟨S, H0, ρ, R, q⟩ => pts_nil.run pins s σ H Q I (q H R (Stp.refl _ _ _))⟩
theorem ptr_one {f : Ev → R Bool} (h : PTt X T W c f) : PTr X T W [c] f := pts_one h
theorem pp_lc {elt : Expr} {ifs : List Expr} {scope : Scope} {own : List (Str × Nat)} {k : Bool} {fi : Ev → R (List D)} {g : TG} {bd : D → Ev → Option Ev} {fc : Ev → R Bool} {fe : Ev → R D} (hc : X.calm = true) (hN : X.N.Nodup) (hi : PIr X T W tg iter k fi) (ok : BlkOk X.N X.env.scope scope own)
    (hg : ∀ (s : Shared) (H : Hp) (C : Addr) (cl : List (Str × Addr)) (fp : List Addr), PG (X.blk s H scope (compEnvC scope cl C X.env) fp) tg g) (ht : TgOk X.K k g sl bd) (hs : ∀ i ∈ sl, i ∈ own.map (·.2))
    (hf : ∀ (s : Shared) (H : Hp) (C : Addr) (cl : List (Str × Addr)) (fp : List Addr), PTr (X.blk s H scope (compEnvC scope cl C X.env) fp) T E0 ifs fc)
    (he : ∀ (s : Shared) (H : Hp) (C : Addr) (cl : List (Str × Addr)) (fp : List Addr), PD (X.blk s H scope (compEnvC scope cl C X.env) fp) T E0 elt fe)
    (hfs : ∀ (x : Value), foldedSetIterable iter X.env x = pure x := by intro _; rfl) : PP X T W (.ListComp elt [⟨tg, iter, ifs, 0⟩] scope pos) (fLc fi bd fc fe (own.map (·.2))) :=
  weakE (pe_lc hc hN hi ok hg hf he hfs) fun σ H Q h => tLc_of ht hs h
theorem ps_stLc {i : Nat} {y : Str} {py spos : Pos} {elt : Expr} {ifs : List Expr} {scope : Scope} {own : List (Str × Nat)} {k : Bool} {fi : Ev → R (List D)} {g : TG} {bd : D → Ev → Option Ev} {fc : Ev → R Bool} {fe : Ev → R D} (hc : X.calm = true) (hN : X.N.Nodup) (hy : X.N[i]? = some y) (hl : List.lookup y X.env.scope.names = some NameKind.local)
    (hsw : swapsWith (.ListComp elt [⟨tg, iter, ifs, 0⟩] scope pos) (some (.Name y py)) spos.line X.env = pure true) (hi : PIr X T W tg iter k fi) (ok : BlkOk X.N X.env.scope scope own)
    (hg : ∀ (s : Shared) (H : Hp) (C : Addr) (cl : List (Str × Addr)) (fp : List Addr), PG (X.blk s H scope (compEnvC scope cl C X.env) fp) tg g) (ht : TgOk X.K k g sl bd) (hs : ∀ i ∈ sl, i ∈ own.map (·.2))
    (hf : ∀ (s : Shared) (H : Hp) (C : Addr) (cl : List (Str × Addr)) (fp : List Addr), PTr (X.blk s H scope (compEnvC scope cl C X.env) fp) T E0 ifs fc)
    (he : ∀ (s : Shared) (H : Hp) (C : Addr) (cl : List (Str × Addr)) (fp : List Addr), PD (X.blk s H scope (compEnvC scope cl C X.env) fp) T E0 elt fe)
    (hfs : ∀ (x : Value), foldedSetIterable iter X.env x = pure x := by intro _; rfl) : PSp X T W (.Assign [.Name y py] (.ListComp elt [⟨tg, iter, ifs, 0⟩] scope pos) spos) (fSet i (fLc fi bd fc fe (own.map (·.2)))) := by
  refine weakSt (ps_setLc (tt := tT X.mg T E0 fc) (te := tD X.mg T E0 fe) hc hN hy hl hsw hi ok hg hf he hfs) ?_
  rintro Dn σ H ⟨S, H0, ρ, R, q⟩
  exact tLc_of ht hs (stP R q fun y ρ1 v H1 R1 s1 v1 _ q => q _ H1 (R1.set v1 i) (FzS.refl H1))
end
end Pu
/-! PuM -/
set_option maxRecDepth 100000
namespace Pu
open PySem PySem.Spec
    PyProof.Rows L2
section
variable {T : List (Addr × Str)} {S : List Addr} {H0 H H' H1 : Hp} {σ σ' : L2.St} {ρ ρ' ρ1 : Ev} {X : Cx} {W : XK} {e a b c : Expr} {pos p apos cpos : Pos} {mg : Str → Option Value} {tg iter : Expr}
theorem own_put {i j : Nat} {a : Addr} {t : Option Nat} {o o' : OB} (hi : ρ[i]? = some (.own t o)) : Own σ (ρ.set i (.own t o')) j a ↔ Own σ ρ j a := by
  have hl := (List.getElem?_eq_some_iff.mp hi).1
  by_cases e : j = i
  · subst e
    constructor
    · rintro ⟨h1, _⟩
      exact ⟨h1, t, o, hi⟩
    · rintro ⟨h1, _⟩
      exact ⟨h1, t, o', List.getElem?_set_self hl⟩
  · constructor
    · rintro ⟨h1, u, w, h2⟩
      rw [List.getElem?_set_ne (Ne.symm e)] at h2
      exact ⟨h1, u, w, h2⟩
    · rintro ⟨h1, u, w, h2⟩
      exact ⟨h1, u, w, by rw [List.getElem?_set_ne (Ne.symm e)]; exact h2⟩
/-- a slot's own object is changed -/
theorem RS.mut (R : RS T S H0 H σ ρ) {i : Nat} {t : Option Nat} {o o' : OB} {a : Addr} {ho' : HO} (hi : ρ[i]? = some (.own t o)) (hs : σ[i]? = some (some (.ref a))) (mu' : Mu ho') (ob' : ObR H ho' o') :
    RS T S H0 (upd H a ho') σ (ρ.set i (.own t o')) ∧ Stp σ ρ (ρ.set i (.own t o')) H (upd H a ho') := by
  have own : Own σ ρ i a := ⟨hs, t, o, hi⟩
  obtain ⟨ho, t2, o2, ha, mu, e2, ob, z1, z2⟩ := R.own own
  rw [hi] at e2
  cases e2
  have hl := (List.getElem?_eq_some_iff.mp hi).1
  have k : FzS H (upd H a ho') := fun b ob w e => by
    rw [upd_ne (fun z => by rw [z, ha] at e; cases e; exact mu.nofrz)]
    exact e
  have hne := ob.nocode
  refine ⟨⟨by rw [List.length_set]; exact R.len, fun j x hx => ?_, fun j j' b h1 h2 => R.sep j j' b ((own_put hi).1 h1) ((own_put hi).1 h2), fun j b h => R.new j b ((own_put hi).1 h), fun b w e1 e2 => ?_, ?_, R.nt, fun b e => R.dm b (by
    by_cases z : b = a
    · subst z; rw [upd_same] at e; cases e
    · rw [upd_ne z] at e; exact e)⟩, fun b w h n u => ?_, fun j b h => (own_put hi).1 h, fun b e => emp_upd mu'.notb e⟩
  · by_cases e : j = i
    · subst e
      rw [List.getElem?_set_self hl] at hx
      cases hx
      rw [hs]
      exact ⟨a, ho', rfl, upd_same, mu', ob'.k k, z1, z2⟩
    · rw [List.getElem?_set_ne (Ne.symm e)] at hx
      have q := R.slot j x hx
      cases hs2 : σ[j]?.getD none with
      | none =>
        rw [hs2] at q
        cases x with
        | un => trivial
        | _ => exact q
      | some v =>
        rw [hs2] at q
        cases x with
        | un => trivial
        | d z => exact Rp.k q k
        | own t3 o3 =>
          obtain ⟨b, h3, e1, e2, mu3, ob3, m⟩ := q
          have hb : b ≠ a
              := fun z => by
            subst z
            subst e1
            refine e (R.sep j i b ⟨?_, t3, o3, hx⟩ own)
            cases hs3 : σ[j]? with
            | none => rw [hs3] at hs2; cases hs2
            | some w => rw [hs3] at hs2; exact congrArg some hs2
          exact ⟨b, h3, e1, by rw [upd_ne hb]; exact e2, mu3, ob3.k k, m⟩
        | fz o3 =>
          obtain ⟨b, ob3, h3, e1, e2, r⟩ := q
          exact ⟨b, ob3, h3, e1, k _ _ _ e2, r.k k⟩
        | raw w => exact q
  · have hb : b ≠ a
      := fun z => by
      subst z
      rcases R.new i b own with z | z
      · exact e2 z
      · rw [z] at e1; cases e1
    rw [upd_ne hb]
    exact R.fr b w e1 e2
  · intro q hq
    obtain ⟨ps, h1, h2, h3⟩ := R.tab q hq
    have hpa : q.1 ≠ a := fun z => by
      rw [z, ha] at h1
      cases h1
      exact mu.notbl
    refine ⟨ps, by rw [upd_ne hpa]; exact h1, h2, fun pos cv hc => ?_⟩
    obtain ⟨c, e1, e2⟩
        := h3 pos cv hc
    refine ⟨c, e1, ?_⟩
    rw [upd_ne (fun z => by
      rw [z, ha] at e2
      exact hne _ _ (Option.some.inj e2))]
    exact e2
  · rw [upd_ne (fun z => by subst z; exact n i own)]
    exact h
/-- an own list in a slot -/
def ownL (ρ : Ev) (i : Nat) : Option (Option Nat × List D) := match ρ[i]? with
  | some (.own t (.lst xs)) => some (t, xs)
  | _ => none
theorem ownL_of (R : RS T S H0 H σ ρ) {i : Nat} {t : Option Nat} {xs : List D} (h : ownL ρ i = some (t, xs)) : ρ[i]? = some (.own t (.lst xs)) ∧ ∃ a vs, σ[i]? = some (some (.ref a)) ∧ H a = some (.lst vs) ∧ RpL H vs xs := by
  unfold ownL at h
  split at h
  · rename_i t2 ys e1
    cases h
    refine ⟨e1, ?_⟩
    obtain ⟨v, e2, a, ho, rfl, ha, mu, ob, _⟩ := slot_some R e1 (fun z => nomatch z)
    cases ob with
    | lst r => exact ⟨a, _, e2, ha, r⟩
  · cases h
/-- xs.append(e) -/
def fApp (i : Nat) (f : Ev → R D) : Ev → R SV := fun ρ => (opt (ownL ρ i) ρ).bind fun _ ρ => (f ρ).bind fun y ρ => (opt (ownL ρ i) ρ).bind fun q ρ => if q.2.length < LIM then .ok (.d .none) (ρ.set i (.own q.1 (.lst (q.2 ++ [y])))) else .no
theorem pp_app {i : Nat} {x : Str} {f : Ev → R D} (hN : X.N[i]? = some x) (hv : Vis X.env.scope x) (ha : PD X T W e f) (hd : (x == ("__debug__" : Str)) = false := by decide) (hcd : (x == ("__classdict__" : Str)) = false := by decide)
    (hbase : attributeBase (.Name x p) (Str.ofString "append") X.env (eval (.Name x p) X.env) = eval (.Name x p) X.env := by rfl)
    (hfew : ((backTo cpos (starEach [e] X.env)).all (fun x => !x.1) && (backToKw cpos (keywordEach [] X.env)).all (fun x => x.1.isSome) && decide ([e].length + ([] : List Keyword).length + (if ([] : List Keyword).isEmpty then 0 else 1) < 30)) = true := by rfl)
    (hline : (apos.endLine == cpos.line) = true := by rfl) (hs : starEach [e] X.env = (false, eval e X.env) :: starEach [] X.env := by rfl) (hpl : (backTo cpos (starEach [] X.env)).any (·.1) = false := by rfl) :
    PP X T W (.Call (.Attribute (.Name x p) "append" apos) [e] [] cpos) (fApp i f) := by
  refine weakE (pe_bm PySem.F.plainAttrs_list PySem.F.slot_list_append PySem.F.type_list_append mt_append (pe_var hN hv hd hcd) (pa_cons ha pa_nil hs) hbase hfew hline hs hpl) ?_
  rintro σ H Q ⟨S, H0, ρ, R, q⟩
  obtain ⟨⟨t0, ys0⟩, h0, q⟩ := opt_some (PstG.bind q)
  obtain ⟨e0, a, vs0, es, ha0, r0⟩ := ownL_of R h0
  refine ⟨_, es, .inl ⟨rfl, vs0, .inl (.inl ha0)⟩, bindD R q fun y ρ1 v H1 R1 s1 r1 q => ?_⟩
  obtain ⟨⟨t1, ys1⟩, h1, q⟩ := opt_some (PstG.bind q)
  obtain ⟨hl, q⟩ := ite_ok q
  obtain ⟨e1, a1, vs1, es1, ha1, rl1⟩ := ownL_of R1 h1
  rw [es] at es1
  cases es1
  obtain ⟨R2, s2⟩ := R1.mut (ho' := .lst (vs1 ++ [v])) e1 es trivial (.lst (rl1.append (.one r1)))
  exact ⟨a, vs1, v, rfl, rfl, ha1, by rw [rl1.length]; exact Nat.lt_of_lt_of_le hl (lim_le (Nat.le_refl _)), q .non _ R2 (s1.trans s2) .non trivial⟩
/-- xs.pop(i) -/
def fPopA (i : Nat) (f : Ev → R D) : Ev → R SV := fun ρ => (opt (ownL ρ i) ρ).bind fun _ ρ => (f ρ).bind fun y ρ => (opt (ownL ρ i) ρ).bind fun q ρ => match y with
  | .int j => if inR62 j = true then (match seqIndex? j q.2.length with
    | some k => match q.2[k]? with
      | some d => .ok (.d d) (ρ.set i (.own q.1 (.lst (q.2.eraseIdx k))))
      | none => .no
    | none => .no) else .no
  | _ => .no
theorem pp_popA {i : Nat} {x : Str} {f : Ev → R D} (hN : X.N[i]? = some x) (hv : Vis X.env.scope x) (ha : PD X T W e f) (hd : (x == ("__debug__" : Str)) = false := by decide) (hcd : (x == ("__classdict__" : Str)) = false := by decide)
    (hbase : attributeBase (.Name x p) (Str.ofString "pop") X.env (eval (.Name x p) X.env) = eval (.Name x p) X.env := by rfl)
    (hfew : ((backTo cpos (starEach [e] X.env)).all (fun x => !x.1) && (backToKw cpos (keywordEach [] X.env)).all (fun x => x.1.isSome) && decide ([e].length + ([] : List Keyword).length + (if ([] : List Keyword).isEmpty then 0 else 1) < 30)) = true := by rfl)
    (hline : (apos.endLine == cpos.line) = true := by rfl) (hs : starEach [e] X.env = (false, eval e X.env) :: starEach [] X.env := by rfl) (hpl : (backTo cpos (starEach [] X.env)).any (·.1) = false := by rfl) :
    PP X T W (.Call (.Attribute (.Name x p) "pop" apos) [e] [] cpos) (fPopA i f) := by
  refine weakE (pe_bm PySem.F.plainAttrs_list PySem.F.slot_list_pop PySem.F.type_list_pop mt_popAt (pe_var hN hv hd hcd) (pa_cons ha pa_nil hs) hbase hfew hline hs hpl) ?_
  rintro σ H Q ⟨S, H0, ρ, R, q⟩
  obtain ⟨⟨t0, ys0⟩, h0, q⟩ := opt_some (PstG.bind q)
  obtain ⟨e0, a, vs0, es, ha0, r0⟩ := ownL_of R h0
  refine ⟨_, es, .inl ⟨rfl, vs0, .inl (.inl ha0)⟩, bindD R q fun y ρ1 v H1 R1 s1 r1 q => ?_⟩
  obtain ⟨⟨t1, ys1⟩, h1, q⟩ := opt_some (PstG.bind q)
  obtain ⟨e1, a1, vs1, es1, ha1, rl1⟩ := ownL_of R1 h1
  rw [es] at es1
  cases es1
  cases y with
  | int j =>
    cases r1
    obtain ⟨hj, q⟩ := ite_ok q
    obtain ⟨l, u⟩ := inR62_of hj
    dsimp only at q
    cases hk : seqIndex? j ys1.length with
    | none => rw [hk] at q; exact q.elim
    | some k =>
      rw [hk] at q
      dsimp only at q
      cases hd : ys1[k]? with
      | none => rw [hd] at q; exact q.elim
      | some d =>
        rw [hd] at q
        obtain ⟨w, hw, rw'⟩ := rl1.get hd
        obtain ⟨R2, s2⟩ := R1.mut (ho' := .lst (vs1.eraseIdx k)) e1 es trivial (.lst (rl1.erase k))
        refine ⟨a, vs1, j, k, w, rfl, rfl, ha1, by omega, by omega, by rw [rl1.length]; exact hk, hw, q w _ R2 (s1.trans s2) (Rp.k rw' (s2.fz R1)) trivial⟩
  | _ => exact q.elim
/-- xs.pop() -/
def fPop (i : Nat) : Ev → R SV := fun ρ => (opt (ownL ρ i) ρ).bind fun q ρ => match q.2[q.2.length - 1]? with
  | some d => .ok (.d d) (ρ.set i (.own q.1 (.lst q.2.dropLast)))
  | none => .no
theorem pp_pop {i : Nat} {x : Str} (hN : X.N[i]? = some x) (hv : Vis X.env.scope x) (hd : (x == ("__debug__" : Str)) = false := by decide) (hcd : (x == ("__classdict__" : Str)) = false := by decide)
    (hbase : attributeBase (.Name x p) (Str.ofString "pop") X.env (eval (.Name x p) X.env) = eval (.Name x p) X.env := by rfl)
    (hline : (apos.endLine == cpos.line) = true := by rfl) :
    PP X T W (.Call (.Attribute (.Name x p) "pop" apos) [] [] cpos) (fPop i) := by
  refine weakE (pe_bm0 PySem.F.plainAttrs_list PySem.F.slot_list_pop PySem.F.type_list_pop mt_pop (pe_var hN hv hd hcd) hbase hline) ?_
  rintro σ H Q ⟨S, H0, ρ, R, q⟩
  obtain ⟨⟨t0, ys0⟩, h0, q⟩ := opt_some (PstG.bind q)
  obtain ⟨e0, a, vs0, es, ha0, r0⟩ := ownL_of R h0
  dsimp only at q
  cases hd : ys0[ys0.length - 1]? with
  | none => rw [hd] at q; exact q.elim
  | some d =>
    rw [hd] at q
    obtain ⟨w, hw, rw'⟩ := r0.get hd
    obtain ⟨R2, s2⟩ := R.mut (ho' := .lst vs0.dropLast) e0 es trivial (.lst r0.dropLast)
    exact ⟨_, es, .inl ⟨rfl, vs0, .inl (.inl ha0)⟩, a, vs0, w, rfl, rfl, ha0, by rw [r0.length]; exact hw, q w _ R2 s2 (Rp.k rw' (s2.fz R)) trivial⟩
/-- xs[i] = e -/
def fSto (i : Nat) (fi : Ev → R D) (f : Ev → R D) : Ev → SR := fun ρ => (f ρ).toS fun y ρ => (opt (ownL ρ i) ρ).toS fun _ ρ => (fi ρ).toS fun j ρ => (opt (ownL ρ i) ρ).toS fun q ρ => match j with
  | .int k => match ixN q.2.length k with
    | some m => .nx (ρ.set i (.own q.1 (.lst (q.2.set m y))))
    | none => .no
  | _ => .no
theorem optS_some {α : Type} {x : Option α} {k : α → Ev → SR} {Dn : Ends} (q : PstS mg T W S H0 H Dn ((opt x ρ).toS k)) : ∃ z, x = some z ∧ PstS mg T W S H0 H Dn (k z ρ) := by
  cases x with
  | none => exact q.elim
  | some z => exact ⟨z, rfl, q⟩
theorem ps_sto {i : Nat} {x : Str} {ix : Expr} {fi f : Ev → R D} {spos : Pos} (hN : X.N[i]? = some x) (hv : Vis X.env.scope x) (hi : PD X T W ix fi) (h : PD X T W e f) (hd : (x == ("__debug__" : Str)) = false := by decide) (hcd : (x == ("__classdict__" : Str)) = false := by decide)
    (hset : ∀ (v : Value), assign ((Expr.Name x p).Subscript ix spos) X.env v = (do
                let ov ← holding [v] (eval (.Name x p) X.env)
                let iv ← holding [v, ov] (eval ix X.env)
                standAt spos
                holding [v, ov, iv]
                    (setItem ov iv v)
                release [v, ov, iv] []) := by intro _; rfl)
    (h1 : swapsWithSole [(Expr.Name x p).Subscript ix spos] e pos.line X.env = pure false := by rfl) (h2 : swappedStores [(Expr.Name x p).Subscript ix spos] e X.env = pure none := by rfl) (h3 : List.map (fun x => x.snd) (assignEach [(Expr.Name x p).Subscript ix spos] X.env) = [assign ((Expr.Name x p).Subscript ix spos) X.env] := by rfl) :
    PSp X T W (.Assign [(Expr.Name x p).Subscript ix spos] e pos) (fSto i fi f) := by
  refine weakSt (ps_asg h (pg_sub (pe_var hN hv hd hcd) hi set_list hset) h1 h2 h3) ?_
  rintro Dn σ H ⟨S, H0, ρ, R, q⟩
  refine stD R q fun y ρ1 v H1 R1 s1 r1 q => ?_
  obtain ⟨⟨t0, ys0⟩, h0, q⟩ := optS_some q
  obtain ⟨e0, a, vs0, es, ha0, r0⟩ := ownL_of R1 h0
  refine ⟨_, es, stD R1 q fun j ρ2 w H2 R2 s2 r2 q => ?_⟩
  obtain ⟨⟨t1, ys1⟩, h1, q⟩ := optS_some q
  obtain ⟨e1, a1, vs1, es1, ha1, rl1⟩ := ownL_of R2 h1
  rw [es] at es1
  cases es1
  cases j with
  | int k =>
    cases r2
    dsimp only at q
    cases hk : ixN ys1.length k with
    | none => rw [hk] at q; exact q.elim
    | some m =>
      rw [hk] at q
      obtain ⟨R3, s3⟩ := R2.mut (ho' := .lst (vs1.set m v)) e1 es trivial (.lst (rl1.set (Rp.k r1 (s2.fz R1)) m))
      exact ⟨a, vs1, k, m, rfl, rfl, ha1, by rw [rl1.length]; exact hk, q _ _ R3 (s3.fz R2)⟩
  | _ => exact q.elim
end
end Pu
/-! PuN -/
set_option maxRecDepth 100000
namespace Pu
open PySem PySem.Spec
    PyProof.Rows L2
section
variable {T : List (Addr × Str)} {S : List Addr} {H0 H H' H1 : Hp} {σ σ' : L2.St} {ρ ρ' ρ1 : Ev} {X : Cx} {W : XK} {e a b c : Expr} {pos p apos cpos : Pos} {mg : Str → Option Value} {tg iter : Expr}
/-! values, of which some are own lists -/
def OwnIn (a : Addr) : List V → List SV → Prop
  | v :: vs, r :: rs => (v = .ref a ∧ ∃ t o, r = .own t o) ∨ OwnIn a vs rs
  | _, _ => False
inductive VL (S : List Addr) (H0 H : Hp) (σ : L2.St) (ρ : Ev) : List V → List SV → Prop
  | nil : VL S H0 H σ ρ [] []
  | cons {v : V} {r : SV} {vs : List V} {rs : List SV} : VOk S H0 H σ ρ v r → VL S H0 H σ ρ vs rs → (∀ a, v = .ref a → (∃ t o, r = .own t o) → ¬ OwnIn a vs rs) → VL S H0 H σ ρ (v :: vs) (r :: rs)
theorem VL.len : ∀ {vs : List V} {rs : List SV}, VL S H0 H σ ρ vs rs → vs.length = rs.length
  | _, _, .nil => rfl
  | _, _, .cons _ t _ => congrArg (· + 1) (VL.len t)
theorem VL.step : ∀ {vs : List V} {rs : List SV}, VL S H0 H σ ρ vs rs → RS T S H0 H σ ρ → Stp σ ρ ρ' H H' → VL S H0 H' σ ρ' vs rs
  | _, _, .nil, _, _ => .nil
  | _, _, .cons h t d, R, s => .cons (h.step R s) (VL.step t R s) d
theorem VL.own : ∀ {vs : List V} {rs : List SV} {a : Addr}, VL S H0 H σ ρ vs rs → OwnIn a vs rs → ∃ ho, H a = some ho ∧ ∀ i, ¬ Own σ ρ i a
  | _, _, a, .nil, h => h.elim
  | _, _, a, .cons h t d, o => by
    rcases o with ⟨rfl, t2, o2, rfl⟩ | o
    · obtain ⟨_, b, ho, e, h2, _, _, n, _⟩ := h
      cases e
      exact ⟨ho, h2, n⟩
    · exact VL.own t o
abbrev PstAS (mg : Str → Option Value) (T : List (Addr × Str)) (W : XK) (S : List Addr) (H0 H : Hp) (σ : L2.St) (ρ : Ev) (Q : List V → Hp → Prop) : R (List SV) → Prop :=
  PstG mg T W S H0 fun rs ρ' => ∀ vs H', RS T S H0 H' σ ρ' → Stp σ ρ ρ' H H' → VL S H0 H' σ ρ' vs rs → (∀ a, OwnIn a vs rs → Emp H a ∨ ∃ i, Own σ ρ i a) → Q vs H'
def tAS (mg : Str → Option Value) (T : List (Addr × Str)) (W : XK) (f : Ev → R (List SV)) : TA := fun σ H Q => ∃ S H0 ρ, RS T S H0 H σ ρ ∧ PstAS mg T W S H0 H σ ρ Q (f ρ)
abbrev PAs (X : Cx) (T : List (Addr × Str)) (W : XK) (es : List Expr) (f : Ev → R (List SV)) : Prop := PA X es (tAS X.mg T W f)
def fNilS : Ev → R (List SV) := fun ρ => .ok [] ρ
def fConsS (f : Ev → R SV) (g : Ev → R (List SV)) : Ev → R (List SV) := fun ρ => (f ρ).bind fun x ρ => (g ρ).bind fun xs ρ => .ok (x :: xs) ρ
theorem pas_nil : PAs X T W [] fNilS := weakA pa_nil fun σ H Q ⟨_, _, _, R, q⟩ => q [] H R (Stp.refl _ _ _) .nil fun _ h => h.elim
theorem pas_cons {es : List Expr} {f : Ev → R SV} {g : Ev → R (List SV)} (ha : PP X T W e f) (hs : PAs X T W es g) (h : starEach (e :: es) X.env = (false, eval e X.env) :: starEach es X.env := by rfl) : PAs X T W (e :: es) (fConsS f g) := by
  refine weakA (pa_cons ha hs h) ?_
  rintro σ H Q ⟨S, H0, ρ, R, q⟩
  refine bindP R q fun x ρ1 v H1 R1 s1 v1 n1 q => ⟨S, H0, ρ1, R1, q.bind.mono fun xs ρ2 q vs H2 R2 s2 v2 n2 => ?_⟩
  refine q _ _ R2 (s1.trans s2) (.cons (v1.step R1 s2) v2 fun a ea ⟨t, o, eo⟩ oi => ?_) fun a oi => ?_
  · subst eo
    obtain ⟨_, b, ho, e, h2, mu, _, n, _⟩ := v1
    rw [ea] at e
    cases e
    rcases n2 a oi with (z | ⟨ps, z⟩) | ⟨i, z⟩
    · rw [h2] at z; cases z
    · rw [h2] at z; cases z; exact mu.notbl
    · exact n i z
  · rcases oi with ⟨rfl, t, o, rfl⟩ | oi
    · exact n1 a rfl
    · exact (n2 a oi).imp (fun z => s1.dm _ z) fun ⟨i, z⟩ => ⟨i, s1.own i a z⟩
def setSt (σ : L2.St) : List Nat → List V → L2.St
  | i :: is, v :: vs => setSt (σ.set i (some v)) is vs
  | _, _ => σ
def setEv (ρ : Ev) : List Nat → List SV → Ev
  | i :: is, r :: rs => setEv (ρ.set i r) is rs
  | _, _ => ρ
theorem VL.set : ∀ {vs : List V} {rs : List SV} {v : V} {r : SV} {i : Nat}, σ.length = ρ.length → VL S H0 H σ ρ vs rs → (∀ a, v = .ref a → (∃ t o, r = .own t o) → ¬ OwnIn a vs rs) → VL S H0 H (σ.set i (some v)) (ρ.set i r) vs rs
  | _, _, v, r, i, _, .nil, _ => .nil
  | _, _, v, r, i, len, .cons (v := w) (r := s) (vs := vs) (rs := rs) h t d, n => by
    refine .cons ?_ (VL.set len t fun a e1 e2 z => n a e1 e2 (.inr z)) d
    cases s with
    | un => trivial
    | d x => exact h
    | own t2 o =>
      obtain ⟨e, b, ho, e1, e2, mu, ob, n1, n2⟩ := h
      refine ⟨e, b, ho, e1, e2, mu, ob, fun j hj => ?_, n2⟩
      rcases own_upd len hj with ⟨_, z⟩ | ⟨_, z1, z2⟩
      · exact n1 j z
      · exact n b z1 z2 (.inl ⟨e1, _, _, rfl⟩)
    | fz o => exact h
    | raw u => exact h
theorem RS.setL : ∀ (is : List Nat) {vs : List V} {rs : List SV} {σ : L2.St} {ρ : Ev}, RS T S H0 H σ ρ → VL S H0 H σ ρ vs rs → RS T S H0 H (setSt σ is vs) (setEv ρ is rs)
  | [], vs, rs, σ, ρ, R, _ => by
    rw [show setSt σ [] vs = σ by cases vs <;> rfl, show setEv ρ [] rs = ρ by cases rs <;> rfl]
    exact R
  | i :: is, _, _, σ, ρ, R, .nil => R
  | i :: is, _, _, σ, ρ, R, .cons h t d => RS.setL is (R.set h i) (VL.set R.len t d)
def fPar (is : List Nat) (f : Ev → R (List SV)) : Ev → SR := fun ρ => (f ρ).toS fun rs ρ => if rs.length = is.length then .nx (setEv ρ is rs) else .no
theorem iteS_ok {Dn : Ends} {c : Prop} [Decidable c] {x : SR} (q : PstS mg T W S H0 H Dn (if c then x else .no)) : c ∧ PstS mg T W S H0 H Dn x := by
  by_cases k : c
  · rw [if_pos k] at q
    exact ⟨k, q⟩
  · rw [if_neg k] at q
    exact q.elim
theorem tPar_of {is : List Nat} {f : Ev → R (List SV)} {Dn : Ends} (h : tS mg T W (fPar is f) Dn σ H) : tAS mg T W f σ H fun vs H1 => vs.length = is.length ∧ Dn.nx (setSt σ is vs) H1 := by
  obtain ⟨S, H0, ρ, R, q⟩ := h
  refine ⟨S, H0, ρ, R, q.of.mono fun rs ρ1 q vs H1 R1 s1 v1 _ => ?_⟩
  obtain ⟨hl, q⟩ := iteS_ok q
  exact ⟨by rw [v1.len]; exact hl, q.step (s1.fz R) _ _ (RS.setL is R1 v1) (FzS.refl _)⟩
theorem ps_par2 {i j : Nat} {x y : Str} {px py pt : Pos} {kt k2 : Nat} {pt2 : Pos} {f : Ev → R (List SV)} (hc : X.calm = true) (hN : X.N.Nodup) (hi : X.N[i]? = some x) (hj : X.N[j]? = some y) (hij : i ≠ j) (hx : List.lookup x X.env.scope.names = some NameKind.local) (hy : List.lookup y X.env.scope.names = some NameKind.local) (ha : PAs X T W [a, b] f)
    (hw : swappedStores [Expr.Tuple [Expr.Name x px, Expr.Name y py] kt pt] (Expr.Tuple [a, b] k2 pt2) X.env = pure (some [x, y]) := by rfl) (hs : swapsWithSole [Expr.Tuple [Expr.Name x px, Expr.Name y py] kt pt] (Expr.Tuple [a, b] k2 pt2) pos.line X.env = pure false := by rfl) :
    PSp X T W (Stmt.Assign [Expr.Tuple [Expr.Name x px, Expr.Name y py] kt pt] (Expr.Tuple [a, b] k2 pt2) pos) (fPar [i, j] f) := by
  refine weakSt (ps_par hc hN hi hj hij hx hy ha hw hs) ?_
  intro Dn σ H h
  obtain ⟨S, H0, ρ, R, q⟩ := tPar_of h
  refine ⟨S, H0, ρ, R, PstG.mono q fun rs ρ1 q vs H1 R1 s1 v1 n1 => ?_⟩
  obtain ⟨hl, q⟩ := q vs H1 R1 s1 v1 n1
  match vs, hl with
  | [v, w], _ => exact ⟨v, w, rfl, q⟩
theorem ps_parT {i j l : Nat} {x y z : Str} {px py pz pt : Pos} {kt k2 : Nat} {pt2 : Pos} {f : Ev → R (List SV)} (hc : X.calm = true) (hN : X.N.Nodup) (hi : X.N[i]? = some x) (hj : X.N[j]? = some y) (hl : X.N[l]? = some z) (hij : i ≠ j) (hil : i ≠ l) (hjl : j ≠ l) (hx : List.lookup x X.env.scope.names = some NameKind.local) (hy : List.lookup y X.env.scope.names = some NameKind.local) (hz : List.lookup z X.env.scope.names = some NameKind.local) (ha : PAs X T W [a, b, c] f)
    (hw : swappedStores [Expr.Tuple [Expr.Name x px, Expr.Name y py, Expr.Name z pz] kt pt] (Expr.Tuple [a, b, c] k2 pt2) X.env = pure (some [x, y, z]) := by rfl) (hs : swapsWithSole [Expr.Tuple [Expr.Name x px, Expr.Name y py, Expr.Name z pz] kt pt] (Expr.Tuple [a, b, c] k2 pt2) pos.line X.env = pure false := by rfl) :
    PSp X T W (Stmt.Assign [Expr.Tuple [Expr.Name x px, Expr.Name y py, Expr.Name z pz] kt pt] (Expr.Tuple [a, b, c] k2 pt2) pos) (fPar [i, j, l] f) := by
  refine weakSt (ps_par3 hc hN hi hj hl hij hil hjl hx hy hz ha hw hs) ?_
  intro Dn σ H h
  obtain ⟨S, H0, ρ, R, q⟩ := tPar_of h
  refine ⟨S, H0, ρ, R, PstG.mono q fun rs ρ1 q vs H1 R1 s1 v1 n1 => ?_⟩
  obtain ⟨hl, q⟩ := q vs H1 R1 s1 v1 n1
  match vs, hl with
  | [u, v, w], _ => exact ⟨u, v, w, rfl, q⟩
/-- .. where the tuple is made -/
def gNs : List Nat → TGs
  | [] => gNil
  | i :: is => gCons (gName i) (gNs is)
theorem gNs_of : ∀ (is : List Nat) {vs : List V} {σ : L2.St} {Q : L2.St → Hp → Prop}, vs.length = is.length → Q (setSt σ is vs) H → gNs is vs σ H Q
  | [], [], σ, Q, _, q => ⟨rfl, q⟩
  | i :: is, v :: vs, σ, Q, h, q => ⟨v, vs, rfl, gNs_of is (Nat.succ.inj h) q⟩
theorem ps_parN {is : List Nat} {es ts : List Expr} {kt k2 : Nat} {pt pt2 : Pos} {f : Ev → R (List SV)} (hc : X.calm = true) (ha : PAs X T W es f) (hg : PGs X ts (gNs is)) (hlen : (assignEach ts X.env).length = is.length := by rfl) (hno : List.findIdx? (fun x => x.fst) (assignEach ts X.env) = none := by rfl)
    (h1 : swapsWithSole [Expr.Tuple ts kt pt] (Expr.Tuple es k2 pt2) pos.line X.env = pure false := by rfl) (h2 : swappedStores [Expr.Tuple ts kt pt] (Expr.Tuple es k2 pt2) X.env = pure none := by rfl) (h3 : List.map (fun x => x.snd) (assignEach [Expr.Tuple ts kt pt] X.env) = [assign (Expr.Tuple ts kt pt) X.env] := by rfl) (hz : is.length ≤ 100 := by decide) :
    PSp X T W (.Assign [.Tuple ts kt pt] (.Tuple es k2 pt2) pos) (fPar is f) := by
  refine weakSt (ps_asg (pe_tup ha) (pg_tup hc hg hlen hno) h1 h2 h3) ?_
  rintro Dn σ H ⟨S, H0, ρ, R, q⟩
  refine ⟨S, H0, ρ, R, q.of.mono fun rs ρ1 q vs H1 R1 s1 v1 _ => ?_⟩
  obtain ⟨hl, q⟩ := iteS_ok q
  have hl : vs.length = is.length := by rw [v1.len]; exact hl
  refine ⟨by rw [hl]; exact lim_le (Nat.le_trans hz (by decide)), fun pa np => ⟨pa, vs, rfl, .inl (.inl upd_same), hl, gNs_of is hl ?_⟩⟩
  have g : Grw H1 (upd H1 pa (.tup vs)) := Grw.new np
  exact q.step (s1.fz R) _ _ (RS.setL is (R1.grw g) (v1.step R1 g.stp)) g.fz
/-- a, b = a datum -/
def fUnp (f : Ev → R D) (bd : D → Ev → Option Ev) : Ev → SR := fun ρ => (f ρ).toS fun d ρ => match bd d ρ with
  | some ρ' => .nx ρ'
  | none => .no
theorem ps_unp {f : Ev → R D} {g : TG} {k : Bool} {sl : List Nat} {bd : D → Ev → Option Ev} (h : PD X T W e f) (hg : PG X tg g) (ht : TgOk X.K k g sl bd)
    (h1 : swapsWithSole [tg] e pos.line X.env = pure false := by rfl) (h2 : swappedStores [tg] e X.env = pure none := by rfl) (h3 : List.map (fun x => x.snd) (assignEach [tg] X.env) = [assign tg X.env] := by rfl) : PSp X T W (.Assign [tg] e pos) (fUnp f bd) := by
  refine weakSt (ps_asg h hg h1 h2 h3) ?_
  rintro Dn σ H ⟨S, H0, ρ, R, q⟩
  refine stD R q fun y ρ1 v H1 R1 s1 r1 q => ?_
  cases hb : bd y ρ1 with
  | none => rw [hb] at q; exact q.elim
  | some ρ2 =>
    rw [hb] at q
    refine ht T S H0 H1 σ ρ1 v y ρ2 _ R1 ?_ hb fun σ2 R2 _ => q _ _ R2 (FzS.refl _)
    cases k
    · exact r1
    · exact .inl r1
end
end Pu
/-! PuD -/
set_option maxRecDepth 100000
namespace Pu
open PySem PySem.Spec
    PyProof.Rows L2
/-! defs, calls -/
inductive FR where
  | ok (r : SV) (o : Option OB)
  | er (e : Er)
  | no
/-- what a call hands over -/
def ArgOk (H : Hp) (v : V) : SV → Prop
  | .d x => Rp H v x
  | .fz o => ∃ a ob ho, v = .ref a ∧ H a = some (.frz ob ho) ∧ ObR H ho o
  | .raw u => v = u
  | _ => False
inductive AL (H : Hp) : List V → List SV → Prop
  | nil : AL H [] []
  | cons {v : V} {r : SV} {vs : List V} {rs : List SV} : ArgOk H v r → AL H vs rs → AL H (v :: vs) (r :: rs)
theorem ArgOk.k {H H' : Hp} {v : V} {r : SV} (h : ArgOk H v r) (k : FzS H H') : ArgOk H' v r := by
  cases r with
  | d x => exact Rp.k h k
  | fz o =>
    obtain ⟨a, ob, ho, e1, e2, q⟩ := h
    exact ⟨a, ob, ho, e1, k _ _ _ e2, q.k k⟩
  | raw u => exact h
  | _ => exact h.elim
theorem AL.k {H H' : Hp} (k : FzS H H') : ∀ {vs : List V} {rs : List SV}, AL H vs rs → AL H' vs rs
  | _, _, .nil => .nil
  | _, _, .cons h t => .cons (h.k k) (AL.k k t)
theorem AL.len {H : Hp} : ∀ {vs : List V} {rs : List SV}, AL H vs rs → vs.length = rs.length
  | _, _, .nil => rfl
  | _, _, .cons _ t => congrArg (· + 1) (AL.len t)
theorem AL.get {H : Hp} : ∀ {vs : List V} {rs : List SV} {i : Nat} {r : SV}, AL H vs rs → rs[i]? = some r → ∃ v, vs[i]? = some v ∧ ArgOk H v r
  | _, _, _, _, .nil, e =>
      by simp at e
  | _, _, 0, _, .cons h _, e => by simp at e; subst e; exact ⟨_, rfl, h⟩
  | _, _, i + 1, _, .cons _ t, e => by
    obtain ⟨v, h1, h2⟩ := AL.get (i := i) t (by simpa using e)
    exact ⟨v, by simpa using h1, h2⟩
theorem ArgOk.slot {S : List Addr} {H : Hp} {v : V} {r : SV} (h : ArgOk H v r) : SlotOk S H (some v) r := by
  cases r with
  | own t o => exact h.elim
  | un => trivial
  | _ => exact h
theorem ArgOk.noown {H : Hp} {v : V} {t : Option Nat} {o : OB} (h : ArgOk H v (.own t o)) : False := h
/-- what a call gives -/
def ResOk (H1 H' : Hp) (v : V) : SV → Prop
  | .un => True
  | .d x => Rp H' v x
  | .own t o => t = none ∧ ∃ a ho, v = .ref a ∧ H' a = some ho ∧ Mu ho ∧ ObR H' ho o ∧ H1 a = none
  | .fz o => ∃ a ob ho, v = .ref a ∧ H' a = some (.frz ob ho) ∧ ObR H' ho o
  | .raw u => v = u
/-- how a call ends -/
def EndF (mg : Str → Option Value) (S : List Addr) (H : Hp) (Q : VK) (E : XK) : FR → Prop
  | .ok r o => ∀ v H', Frm S H H' → (∀ b, H' b = none → H b = none) → ResOk H H' v r → (∀ o', o = some o' → ∃ a ho, S = [a] ∧ H' a = some ho ∧ Mu ho ∧ ObR H' ho o') → Q v H'
  | .er e => ∀ C d H', Frm S H H' → ErIs mg e C d H' → E (.ref C) d H'
  | .no => False
/-- a def's promise: it is the function F -/
def spD (mg : Str → Option Value) (n : Nat) (F : List SV → FR) : Sp := fun vs H Q E => vs.length = n ∧ ∃ rs, AL H vs rs ∧ EndF mg [] H Q E (F rs)
/-- .. where the first argument is a list that it changes -/
def spO (mg : Str → Option Value) (n : Nat) (F : OB → List SV → FR) : Sp := fun vs H Q E => vs.length = n ∧ ∃ a ws ho o rs, vs = .ref a :: ws ∧ H a = some ho ∧ Mu ho ∧ ObR H ho o ∧ AL H ws rs ∧ EndF mg [a] H Q E (F o rs)
def initE (N : Nat) (rs : List SV) : Ev := rs ++ List.replicate (N - rs.length) .un
/-- a body as a function -/
def runD (N : Nat) (g : Ev → SR) (rs : List SV) : FR := match g (initE N rs) with
  | .rt r _ => .ok r none
  | .nx _ => .ok (.d .none) none
  | .er e => .er e
  | _ => .no
def outO (r : SV) (ρ : Ev) : FR := match (ρ[(0 : Nat)]? : Option SV) with
  | some (.own (some 0) o) => .ok r (some o)
  | _ => .no
def runO (N : Nat) (g : Ev → SR) (o : OB) (rs : List SV) : FR := match g (initE N (.own (some 0) o :: rs)) with
  | .rt r ρ => outO r ρ
  | .nx ρ => outO (.d .none) ρ
  | .er e => .er e
  | _ => .no
section
variable {T : List (Addr × Str)} {S : List Addr} {H0 H H' H1 : Hp} {σ σ' : L2.St} {ρ ρ' ρ1 : Ev} {X : Cx} {W : XK} {e a b c : Expr} {pos p apos cpos : Pos} {mg : Str → Option Value} {tg iter : Expr}
theorem start_get (N : List Str) (vs : List V) (i : Nat) : (L2.start N vs)[i]? = if i < vs.length then (vs[i]?).map some else if i < N.length then some none else none := by
  unfold L2.start
  by_cases h : i < vs.length
  · rw [if_pos h, List.getElem?_append_left (by rw [List.length_map]; exact h), List.getElem?_map]
  · rw [if_neg h, List.getElem?_append_right (by rw [List.length_map]; omega), List.length_map, List.getElem?_replicate]
    by_cases h2 : i < N.length
    · rw [if_pos (by omega), if_pos h2]
    · rw [if_neg (by omega), if_neg h2]
theorem init_get (N : Nat) (rs : List SV) (i : Nat) : (initE N rs)[i]? = if i < rs.length then rs[i]? else if i < N then some .un else none := by
  unfold initE
  by_cases h : i < rs.length
  · rw [if_pos h, List.getElem?_append_left h]
  · rw [if_neg h, List.getElem?_append_right (by omega), List.getElem?_replicate]
    by_cases h2 : i < N
    · rw [if_pos (by omega), if_pos h2]
    · rw [if_neg (by omega), if_neg h2]
theorem init_rs {N : List Str} {vs : List V} {rs : List SV} (len : vs.length = rs.length) (hn : rs.length ≤ N.length) (slot : ∀ (i : Nat) (r : SV), rs[i]? = some r → ∃ v, vs[i]? = some v ∧ SlotOk S H (some v) r) (own : ∀ (i : Nat) (t : Option Nat) (o : OB), rs[i]? = some (.own t o) → i = 0 ∧ t = some 0) (tab : LamX.Tabs T H) (nt : T = [] ∨ (S = [] ∧ ∀ b ps, H b ≠ some (.tbl ps))) (dom : ∀ a ∈ S, ∃ ho, H a = some ho) : RS T S H H (L2.start N vs) (initE N.length rs) := by
  have ow : ∀ (i : Nat) (a : Addr), Own (L2.start N vs) (initE N.length rs) i a → i = 0 ∧ S[0]? = some a := by
    rintro i a ⟨h1, t, o, h2⟩
    rw [init_get] at h2
    by_cases hi : i < rs.length
    · rw [if_pos hi] at h2
      obtain ⟨rfl, rfl⟩ := own i t o h2
      obtain ⟨v, h3, b, ho, rfl, h4, h5, h6, h7, h8⟩ := slot 0 _ h2
      rw [start_get, if_pos (by omega), h3] at h1
      cases h1
      exact ⟨rfl, h8 0 rfl⟩
    · rw [if_neg hi] at h2
      split at h2 <;> cases h2
  refine ⟨?_, fun i x hx => ?_, fun i j a h1 h2 => by rw [(ow i a h1).1, (ow j a h2).1], fun i a h => .inl (List.mem_of_getElem? (ow i a h).2), fun b o h _ => h, tab, nt, fun b h => ⟨h, fun hb => ?_⟩⟩
  · unfold L2.start initE
    rw [List.length_append, List.length_append, List.length_map, List.length_replicate, List.length_replicate, len]
  · rw [init_get] at hx
    by_cases hi : i < rs.length
    · rw [if_pos hi] at hx
      obtain ⟨v, h1, h2⟩ := slot i x hx
      rw [start_get, if_pos (by omega), h1]
      exact h2
    · rw [if_neg hi] at hx
      split at hx
      · cases hx
        cases (L2.start N vs)[i]?.getD none <;> trivial
      · cases hx
  · obtain ⟨ho, e⟩ := dom b hb
    rw [h] at e
    cases e
theorem VOk.res {v : V} {r : SV} (h : VOk S H H' σ ρ v r) : ResOk H H' v r := by
  cases r with
  | un => trivial
  | d x => exact h
  | own t o =>
    obtain ⟨e, a, ho, e1, e2, mu, ob, _, n, _⟩ := h
    exact ⟨e, a, ho, e1, e2, mu, ob, n⟩
  | fz o => exact h
  | raw u => exact h
end
section
variable {P : Program} {w : World} {K : PySem.W.Frag}
    {mg : Str → Option Value} {base : Heap}
theorem okN {x qual : Str} {st : Stmt} {f : Addr} {fd : FuncData} {N ps : List Str} {k : Nat} {sp : Sp} (F : Fun K x qual st f fd) (S : FnScope N ps (defScope st)) (len : ∀ vs H Q E, sp vs H Q E → vs.length = ps.length)
    (hb : ∀ (cdv : Value) (A : Around) (outer : List Env) (s : Shared) (H : Hp) (vs : List V) (Q : VK) (E : XK), Room k (A.deeper (envOfC qual (defScope st) s.heap.objs.size f cdv)) → sp vs H Q E →
      ∃ t, PSs (cxOf (L2N.CX P w) P w K mg base N qual (defScope st) f cdv A outer s H E) (defBody st) t ∧ t { nx := fun _ H' => Q .non H', rt := Q } (L2.start N vs) H) : FnOk P w K mg base (L2N.CX P w) (k + 1) f fd ps sp := by
  obtain ⟨oc, od, kV, doc, pm, an, cdv,
      ct, osl, rfl, lk, hcd⟩ := F.ex
  exact fn_of lk hcd S len fun A o s H vs Q E hr h => hb cdv A o s H vs Q E hr h
theorem passN {X : Cx} : Passes (L2N.CX X.prog X.w) X E0 := fun _ _ _ _ _ _ _ ⟨_, _, _, _, _, _, _, _, _, _, _, _, z⟩ => z.elim
theorem passX {X : Cx} {E : XK} (tk : L2N.Takes X (fun cls d _ H => E cls d H)) : Passes (L2N.CX X.prog X.w) X E := L2N.passes_call tk fun _ _ _ _ h => h
/-- the context of a def's body -/
abbrev CxB (P : Program) (w : World) (K : PySem.W.Frag) (mg : Str → Option Value) (base : Heap) (N : List Str) (qual : Str) (st : Stmt) (f : Addr) (cdv : Value) (A : Around) (outer : List Env) (s : Shared) (H : Hp) (E : XK) : Cx := cxOf (L2N.CX P w) P w K mg base N qual (defScope st) f cdv A outer s H E
theorem okD {x qual : Str} {st : Stmt} {f : Addr} {fd : FuncData} {N ps : List Str} {k : Nat} {g : Ev → SR} (F : Fun K x qual st f fd) (S : FnScope N ps (defScope st)) (hn : ps.length ≤ N.length)
    (hb : ∀ (cdv : Value) (A : Around) (outer : List Env) (s : Shared) (H : Hp) (E : XK), Room k (A.deeper (envOfC qual (defScope st) s.heap.objs.size f cdv)) → PBp (CxB P w K mg base N qual st f cdv A outer s H E) [] E (defBody st) g) :
    FnOk P w K mg base (L2N.CX P w) (k + 1) f fd ps (spD mg ps.length (runD N.length g)) := by
  refine okN F S (fun vs H Q E h => h.1) (fun cdv A outer s H vs Q E hr h => ⟨_, hb cdv A outer s H E hr, ?_⟩)
  obtain ⟨hl, rs, al, q⟩ := h
  have len := al.len
  have tab : LamX.Tabs [] H := fun p hp => nomatch hp
  have R := init_rs (T := []) (S := []) (H := H) (N := N) len (by omega) (fun i r h => by obtain ⟨v, h1, h2⟩ := al.get h; exact ⟨v, h1, h2.slot⟩) (fun i t o h => by obtain ⟨v, h1, h2⟩ := al.get h; exact h2.noown.elim) tab (.inl rfl) (fun a h => nomatch h)
  refine ⟨[], H, initE N.length rs, R, ?_⟩
  unfold runD at q
  cases hg : g (initE N.length rs) with
  | nx ρ' => rw [hg] at q; exact fun σ' H' R' _ => q _ H' R'.fr (fun b h => (R'.dm b h).1) .non (fun o h => nomatch h)
  | rt r ρ' => rw [hg] at q; exact fun σ' v H' R' _ vo => q _ H' R'.fr (fun b h => (R'.dm b h).1) vo.res (fun o h => nomatch h)
  | er e => rw [hg] at q; exact fun C d H' fr _ ei => q C d H' fr ei
  | bk ρ' => rw [hg] at q; exact q.elim
  | ct ρ' => rw [hg] at q; exact q.elim
  | no => rw [hg] at q; exact q.elim
theorem okO {x qual : Str} {st : Stmt} {f : Addr} {fd : FuncData} {N ps : List Str} {k : Nat} {g : Ev → SR} (F : Fun K x qual st f fd) (S : FnScope N ps (defScope st)) (hn : ps.length ≤ N.length)
    (hb : ∀ (cdv : Value) (A : Around) (outer : List Env) (s : Shared) (H : Hp) (E : XK), Room k (A.deeper (envOfC qual (defScope st) s.heap.objs.size f cdv)) → PBp (CxB P w K mg base N qual st f cdv A outer s H E) [] E (defBody st) g) :
    FnOk P w K mg base (L2N.CX P w) (k + 1) f fd ps (spO mg ps.length (runO N.length g)) := by
  refine okN F S (fun vs H Q E h => h.1) (fun cdv A outer s H vs Q E hr h => ⟨_, hb cdv A outer s H E hr, ?_⟩)
  obtain ⟨hl, a, ws, ho, o, rs, rfl, ha, mu, ob, al, q⟩ := h
  have tab : LamX.Tabs [] H := fun p hp => nomatch hp
  have len := al.len
  have R := init_rs (T := []) (S := [a]) (H := H) (N := N) (vs := .ref a :: ws) (rs := .own (some 0) o :: rs) (congrArg (· + 1) len) (by rw [List.length_cons, ← len, ← List.length_cons (a := V.ref a), hl]; exact hn) (fun i r h => by
      cases i with
      | zero => cases h; exact ⟨_, rfl, a, ho, rfl, ha, mu, ob, (fun z => nomatch z), fun k z => by cases z; rfl⟩
      | succ i => obtain ⟨v, h1, h2⟩ := al.get h; exact ⟨v, h1, h2.slot⟩) (fun i t o h => by
      cases i with
      | zero => cases h; exact ⟨rfl, rfl⟩
      | succ i => obtain ⟨v, h1, h2⟩ := al.get h; exact h2.noown.elim) tab (.inl rfl) (fun b h => by cases List.mem_singleton.mp h; exact ⟨_, ha⟩)
  refine ⟨[a], H, _, R, ?_⟩
  have out : ∀ {r : SV} {ρ' : Ev} {σ' : L2.St} {v : V} {H' : Hp}, EndF mg [a] H Q E (outO r ρ') → RS [] [a] H H' σ' ρ' → ResOk H H' v r → Q v H' := fun {r ρ' σ' v H'} q R' vo => by
    unfold outO at q
    split at q
    · rename_i o' h0
      refine q v H' R'.fr (fun b h => (R'.dm b h).1) vo fun o2 h2 => ?_
      cases h2
      obtain ⟨v2, h3, b, ho2, rfl, h4, h5, h6, h7, h8⟩ := slot_some R' h0 (fun z => nomatch z)
      have e := h8 0 rfl
      cases e
      exact ⟨a, ho2, rfl, h4, h5, h6⟩
    · exact q.elim
  unfold runO at q
  cases hg : g (initE N.length (.own (some 0) o :: rs)) with
  | nx ρ' => rw [hg] at q; exact fun σ' H' R' _ => out q R' .non
  | rt r ρ' => rw [hg] at q; exact fun σ' v H' R' _ vo => out q R' vo.res
  | er e => rw [hg] at q; exact fun C d H' fr _ ei => q C d H' fr ei
  | bk ρ' => rw [hg] at q; exact q.elim
  | ct ρ' => rw [hg] at q; exact q.elim
  | no => rw [hg] at q; exact q.elim
end
section
variable {T : List (Addr × Str)} {S : List Addr} {H0 H H' H1 : Hp} {σ σ' : L2.St} {ρ ρ' ρ1 : Ev} {X : Cx} {W : XK} {e a b c : Expr} {pos p apos cpos : Pos} {mg : Str → Option Value} {tg iter : Expr}
/-! a call's arguments -/
abbrev PstX (mg : Str → Option Value) (T : List (Addr × Str)) (W : XK) (S : List Addr) (H0 H : Hp) (σ : L2.St) (ρ : Ev) (Q : List V → Hp → Prop) : R (List SV) → Prop :=
  PstG mg T W S H0 fun rs ρ' => ∀ vs H', RS T S H0 H' σ ρ' → Stp σ ρ ρ' H H' → AL H' vs rs → Q vs H'
def tX (mg : Str → Option Value) (T : List (Addr × Str)) (W : XK) (f : Ev → R (List SV)) : TA := fun σ H Q => ∃ S H0 ρ, RS T S H0 H σ ρ ∧ PstX mg T W S H0 H σ ρ Q (f ρ)
abbrev PAx (X : Cx) (T : List (Addr × Str)) (W : XK) (es : List Expr) (f : Ev → R (List SV)) : Prop := PA X es (tX X.mg T W f)
def fNilX : Ev → R (List SV) := fun ρ => .ok [] ρ
def SV.isArg : SV → Bool
  | .d _ => true
  | .fz _ => true
  | .raw _ => true
  | _ => false
def fConsX (f : Ev → R SV) (g : Ev → R (List SV)) : Ev → R (List SV) := fun ρ => (f ρ).bind fun x ρ => (g ρ).bind fun xs ρ => if x.isArg = true then .ok (x :: xs) ρ else .no
theorem pax_nil : PAx X T W [] fNilX := weakA pa_nil fun σ H Q ⟨_, _, _, R, q⟩ => q [] H R (Stp.refl _ _ _) .nil
theorem bindX {γ : Type} {ok : γ → Ev → Prop} {f : Ev → R (List SV)} {g : List SV → Ev → R γ} {K : List V → Hp → Prop} (R : RS T S H0 H σ ρ) (q : PstG mg T W S H0 ok ((f ρ).bind g))
    (k : ∀ y ρ1 v H1, RS T S H0 H1 σ ρ1 → Stp σ ρ ρ1 H H1 → AL H1 v y → PstG mg T W S H0 ok (g y ρ1) → K v H1) : tX mg T W f σ H K :=
  ⟨S, H0, ρ, R, q.bind.mono fun y ρ1 z v H1 R1 s1 r1 => k y ρ1 v H1 R1 s1 r1 z⟩
theorem pax_cons {es : List Expr} {f : Ev → R SV} {g : Ev → R (List SV)} (ha : PP X T W e f) (hs : PAx X T W es g) (h : starEach (e :: es) X.env = (false, eval e X.env) :: starEach es X.env := by rfl) : PAx X T W (e :: es) (fConsX f g) := by
  refine weakA (pa_cons ha hs h) ?_
  rintro σ H Q ⟨S, H0, ρ, R, q⟩
  refine bindP R q fun x ρ1 v H1 R1 s1 v1 n1 q => bindX R1 q fun xs ρ2 vs H2 R2 s2 r2 q => ?_
  obtain ⟨hx, q⟩ := ite_ok q
  refine q _ _ R2 (s1.trans s2) (.cons ?_ r2)
  refine ArgOk.k (H := H1) ?_ (s2.fz R1)
  cases x with
  | d y => exact v1
  | fz o => exact v1
  | raw u => exact v1
  | _ => cases hx
theorem pax_d {es : List Expr} {f : Ev → R D} {g : Ev → R (List SV)} (ha : PD X T W e f) (hs : PAx X T W es g) (h : starEach (e :: es) X.env = (false, eval e X.env) :: starEach es X.env := by rfl) : PAx X T W (e :: es) (fConsX (fun ρ => (f ρ).bind fun x ρ => .ok (.d x) ρ) g) := pax_cons (pp_of ha) hs h
/-! behind a call -/
theorem RS.call (R : RS T S H0 H σ ρ) (f : Frm [] H H') (d : ∀ b, H' b = none → H b = none) : RS T S H0 H' σ ρ ∧ Stp σ ρ ρ H H' := by
  have kp : ∀ b o, H b = some o → H' b = some o := fun b o h => f b o h (fun z => nomatch z)
  have k : FzS H H' := fun b ob u h => kp b _ h
  refine ⟨⟨R.len, fun i x hx => ?_, R.sep, R.new, fun b o e1 e2 => kp b o (R.fr b o e1 e2), R.tab.ext kp, R.nt, fun b h => R.dm b (d b h)⟩, fun b o h _ n => kp b o h, fun _ _ h => h, fun b h => Grw.emp kp h⟩
  have q := R.slot i x hx
  cases hs : σ[i]?.getD none with
  | none =>
    rw [hs] at q
    cases x with
    | un => trivial
    | _ => exact q
  | some v =>
    rw [hs] at q
    cases x with
    | un => trivial
    | d z => exact Rp.k q k
    | own t o =>
      obtain ⟨a, ho, e1, e2, mu, ob, m⟩ := q
      exact ⟨a, ho, e1, kp _ _ e2, mu, ob.k k, m⟩
    | fz o =>
      obtain ⟨a, ob, ho, e1, e2, r⟩ := q
      exact ⟨a, ob, ho, e1, k _ _ _ e2, r.k k⟩
    | raw w => exact q
theorem RS.tabO (R : RS T S H0 H σ ρ) {i : Nat} {a : Addr} (own : Own σ ρ i a) (f : Frm [a] H H') : LamX.Tabs T H' := by
  obtain ⟨ho, t2, o2, ha, mu, e2, ob, z1, z2⟩ := R.own own
  have kp : ∀ b o, H b = some o → b ≠ a → H' b = some o := fun b o h n => f b o h (by simpa using n)
  intro q hq
  obtain ⟨ps, h1, h2, h3⟩ := R.tab q hq
  have hpa : q.1 ≠ a := fun z => by
    rw [z, ha] at h1
    cases h1
    exact mu.notbl
  refine ⟨ps, kp _ _ h1 hpa, h2, fun pos cv hc => ?_⟩
  obtain ⟨c, e1, e2⟩
      := h3 pos cv hc
  exact ⟨c, e1, kp _ _ e2 (fun z => by
    rw [z, ha] at e2
    exact ob.nocode _ _ (Option.some.inj e2))⟩
theorem RS.callO (R : RS T S H0 H σ ρ) {i : Nat} {t : Option Nat} {o o' : OB} {a : Addr} {ho' : HO} (hi : ρ[i]? = some (.own t o)) (hs : σ[i]? = some (some (.ref a))) (f : Frm [a] H H') (d : ∀ b, H' b = none → H b = none) (ha' : H' a = some ho') (mu' : Mu ho') (ob' : ObR H' ho' o') :
    RS T S H0 H' σ (ρ.set i (.own t o')) ∧ Stp σ ρ (ρ.set i (.own t o')) H H' := by
  have own : Own σ ρ i a := ⟨hs, t, o, hi⟩
  obtain ⟨ho, t2, o2, ha, mu, e2, ob, z1, z2⟩ := R.own own
  rw [hi] at e2
  cases e2
  have hl := (List.getElem?_eq_some_iff.mp hi).1
  have kp : ∀ b o, H b = some o → b ≠ a → H' b = some o := fun b o h n => f b o h (by simpa using n)
  have k : FzS H H' := fun b ob u h => kp b _ h (fun z => by subst z; rw [ha] at h; cases h; exact mu.nofrz)
  refine ⟨⟨by rw [List.length_set]; exact R.len, fun j x hx => ?_, fun j j' b h1 h2 => R.sep j j' b ((own_put hi).1 h1) ((own_put hi).1 h2), fun j b h => R.new j b ((own_put hi).1 h), fun b w e1 e2 => ?_, ?_, R.nt, fun b h => R.dm b (d b h)⟩, fun b w h n u => kp b w h (fun z => by subst z; exact n i own), fun j b h => (own_put hi).1 h, fun b h => ?_⟩
  · by_cases e : j = i
    · subst e
      rw [List.getElem?_set_self hl] at hx
      cases hx
      rw [hs]
      exact ⟨a, ho', rfl, ha', mu', ob', z1, z2⟩
    · rw [List.getElem?_set_ne (Ne.symm e)] at hx
      have q := R.slot j x hx
      cases hs2 : σ[j]?.getD none with
      | none =>
        rw [hs2] at q
        cases x with
        | un => trivial
        | _ => exact q
      | some v =>
        rw [hs2] at q
        cases x with
        | un => trivial
        | d z => exact Rp.k q k
        | own t3 o3 =>
          obtain ⟨b, h3, e1, e2, mu3, ob3, m⟩ := q
          have hb : b ≠ a
              := fun z => by
            subst z
            subst e1
            refine e (R.sep j i b ⟨?_, t3, o3, hx⟩ own)
            cases hs3 : σ[j]? with
            | none => rw [hs3] at hs2; cases hs2
            | some w => rw [hs3] at hs2; exact congrArg some hs2
          exact ⟨b, h3, e1, kp _ _ e2 hb, mu3, ob3.k k, m⟩
        | fz o3 =>
          obtain ⟨b, ob3, h3, e1, e2, r⟩ := q
          exact ⟨b, ob3, h3, e1, k _ _ _ e2, r.k k⟩
        | raw w => exact q
  · refine kp b w (R.fr b w e1 e2) (fun z => ?_)
    subst z
    rcases R.new i b own with z | z
    · exact e2 z
    · rw [z] at e1; cases e1
  · exact R.tabO own f
  · cases eb : H b with
    | none => exact .inl eb
    | some w =>
      by_cases z : b = a
      · subst z
        rcases h with h | ⟨ps, h⟩ <;> rw [ha'] at h <;> cases h
        exact mu'.notbl.elim
      · have e2 := kp b w eb z
        rcases h with h | ⟨ps, h⟩ <;> rw [e2] at h <;> cases h
        exact .inr ⟨ps, eb⟩
theorem res_vok {v : V} {r : SV} (h : ResOk H1 H' v r) (R1 : RS T S H0 H1 σ ρ1) (s1 : Stp σ ρ1 ρ' H1 H') : VOk S H0 H' σ ρ' v r ∧ NewV H1 σ ρ1 v r := by
  cases r with
  | own t o =>
    obtain ⟨e, a, ho, rfl, e2, mu, ob, n⟩ := h
    refine ⟨⟨e, a, ho, rfl, e2, mu, ob, fun i q => R1.fresh n i (s1.own i a q), R1.dm a n⟩, fun b eb => ?_⟩
    cases eb
    exact .inl (.inl n)
  | un => exact ⟨trivial, trivial⟩
  | _ => exact ⟨h, trivial⟩
/-- f(..) -/
def fCallD (F : List SV → FR) (fa : Ev → R (List SV)) : Ev → R SV := fun ρ => (fa ρ).bind fun rs ρ => match F rs with
  | .ok r none => .ok r ρ
  | .er e => .er e
  | _ => .no
theorem spD_of {n : Nat} {F : List SV → FR} {rs : List SV} {vs : List V} {ρ0 : Ev} {Hs : Hp} {Q : VK} (R : RS T S H0 H σ ρ) (s : Stp σ ρ0 ρ Hs H) (hn : vs.length = n) (al : AL H vs rs) (q : Pst mg T W S H0 Hs σ ρ0 Q (match F rs with
  | .ok r none => .ok r ρ
  | .er e => .er e
  | _ => .no)) : spD mg n F vs H Q W := by
  refine ⟨hn, rs, al, ?_⟩
  cases hF : F rs with
  | ok r o =>
    rw [hF] at q
    cases o with
    | some o => exact q.elim
    | none =>
      intro v H' fr dm res _
      obtain ⟨R2, s2⟩ := R.call fr dm
      obtain ⟨v2, n2⟩ := res_vok res R s2
      exact q v H' R2 (s.trans s2) v2 (n2.step s)
  | er e =>
    rw [hF] at q
    exact fun C d H' fr ei => q C d H' (fun b o h1 h2 => fr b o (R.fr b o h1 h2) (fun z => nomatch z)) (R.tab.ext fun b o h => fr b o h (fun z => nomatch z)) ei
  | no => rw [hF] at q; exact q.elim
theorem pp_call {k n : Nat} {f : Addr} {fd : FuncData} {ps : List Str} {F : List SV → FR} {fa : Ev → R (List SV)} {x : Str} {es : List Expr} (G : FnOk X.prog X.w X.K X.mg X.base (L2N.CX X.prog X.w) k f fd ps (spD X.mg n F)) (hr : Room k X.A) (hg : Gl X x) (hm : X.mg x = some (.ref f)) (kp : PySem.W.keepIn X.K (.ref f) = true) (bi : L2.Binds X.K fd ps []) (hp : Passes (L2N.CX X.prog X.w) X W) (ha : PAx X T W (e :: es) fa) (hn : (e :: es).length = n)
    (hd : (x == Str.ofString "__debug__") = false := by decide) (he : starEach (e :: es) X.env = (false, eval e X.env) :: starEach es X.env := by rfl) (hpl : ((backTo pos (starEach es X.env)).any fun x => x.fst) = false := by rfl) (hl : ∀ ρ rs ρ', fa ρ = .ok rs ρ' → rs.length = (e :: es).length) :
    PP X T W (.Call (.Name x p) (e :: es) [] pos) (fCallD F fa) := by
  refine weakE (pe_call G hr hg hm kp bi .nil hp ha hd he hpl) ?_
  rintro σ H Q ⟨S, H0, ρ, R, q⟩
  unfold fCallD at q
  have hl := hl ρ
  refine ⟨S, H0, ρ, R, ?_⟩
  have q := q.bind
  cases hf : fa ρ with
  | ok rs ρ1 =>
    rw [hf] at q
    intro vs H1 R1 s1 al
    rw [List.append_nil]
    exact spD_of R1 s1 (by rw [al.len, hl rs ρ1 hf]; exact hn) al q
  | er e => rw [hf] at q; exact q
  | no => rw [hf] at q; exact q
end
end Pu
/-! PuE -/
set_option maxRecDepth 100000
namespace Pu
open PySem PySem.Spec
    PyProof.Rows L2
section
variable {T : List (Addr × Str)} {S : List Addr} {H0 H H' H1 : Hp} {σ σ' : L2.St} {ρ ρ' ρ1 : Ev} {X : Cx} {W : XK} {e a b c : Expr} {pos p apos cpos : Pos} {mg : Str → Option Value} {tg iter : Expr}
theorem pp_callZ {k : Nat} {f : Addr} {fd : FuncData} {ps : List Str} {F : List SV → FR} {x : Str} (G : FnOk X.prog X.w X.K X.mg X.base (L2N.CX X.prog X.w) k f fd ps (spD X.mg 0 F)) (hr : Room k X.A) (hg : Gl X x) (hm : X.mg x = some (.ref f)) (kp : PySem.W.keepIn X.K (.ref f) = true) (bi : L2.Binds X.K fd ps []) (hp : Passes (L2N.CX X.prog X.w) X W) (hd : (x == Str.ofString "__debug__") = false := by decide) :
    PP X T W (.Call (.Name x p) [] [] pos) (fCallD F fNilX) := by
  refine weakE (pe_call0 G hr hg hm kp bi .nil hp hd) ?_
  rintro σ H Q ⟨S, H0, ρ, R, q⟩
  exact spD_of (ρ0 := ρ) R (Stp.refl _ _ _) rfl .nil q
/-- f(x, ..), f changes the list x -/
def fCallO (F : OB → List SV → FR) (i : Nat) (fa : Ev → R (List SV)) : Ev → R SV := fun ρ => (opt (ownL ρ i) ρ).bind fun _ ρ => (fa ρ).bind fun rs ρ => (opt (ownL ρ i) ρ).bind fun q ρ => match F (.lst q.2) rs with
  | .ok r (some o) => .ok r (ρ.set i (.own q.1 o))
  | .er e => .er e
  | _ => .no
theorem spO_of {n : Nat} {F : OB → List SV → FR} {rs : List SV} {ws : List V} {ρ0 : Ev} {Hs : Hp} {Q : VK} {i : Nat} {t : Option Nat} {xs : List D} {a : Addr} (R : RS T S H0 H σ ρ) (s : Stp σ ρ0 ρ Hs H) (hi : ρ[i]? = some (.own t (.lst xs))) (hs : σ[i]? = some (some (.ref a))) (hn : ws.length + 1 = n) (al : AL H ws rs) (q : Pst mg T W S H0 Hs σ ρ0 Q (match F (.lst xs) rs with
  | .ok r (some o) => .ok r (ρ.set i (.own t o))
  | .er e => .er e
  | _ => .no)) : spO mg n F (.ref a :: ws) H Q W := by
  obtain ⟨ho, t2, o2, ha, mu, e2, ob, z1, z2⟩ := R.own ⟨hs, t, _, hi⟩
  rw [hi] at e2
  cases e2
  refine ⟨hn, a, ws, ho, .lst xs, rs, rfl, ha, mu, ob, al, ?_⟩
  cases hF : F (.lst xs) rs with
  | ok r o =>
    rw [hF] at q
    cases o with
    | none => exact q.elim
    | some o =>
      intro v H' fr dm res out
      obtain ⟨a2, ho', ea, ha', mu', ob'⟩ := out o rfl
      cases ea
      obtain ⟨R2, s2⟩ := R.callO hi hs fr dm ha' mu' ob'
      obtain ⟨v2, n2⟩ := res_vok res R s2
      exact q v H' R2 (s.trans s2) v2 (n2.step s)
  | er e =>
    rw [hF] at q
    refine fun C d H' fr ei => q C d H' (fun b o h1 h2 => fr b o (R.fr b o h1 h2) (fun z => ?_)) ?_ ei
    · cases List.mem_singleton.mp z
      rcases R.new i _ ⟨hs, t, _, hi⟩ with z | z
      · exact h2 z
      · rw [z] at h1; cases h1
    · exact R.tabO ⟨hs, t, _, hi⟩ fr
  | no => rw [hF] at q; exact q.elim
theorem pp_callO {k n i : Nat} {f : Addr} {fd : FuncData} {ps : List Str} {F : OB → List SV → FR} {fa : Ev → R (List SV)} {x y : Str} {p2 : Pos} {es : List Expr} (G : FnOk X.prog X.w X.K X.mg X.base (L2N.CX X.prog X.w) k f fd ps (spO X.mg n F)) (hr : Room k X.A) (hg : Gl X x) (hm : X.mg x = some (.ref f)) (kp : PySem.W.keepIn X.K (.ref f) = true) (bi : L2.Binds X.K fd ps []) (hp : Passes (L2N.CX X.prog X.w) X W)
    (hN : X.N[i]? = some y) (hv : Vis X.env.scope y) (ha : PAx X T W es fa) (hn : es.length + 1 = n) (hl : ∀ ρ rs ρ', fa ρ = .ok rs ρ' → rs.length = es.length)
    (hd : (x == Str.ofString "__debug__") = false := by decide) (hd2 : (y == ("__debug__" : Str)) = false := by decide) (hcd : (y == ("__classdict__" : Str)) = false := by decide) (he : starEach (.Name y p2 :: es) X.env = (false, eval (.Name y p2) X.env) :: starEach es X.env := by rfl) (hpl : ((backTo pos (starEach es X.env)).any fun x => x.fst) = false := by rfl) :
    PP X T W (.Call (.Name x p) (.Name y p2 :: es) [] pos) (fCallO F i fa) := by
  refine weakE (pe_call G hr hg hm kp bi .nil hp (pa_cons (pe_var hN hv hd2 hcd) ha he) hd he hpl) ?_
  rintro σ H Q ⟨S, H0, ρ, R, q⟩
  obtain ⟨⟨t0, ys0⟩, h0, q⟩ := opt_some (PstG.bind q)
  obtain ⟨e0, a, vs0, es0, ha0, r0⟩ := ownL_of R h0
  refine ⟨_, es0, S, H0, ρ, R, ?_⟩
  have q := q.bind
  cases hf : fa ρ with
  | ok rs ρ1 =>
    rw [hf] at q
    intro vs H1 R1 s1 al
    obtain ⟨⟨t1, ys1⟩, h1, q⟩ := opt_some (PstG.bind q)
    obtain ⟨e1, a1, vs1, es1, ha1, rl1⟩ := ownL_of R1 h1
    rw [es0] at es1
    cases es1
    rw [List.append_nil]
    exact spO_of R1 s1 e1 es0 (by rw [al.len, hl ρ rs ρ1 hf]; exact hn) al q
  | er e => rw [hf] at q; exact q
  | no => rw [hf] at q; exact q
theorem len_nilX : ∀ ρ rs ρ', fNilX ρ = .ok rs ρ' → rs.length = 0 := fun ρ rs ρ' h => by cases h; rfl
theorem len_consX {f : Ev → R SV} {g : Ev → R (List SV)} {n : Nat} (h : ∀ ρ rs ρ', g ρ = .ok rs ρ' → rs.length = n) : ∀ ρ rs ρ', fConsX f g ρ = .ok rs ρ' → rs.length = n + 1 := fun ρ rs ρ' e => by
  unfold fConsX at e
  cases hf : f ρ with
  | ok x ρ1 =>
    rw [hf] at e
    cases hg : g ρ1 with
    | ok xs ρ2 =>
      simp only [R.bind, hg] at e
      by_cases k : x.isArg = true
      · rw [if_pos k] at e
        cases e
        exact congrArg (· + 1) (h _ _ _ hg)
      · rw [if_neg k] at e
        cases e
    | er z => simp only [R.bind, hg] at e; cases e
    | no => simp only [R.bind, hg] at e; cases e
  | er z => rw [hf] at e; cases e
  | no => rw [hf] at e; cases e
end
end Pu
/-! PuX -/
set_option maxRecDepth 100000
namespace Pu
open PySem PySem.Spec
    PyProof.Rows L2
section
variable {T : List (Addr × Str)} {S : List Addr} {H0 H H' H1 : Hp} {σ σ' : L2.St} {ρ ρ' ρ1 : Ev} {X : Cx} {W : XK} {e a b c : Expr} {pos p p2 apos cpos : Pos} {mg : Str → Option Value} {tg iter : Expr} {pins : List (Addr × Obj)} {s : Shared}
/-! the names that are still Python's own -/
structure BI (mg : Str → Option Value) : Prop where
  isinstance : mg "isinstance" = none
  int : mg "int" = none
  bool : mg "bool" = none
  tuple : mg "tuple" = none
  list : mg "list" = none
  str : mg "str" = none
  len : mg "len" = none
  sorted : mg "sorted" = none
  range : mg "range" = none
  reversed : mg "reversed" = none
  enumerate : mg "enumerate" = none
  zip : mg "zip" = none
  abs : mg "abs" = none
  all : mg "all" = none
  any : mg "any" = none
  sum : mg "sum" = none
  min : mg "min" = none
  max : mg "max" = none
  set : mg "set" = none
theorem BI.bk {x : Str} {f : Value} (h : X.mg x = none) (hg : Gl X x) (hb : bootBuiltins x = some f) (hf : (∃ id, f = .builtin id) ∨ ∃ t, f = .type t) : BK X x f := ⟨hg, h, hb, hf⟩
section
theorem bk_isinstance (Bn : BI X.mg) (hg : Gl X "isinstance") : BK X "isinstance" (.builtin "isinstance") := ⟨hg, Bn.isinstance, by decide +kernel, .inl ⟨_, rfl⟩⟩
theorem bk_len (Bn : BI X.mg) (hg : Gl X "len") : BK X "len" (.builtin "len") := ⟨hg, Bn.len, by decide +kernel, .inl ⟨_, rfl⟩⟩
theorem bk_sorted (Bn : BI X.mg) (hg : Gl X "sorted") : BK X "sorted" (.builtin "sorted") := ⟨hg, Bn.sorted, by decide +kernel, .inl ⟨_, rfl⟩⟩
theorem bk_abs (Bn : BI X.mg) (hg : Gl X "abs") : BK X "abs" (.builtin "abs") := ⟨hg, Bn.abs, by decide +kernel, .inl ⟨_, rfl⟩⟩
theorem bk_all (Bn : BI X.mg) (hg : Gl X "all") : BK X "all" (.builtin "all") := ⟨hg, Bn.all, by decide +kernel, .inl ⟨_, rfl⟩⟩
theorem bk_any (Bn : BI X.mg) (hg : Gl X "any") : BK X "any" (.builtin "any") := ⟨hg, Bn.any, by decide +kernel, .inl ⟨_, rfl⟩⟩
theorem bk_sum (Bn : BI X.mg) (hg : Gl X "sum") : BK X "sum" (.builtin "sum") := ⟨hg, Bn.sum, by decide +kernel, .inl ⟨_, rfl⟩⟩
theorem bk_min (Bn : BI X.mg) (hg : Gl X "min") : BK X "min" (.builtin "min") := ⟨hg, Bn.min, by decide +kernel, .inl ⟨_, rfl⟩⟩
theorem bk_max (Bn : BI X.mg) (hg : Gl X "max") : BK X "max" (.builtin "max") := ⟨hg, Bn.max, by decide +kernel, .inl ⟨_, rfl⟩⟩
theorem bk_int (Bn : BI X.mg) (hg : Gl X "int") : BK X "int" (.type "int") := ⟨hg, Bn.int, by decide +kernel, .inr ⟨_, rfl⟩⟩
theorem bk_bool (Bn : BI X.mg) (hg : Gl X "bool") : BK X "bool" (.type "bool") := ⟨hg, Bn.bool, by decide +kernel, .inr ⟨_, rfl⟩⟩
theorem bk_tuple (Bn : BI X.mg) (hg : Gl X "tuple") : BK X "tuple" (.type "tuple") := ⟨hg, Bn.tuple, by decide +kernel, .inr ⟨_, rfl⟩⟩
theorem bk_list (Bn : BI X.mg) (hg : Gl X "list") : BK X "list" (.type "list") := ⟨hg, Bn.list, by decide +kernel, .inr ⟨_, rfl⟩⟩
theorem bk_str (Bn : BI X.mg) (hg : Gl X "str") : BK X "str" (.type "str") := ⟨hg, Bn.str, by decide +kernel, .inr ⟨_, rfl⟩⟩
end
/-! list(range(..)), tuple(range(..)) -/
def rgD (a b : Int) : List D := (List.range (b - a).toNat).map fun (i : Nat) => .int (a + i)
theorem rgV_rp (a b : Int) : RpL H (rgV a b) (rgD a b) := by
  unfold rgV rgD
  generalize List.range (b - a).toNat = l
  induction l with
  | nil => exact .nil
  | cons x l ih => exact .cons (.int _) ih
def rgC (a b : Int) : Bool := inR62 a && inR62 b && decide ((b - a).toNat ≤ 100000)
theorem rgC_ok {a b : Int} (h : rgC a b = true) : RgOk a b := by
  unfold rgC at h
  rw [Bool.and_eq_true, Bool.and_eq_true] at h
  obtain ⟨l, u⟩ := inR62_of h.1.1
  obtain ⟨l2, u2⟩ := inR62_of h.1.2
  have := of_decide_eq_true h.2
  exact ⟨l, u, l2, u2, by omega⟩
def lrgD (k : List D → SV) : List D → Option SV
  | [.int b] => if rgC 0 b = true then some (k (rgD 0 b)) else none
  | [.int a, .int b] => if rgC a b = true then some (k (rgD a b)) else none
  | _ => none
def fRg (k : List D → SV) (f : Ev → R (List D)) : Ev → R SV := fun ρ => (f ρ).bind fun ds ρ => opt (lrgD k ds) ρ
/-- range's ends, as data -/
def tRg (mg : Str → Option Value) (T : List (Addr × Str)) (W : XK) (f : Ev → R (List D)) : L2.St → Hp → (Int → Int → Hp → Prop) → Prop := fun σ H Q => ∃ S H0 ρ, RS T S H0 H σ ρ ∧ PstG mg T W S H0 (fun ds ρ' => ∃ i j, (ds = [PyData.int j] ∧ i = 0 ∨ ds = [PyData.int i, PyData.int j]) ∧ ∀ H', RS T S H0 H' σ ρ' → Stp σ ρ ρ' H H' → Q i j H') (f ρ)
theorem prg_data1 {f : Ev → R D} (Bn : BI X.mg) (hg : Gl X "range") (h : PD X T W a f) (hs : starEach [a] X.env = (false, eval a X.env) :: starEach [] X.env := by rfl) : PRg X (.Call (.Name "range" p) [a] [] pos) (tRg X.mg T W (fCons f fNil)) := by
  intro pins s σ H Q I ⟨S, H0, ρ, R, q⟩
  refine prg_1 hg Bn.range h hs pins s σ H Q I ?_
  unfold fCons at q
  have q := q.bind
  refine ⟨S, H0, ρ, R, q.mono fun d ρ1 q v H1 R1 s1 r1 => ?_⟩
  obtain ⟨i, j, hd, q⟩ := q
  rcases hd with ⟨hd, rfl⟩ | hd
  · cases hd
    cases r1
    exact ⟨j, rfl, q H1 R1 s1⟩
  · cases hd
theorem prg_data2 {f g : Ev → R D} (Bn : BI X.mg) (hg : Gl X "range") (h : PD X T W a f) (h2 : PD X T W b g) (hs : starEach [a, b] X.env = (false, eval a X.env) :: starEach [b] X.env := by rfl) (hs2 : starEach [b] X.env = (false, eval b X.env) :: starEach [] X.env := by rfl) (hp : ((backTo pos (starEach [b] X.env)).any fun x => x.fst) = false := by rfl) : PRg X (.Call (.Name "range" p) [a, b] [] pos) (tRg X.mg T W (fCons f (fCons g fNil))) := by
  intro pins s σ H Q I ⟨S, H0, ρ, R, q⟩
  refine prg_2 hg Bn.range h h2 hs hs2 hp pins s σ H Q I ?_
  unfold fCons at q
  refine bindD (ok := fun ds ρ' => ∃ i j, (ds = [PyData.int j] ∧ i = 0 ∨ ds = [PyData.int i, PyData.int j]) ∧ ∀ H', RS T S H0 H' σ ρ' → Stp σ ρ ρ' H H' → Q i j H') R q fun d ρ1 v H1 R1 s1 r1 q => ⟨S, H0, ρ1, R1, ?_⟩
  cases hgr : g ρ1 with
  | ok d2 ρ2 =>
    simp only [Pu.R.bind, hgr, fNil] at q
    intro v2 H2 R2 s2 r2
    obtain ⟨i, j, hd, q⟩ := q
    rcases hd with ⟨hd, rfl⟩ | hd
    · cases hd
    · cases hd
      cases r1
      cases r2
      exact ⟨i, j, rfl, rfl, q H2 R2 (s1.trans s2)⟩
  | er e =>
    simp only [Pu.R.bind, hgr] at q
    exact q
  | no =>
    simp only [Pu.R.bind, hgr] at q
    exact q
theorem lrg_some {k : List D → SV} {ds : List D} {z : SV} (h : lrgD k ds = some z) : ∃ i j, (ds = [PyData.int j] ∧ i = 0 ∨ ds = [PyData.int i, PyData.int j]) ∧ rgC i j = true ∧ z = k (rgD i j) := by
  unfold lrgD at h
  split at h
  · obtain ⟨h1, rfl⟩ := if_some h
    exact ⟨_, _, .inl ⟨rfl, rfl⟩, h1, rfl⟩
  · obtain ⟨h1, rfl⟩ := if_some h
    exact ⟨_, _, .inr rfl, h1, rfl⟩
  · cases h
theorem tRg_of {k : List D → SV} {f : Ev → R (List D)} {Q : VK} {Q' : Int → Int → Hp → Prop} (h : tP mg T W (fRg k f) σ H Q) (w : ∀ i j H1 (ρ0 ρ1 : Ev) S H0, rgC i j = true → RS T S H0 H1 σ ρ1 → Stp σ ρ0 ρ1 H H1 → (∀ v H', RS T S H0 H' σ ρ1 → Stp σ ρ0 ρ1 H H' → VOk S H0 H' σ ρ1 v (k (rgD i j)) → NewV H σ ρ0 v (k (rgD i j)) → Q v H') → Q' i j H1) : tRg mg T W f σ H Q' := by
  obtain ⟨S, H0, ρ, R, q⟩ := h
  refine ⟨S, H0, ρ, R, q.bind.mono fun ds ρ1 q => ?_⟩
  obtain ⟨z, hz, q⟩ := opt_some q
  obtain ⟨i, j, hd, hc, rfl⟩ := lrg_some hz
  exact ⟨i, j, hd, fun H1 R1 s1 => w i j H1 ρ ρ1 S H0 hc R1 s1 q⟩
theorem pp_listRg {f : Ev → R (List D)} (Bn : BI X.mg) (hc : X.calm = true) (hg : Gl X "list") (h : PRg X e (tRg X.mg T W f)) (hs : starEach [e] X.env = (false, eval e X.env) :: starEach [] X.env := by rfl) : PP X T W (.Call (.Name "list" p) [e] [] pos) (fRg (fun xs => .own none (.lst xs)) f) := by
  refine weakE (pe_listRg hc hg Bn.list h hs) ?_
  intro σ H Q h
  refine tRg_of h fun i j H1 ρ0 ρ1 S H0 hc R1 s1 q => ⟨rgC_ok hc, fun p np => ?_⟩
  exact GOk.fin (z := .own none (.lst (rgD i j))) ⟨rfl, p, _, rfl, np, upd_same, rgV_rp i j⟩ (Grw.new np) R1 s1 q
theorem pe_tupRgF {te : L2.St → Hp → (Int → Int → Hp → Prop) → Prop} (Bn : BI X.mg) (hc : X.calm = true) (hg : Gl X "tuple") (he : PRg X e te) (hs : starEach [e] X.env = (false, eval e X.env) :: starEach [] X.env := by rfl) :
    PE X (.Call (.Name "tuple" p) [e] [] pos) (fun σ H Q => te σ H fun a b H1 => rgC a b = true ∧ ∀ v H', Grw H1 H' → GOk H1 H' v (.d (.tuple (rgD a b))) → Q v H') := by
  constructor
  intro pins s σ H Q I hq
  refine Call_ (ld_blt I hg Bn.tuple boot_tuple (PyProof.Rows.callWith_type1 (args_cons (thn (he pins s σ H _ I hq) ?_) hs) hs rfl))
  rintro x s1 ⟨r, a, b, t, u, v, H1, rfl, hr, I1, hc1, q⟩
  refine args_nil ?_
  obtain ⟨b1, b2, b3, b4, b5⟩ := rgC_ok hc1
  refine call_tuple_range (I1.ok.hd hc) hr (small_one b1 b2 b3 b4) (rangeSize_nat a b) b5 fun h' tk acc hk hi => ?_
  have I2 := I1.kept (t' := tk) hk
  have := newT (s := { s1 with heap := h', toks := tk }) (us := acc.toList) I2 (vals_rg hi) ?_ (rgV_rp a b) q
  · rw [tObj, Array.toArray_toList] at this
    exact this
  · rw [← (vals_rg hi).length, rgV_length]
    exact Nat.le_trans b5 (by rw [sizeLine_eq]; decide)
theorem pp_tupRg {f : Ev → R (List D)} (Bn : BI X.mg) (hc : X.calm = true) (hg : Gl X "tuple") (h : PRg X e (tRg X.mg T W f)) (hs : starEach [e] X.env = (false, eval e X.env) :: starEach [] X.env := by rfl) : PP X T W (.Call (.Name "tuple" p) [e] [] pos) (fRg (fun xs => .d (.tuple xs)) f) := by
  refine weakE (pe_tupRgF Bn hc hg h hs) ?_
  intro σ H Q h
  refine tRg_of h fun i j H1 ρ0 ρ1 S H0 hc R1 s1 q => ⟨hc, fun v H' gr go => go.fin gr R1 s1 q⟩
/-! factorial -/
def factD : D → Option SV
  | .int a => if 0 ≤ a ∧ a ≤ 20000 then some (I ((Builtin.Math.factorialNat a.toNat : Nat) : Int)) else none
  | _ => none
theorem cd_fact : CallR X (.builtin "math.factorial") (r1 factD) := by
  rintro pins s σ H xs us Q J r ⟨v, d, z, rfl, lk, hz, q⟩
  cases d with
  | int i =>
    obtain ⟨⟨h1, h2⟩, rfl⟩ := if_some (show (if 0 ≤ i ∧ i ≤ 20000 then some (I ((Builtin.Math.factorialNat i.toNat : Nat) : Int)) else none) = some z from hz)
    cases lk.atom (fun _ z => nomatch z)
    cases r with
    | cons rx rr =>
      cases rr
      obtain ⟨t, rfl⟩ := rx
      exact PySem.W.mc_factorial h1 h2 fun _ => ⟨.int _, H, J.tok _, ⟨_, rfl⟩, q _ H (Grw.refl _) gok_int⟩
  | _ => cases hz
theorem pp_fact {f : Ev → R D} {x : Str} (hg : Gl X x) (hm : X.mg x = some (.builtin "math.factorial")) (ha : PD X T W e f) (hd : (x == Str.ofString "__debug__") = false := by decide) (he : starEach [e] X.env = (false, eval e X.env) :: starEach [] X.env := by rfl) : PP X T W (.Call (.Name x p) [e] [] pos) (fUn factD f) := by
  refine weakE (pe_callMB cd_fact hg hm (pa_cons ha pa_nil he) hd he rfl) ?_
  rintro σ H Q ⟨S, H0, ρ, R, q⟩
  refine bindD R q fun d ρ1 v H1 R1 s1 q1 q => ?_
  obtain ⟨z, hz, q⟩ := opt_some q
  exact ⟨v, d, z, rfl, .d q1, hz, fun w H' gr go => go.fin gr R1 s1 q⟩
end
end Pu
/-! PuC -/
set_option maxRecDepth 100000
namespace Pu
open PySem PySem.Spec
    PyProof.Rows L2
/-- a def of the program's top -/
structure Df (K : PySem.W.Frag) (mg : Str → Option Value) (x : Str) (st : Stmt) (ps : List Str) : Prop where
  ex : ∃ f fd, mg x = some (.ref f) ∧ Fun K x x st f fd ∧ L2.Binds K fd ps []
/-- a def that is the function F -/
structure CalD (P : Program) (w : World) (K : PySem.W.Frag) (mg : Str → Option Value) (base : Heap) (x : Str) (n k : Nat) (F : List SV → FR) : Prop where
  ex : ∃ f fd ps, mg x = some (.ref f) ∧ PySem.W.keepIn K (.ref f) = true ∧ L2.Binds K fd ps [] ∧ ps.length = n ∧ FnOk P w K mg base (L2N.CX P w) k f fd ps (spD mg n F)
/-- .. and changes its first argument -/
structure CalO (P : Program) (w : World) (K : PySem.W.Frag) (mg : Str → Option Value) (base : Heap) (x : Str) (n k : Nat) (F : OB → List SV → FR) : Prop where
  ex : ∃ f fd ps, mg x = some (.ref f) ∧ PySem.W.keepIn K (.ref f) = true ∧ L2.Binds K fd ps [] ∧ ps.length = n ∧ FnOk P w K mg base (L2N.CX P w) k f fd ps (spO mg n F)
/-- a class of errors -/
structure ErX (K : PySem.W.Frag) (mg : Str → Option Value) (x : Str) : Prop where
  ex : ∃ C, ErK K mg x C [.type "ValueError", .type "Exception", .type "BaseException", .type "object"]
theorem hu64 {k : Nat} {A : Around} (hr : Room k A) : A.units + 64 < cLine := by
  have := hr.un
  omega
section
variable {P : Program} {w : World} {K : PySem.W.Frag}
    {mg : Str → Option Value} {base : Heap}
theorem mkD {x : Str} {st : Stmt} {N ps : List Str} {k n m : Nat} {g : Ev → SR} (h : Df K mg x st ps) (S : FnScope N ps (defScope st)) (en : ps.length = n) (em : N.length = m) (hn : n ≤ m)
    (hb : ∀ (f : Addr) (cdv : Value) (A : Around) (outer : List Env) (s : Shared) (H : Hp) (E : XK), Room k (A.deeper (envOfC x (defScope st) s.heap.objs.size f cdv)) → PBp (CxB P w K mg base N x st f cdv A outer s H E) [] E (defBody st) g) :
    CalD P w K mg base x n (k + 1) (runD m g) := by
  subst en em
  obtain ⟨f, fd, hm, F, bi⟩ := h.ex
  exact ⟨f, fd, ps, hm, F.kp, bi, rfl, okD F S hn (hb f)⟩
theorem mkO {x : Str} {st : Stmt} {N ps : List Str} {k n m : Nat} {g : Ev → SR} (h : Df K mg x st ps) (S : FnScope N ps (defScope st)) (en : ps.length = n) (em : N.length = m) (hn : n ≤ m)
    (hb : ∀ (f : Addr) (cdv : Value) (A : Around) (outer : List Env) (s : Shared) (H : Hp) (E : XK), Room k (A.deeper (envOfC x (defScope st) s.heap.objs.size f cdv)) → PBp (CxB P w K mg base N x st f cdv A outer s H E) [] E (defBody st) g) :
    CalO P w K mg base x n (k + 1) (runO m g) := by
  subst en em
  obtain ⟨f, fd, hm, F, bi⟩ := h.ex
  exact ⟨f, fd, ps, hm, F.kp, bi, rfl, okO F S hn (hb f)⟩
end
section
variable {T : List (Addr × Str)} {X : Cx} {W : XK} {e a b c : Expr} {pos p p2 apos cpos : Pos}
theorem ppc {k n : Nat} {F : List SV → FR} {fa : Ev → R (List SV)} {x : Str} {es : List Expr} (h : CalD X.prog X.w X.K X.mg X.base x n k F) (hr : Room k X.A) (hg : Gl X x) (hp : Passes (L2N.CX X.prog X.w) X W) (ha : PAx X T W (e :: es) fa) (hl : ∀ ρ rs ρ', fa ρ = .ok rs ρ' → rs.length = (e :: es).length) (hn : (e :: es).length = n := by rfl)
    (hd : (x == Str.ofString "__debug__") = false := by decide) (he : starEach (e :: es) X.env = (false, eval e X.env) :: starEach es X.env := by rfl) (hpl : ((backTo pos (starEach es X.env)).any fun x => x.fst) = false := by rfl) :
    PP X T W (.Call (.Name x p) (e :: es) [] pos) (fCallD F fa) := by
  obtain ⟨f, fd, ps, hm, kp, bi, _, G⟩ := h.ex
  exact pp_call G hr hg hm kp bi hp ha hn hd he hpl hl
theorem ppcZ {k : Nat} {F : List SV → FR} {x : Str} (h : CalD X.prog X.w X.K X.mg X.base x 0 k F) (hr : Room k X.A) (hg : Gl X x) (hp : Passes (L2N.CX X.prog X.w) X W) (hd : (x == Str.ofString "__debug__") = false := by decide) :
    PP X T W (.Call (.Name x p) [] [] pos) (fCallD F fNilX) := by
  obtain ⟨f, fd, ps, hm, kp, bi, _, G⟩ := h.ex
  exact pp_callZ G hr hg hm kp bi hp hd
theorem ppcO {k n i : Nat} {F : OB → List SV → FR} {fa : Ev → R (List SV)} {x y : Str} {es : List Expr} (h : CalO X.prog X.w X.K X.mg X.base x n k F) (hr : Room k X.A) (hg : Gl X x) (hp : Passes (L2N.CX X.prog X.w) X W) (hN : X.N[i]? = some y) (hv : Vis X.env.scope y) (ha : PAx X T W es fa) (hl : ∀ ρ rs ρ', fa ρ = .ok rs ρ' → rs.length = es.length) (hn : es.length + 1 = n := by rfl)
    (hd : (x == Str.ofString "__debug__") = false := by decide) (hd2 : (y == ("__debug__" : Str)) = false := by decide) (hcd : (y == ("__classdict__" : Str)) = false := by decide) (he : starEach (.Name y p2 :: es) X.env = (false, eval (.Name y p2) X.env) :: starEach es X.env := by rfl) (hpl : ((backTo pos (starEach es X.env)).any fun x => x.fst) = false := by rfl) :
    PP X T W (.Call (.Name x p) (.Name y p2 :: es) [] pos) (fCallO F i fa) := by
  obtain ⟨f, fd, ps, hm, kp, bi, _, G⟩ := h.ex
  exact pp_callO G hr hg hm kp bi hp hN hv ha hn hl hd hd2 hcd he hpl
theorem psrs {x m : Str} {j : Nat} {p2 p3 : Pos} (hc : X.calm = true) (tk : L2N.Takes X fun cls d _ H => W cls d H) (E : ErX X.K X.mg x) (hg : Gl X x) (hd : (x == Str.ofString "__debug__") = false := by decide) :
    PSp X T W (.Raise (some (.Call (.Name x p) [.Constant (.str m) j p2] [] p3)) none pos) (fRais x) := by
  obtain ⟨C, h⟩ := E.ex
  exact ps_rs hc tk h hg hd
theorem vis_l {sc : Scope} {x : Str} (h : List.lookup x sc.names = some NameKind.local) : Vis sc x := .inl h
theorem vis_c {sc : Scope} {x : Str} (h : List.lookup x sc.names = some NameKind.cell) : Vis sc x := .inr (.inl h)
theorem vis_f {sc : Scope} {x : Str} (h : List.lookup x sc.names = some NameKind.free) : Vis sc x := .inr (.inr h)
/-- short forms -/
abbrev fD (f : Ev → R SV) : Ev → R D := fun ρ => asD (f ρ)
abbrev fP (f : Ev → R D) : Ev → R SV := fun ρ => (f ρ).bind fun x ρ => .ok (.d x) ρ
abbrev fT (f : Ev → R SV) : Ev → R Bool := fun ρ => asB (f ρ)
abbrev fArgN (g : List D → Option SV) (f : Ev → R (List D)) : Ev → R SV := fun ρ => (f ρ).bind fun ds ρ => opt (g ds) ρ
end
end Pu
namespace Pu
open PySem PySem.Spec
    PyProof.Rows L2
section
variable {T : List (Addr × Str)} {X : Cx} {W : XK} {e a b c tg : Expr} {pos p p2 apos cpos : Pos}
theorem ItD.up {J : It} {C : Hp → Prop} {ds : List D} (h : ItD false J C ds) : ItD true J C ds := ⟨h.stop, h.go, fun i H x H' d c y hd => ⟨(h.yld i H x H' d c y hd).1, .inl (h.yld i H x H' d c y hd).2⟩⟩
theorem pir_up {f : Ev → R (List D)} (h : PIr X T W tg e false f) : PIr X T W tg e true f := by
  refine weakI h ?_
  rintro σ H Q ⟨S, H0, ρ, R, q⟩
  exact ⟨S, H0, ρ, R, q.mono fun ds ρ1 q J H1 R1 s1 J1 => q J H1 R1 s1 J1.up⟩
end
end Pu
/-! PuL2 -/
set_option maxRecDepth 100000
namespace Pu
open PySem PySem.Spec
    PyProof.Rows L2
section
variable {T : List (Addr × Str)} {S : List Addr} {H0 H H' H1 H2 : Hp} {σ σ' : L2.St} {ρ ρ' ρ1 ρ2 : Ev} {X : Cx} {W : XK} {e a b c : Expr} {pos p : Pos} {mg : Str → Option Value} {tg iter tg1 iter1 : Expr} {vs vs1 sl sl1 : List Nat} {Da : Addr}
/-- a step that also fills the list at Da -/
structure StpX (Da : Addr) (σ : L2.St) (ρ ρ' : Ev) (H H' : Hp) : Prop where
  keep : ∀ b o, H b = some o → b ≠ Da → (∀ i, ¬ Own σ ρ i b) → NoTbl o → H' b = some o
  own : ∀ i a, Own σ ρ' i a → Own σ ρ i a
  dm : ∀ b, Emp H' b → Emp H b
theorem StpX.refl : StpX Da σ ρ ρ H H := ⟨fun _ _ h _ _ _ => h, fun _ _ h => h, fun _ h => h⟩
theorem StpX.trans (a : StpX Da σ ρ ρ1 H H1) (b : StpX Da σ ρ1 ρ2 H1 H2) : StpX Da σ ρ ρ2 H H2 :=
  ⟨fun c o h d n t => b.keep c o (a.keep c o h d n t) d (fun i q => n i (a.own i c q)) t, fun i c q => a.own i c (b.own i c q), fun c n => a.dm c (b.dm c n)⟩
theorem Stp.x (s : Stp σ ρ ρ1 H H1) : StpX Da σ ρ ρ1 H H1 := ⟨fun b o h _ n t => s.keep b o h n t, s.own, s.dm⟩
theorem Grw.x (g : Grw H H1) : StpX Da σ ρ ρ H H1 := ⟨fun b o h _ _ _ => g b o h, fun _ _ h => h, fun b h => g.emp h⟩
theorem StpX.fz (s : StpX Da σ ρ ρ' H H') (R : RS T S H0 H σ ρ) {acc : List V} (hD : H Da = some (.lst acc)) : FzS H H' := fun b ob u h => s.keep b _ h (fun z => by subst z; rw [hD] at h; cases h) (R.nofrz h) (fun _ z => nomatch z)
theorem stpx_put {acc w : List V} (hD : H Da = some (.lst acc)) : StpX Da σ ρ ρ H (upd H Da (.lst w)) := ⟨fun b o h d _ _ => by rw [upd_ne d]; exact h, fun _ _ h => h, fun b h => emp_lst h⟩
/-- a block's steps, seen with its own names wiped -/
theorem StpX.blk {σ1 : L2.St} {ρ0 ρ3 : Ev} (k : Keeps sl (L2.wipe σ vs) ρ0 σ1 ρ1) (e : L2.wipe σ1 vs = L2.wipe σ vs) (s : StpX Da σ1 ρ1 ρ3 H H1) : StpX Da (L2.wipe σ vs) ρ0 (wipeE ρ3 vs) H H1 :=
  ⟨fun b o h d n t => s.keep b o h d (fun j z => n j (k.own j b z)) t, fun j c h => k.own j c (s.own j c (own_blk e h)), s.dm⟩
theorem lc_core {k : Bool} {g : TG} {bd : D → Ev → Option Ev} {fc : Ev → R Bool} {fe : Ev → R D} {K : PySem.W.Frag} {J : It} {ds : List D} {acc : List V} {ys : List D} {ok : List D → Ev → Prop} {Fin : Hp → Prop} (ht : TgOk K k g sl bd) (hs : ∀ i ∈ sl, i ∈ vs)
    (R1 : RS T S H0 H1 (L2.wipe σ vs) ρ1) (u1 : UnAt vs ρ1) (J1 : ItD k J (FzS H1) ds) (hn : ∀ i, ¬ Own (L2.wipe σ vs) ρ1 i Da) (d0 : H0 Da = none) (hDa : H1 Da = some (.lst acc)) (rl : RpL H1 acc ys)
    (q : PstG mg T W S H0 ok (lcL bd fc fe vs ds ρ1)) (sz : ∀ zs ρ3, ok zs ρ3 → (ys ++ zs).length ≤ LIM)
    (fin : ∀ zs ρ3 H3 acc', ok zs ρ3 → RS T S H0 H3 (L2.wipe σ vs) ρ3 → UnAt vs ρ3 → StpX Da (L2.wipe σ vs) ρ1 ρ3 H1 H3 → H3 Da = some (.lst acc') → RpL H3 acc' (ys ++ zs) → Fin H3) :
    ∃ Wv : Nat → Nat → Hp → Prop, (∃ m, Wv 0 m H1) ∧ ∀ i m H, Wv i m H → J.stop i H ∧ Fin H ∨ J.go i H ∧ ∃ Nx : Hp → Prop, (∀ H', Nx H' → ∃ m', m' < m ∧ Wv (i + 1) m' H') ∧ ∀ x H', J.yld i H x H' → g x (L2.wipe σ vs) H' fun σ2 H2 => L2.wipe σ2 vs = L2.wipe σ vs ∧ tT mg T E0 fc σ2 H2 fun b H3 => if b = true then tD mg T E0 fe σ2 H3 fun y H4 => ∃ acc, H4 Da = some (.lst acc) ∧ acc.length < sizeLine ∧ Nx (upd H4 Da (.lst (acc ++ [y]))) else Nx H3 := by
  let Iv : Nat → Hp → Prop := fun i H2 => i ≤ ds.length ∧ ∃ ρ2 acc2 ys2, RS T S H0 H2 (L2.wipe σ vs) ρ2 ∧ UnAt vs ρ2 ∧ StpX Da (L2.wipe σ vs) ρ1 ρ2 H1 H2 ∧ H2 Da = some (.lst acc2) ∧ RpL H2 acc2 ys2
    ∧ PstG mg T W S H0 (fun zs ρ3 => ∃ zs', ok zs' ρ3 ∧ ys ++ zs' = ys2 ++ zs) (lcL bd fc fe vs (ds.drop i) ρ2)
  refine ⟨fun i m H2 => m = ds.length - i ∧ Iv i H2, ⟨ds.length, by omega, Nat.zero_le _, ρ1, acc, ys, R1, u1, StpX.refl, hDa, rl, q.mono fun zs ρ3 h => ⟨zs, h, rfl⟩⟩, ?_⟩
  rintro i m H2 ⟨rfl, hi, ρ2, acc2, ys2, R2, u2, s2, hD2, rl2, q⟩
  have fz := s2.fz R1 hDa
  by_cases hl : i < ds.length
  · refine .inr ⟨J1.go i H2 hl fz, fun H3 => Iv (i + 1) H3, fun H3 h => ⟨ds.length - (i + 1), by omega, rfl, h⟩, ?_⟩
    intro x H3 y
    obtain ⟨gr, yr⟩ := J1.yld i H2 x H3 ds[i] fz y (List.getElem?_eq_getElem hl)
    rw [List.drop_eq_getElem_cons hl, lcL] at q
    cases hb : bd ds[i] ρ2 with
    | none => rw [hb] at q; exact q.elim
    | some ρ3 =>
      rw [hb] at q
      dsimp only at q
      refine ht T S H0 H3 (L2.wipe σ vs) ρ2 x _ ρ3 _ (R2.grw gr) yr hb fun σ3 R3 k3 => ⟨wipe_keep k3 hs, ?_⟩
      have ew := wipe_keep k3 hs
      refine ⟨S, H0, ρ3, R3, (noE_ok q).mono fun t ρ4 q H4 R4 s4 => ?_⟩
      have dn2 : ∀ j, ¬ Own (L2.wipe σ vs) ρ2 j Da := fun j h => hn j (s2.own j _ h)
      have dn3 : ∀ j, ¬ Own σ3 ρ3 j Da := fun j h => dn2 j (k3.own j _ h)
      have hD3 : H3 Da = some (.lst acc2) := gr _ _ hD2
      have nt : NoTbl (.lst acc2) := fun _ z => nomatch z
      have hD4 := s4.keep Da _ hD3 dn3 nt
      have rl4 := (rl2.k gr.fz).k (s4.fz R3)
      cases t with
      | false =>
        refine iteF ?_
        rw [if_neg (by decide)] at q
        have st : StpX Da (L2.wipe σ vs) ρ2 (wipeE ρ4 vs) H3 H4 := StpX.blk k3 ew s4.x
        refine ⟨hl, wipeE ρ4 vs, acc2, ys2, ?_, unAt_wipeE, s2.trans (gr.x.trans st), hD4, rl4, q⟩
        have := R4.wipe vs
        rw [ew] at this
        exact this
      | true =>
        refine iteT ?_
        rw [if_pos rfl] at q
        refine ⟨S, H0, ρ4, R4, (noE_ok q).mono fun y ρ5 q v H5 R5 s5 ry => ?_⟩
        have dn4 : ∀ j, ¬ Own σ3 ρ4 j Da := fun j h => dn3 j (s4.own j _ h)
        have dn5 : ∀ j, ¬ Own σ3 ρ5 j Da := fun j h => dn4 j (s5.own j _ h)
        have hD5 := s5.keep Da _ hD4 dn4 nt
        have rl5 := rl4.k (s5.fz R4)
        have q := q.bind
        refine ⟨acc2, hD5, ?_, hl, ?_⟩
        · cases hr : lcL bd fc fe vs (List.drop (i + 1) ds) (wipeE ρ5 vs) with
          | ok zs ρ6 =>
            rw [hr] at q
            obtain ⟨zs', h6, e6⟩ : ∃ zs', ok zs' ρ6 ∧ ys ++ zs' = ys2 ++ (y :: zs) := q
            have := lim_le (sz _ _ h6)
            rw [e6, List.length_append, List.length_cons] at this
            rw [rl2.length]
            omega
          | er e => exact (lcL_er _ _ _ hr).elim
          | no => rw [hr] at q; exact q.elim
        · have kk : FzS H5 (upd H5 Da (.lst (acc2 ++ [v]))) := fun b ob w e => by
            rw [upd_ne (fun z => by rw [z, hD5] at e; cases e)]
            exact e
          have R6 := R5.updD (w := .lst (acc2 ++ [v])) hD5 trivial dn5 d0 (ObR.nocode (.lst rl5))
          have st : StpX Da (L2.wipe σ vs) ρ2 (wipeE ρ5 vs) H3 (upd H5 Da (.lst (acc2 ++ [v]))) := StpX.blk k3 ew ((s4.trans s5).x.trans (stpx_put hD5))
          refine ⟨wipeE ρ5 vs, acc2 ++ [v], ys2 ++ [y], ?_, unAt_wipeE, s2.trans (gr.x.trans st), upd_same, (rl5.k kk).append (.one (ry.k kk)), ?_⟩
          · have := R6.wipe vs
            rw [ew] at this
            exact this
          · refine q.mono fun zs ρ6 q => ?_
            obtain ⟨zs', h6, e6⟩ : ∃ zs', ok zs' ρ6 ∧ ys ++ zs' = ys2 ++ (y :: zs) := q
            exact ⟨zs', h6, by rw [e6, List.append_assoc]; rfl⟩
  · have : i = ds.length := by omega
    subst this
    refine .inl ⟨J1.stop H2 fz, ?_⟩
    rw [List.drop_length, lcL] at q
    obtain ⟨zs', h6, e6⟩ : ∃ zs', ok zs' ρ2 ∧ ys ++ zs' = ys2 ++ [] := q
    refine fin zs' ρ2 H2 acc2 h6 R2 u2 s2 hD2 ?_
    rw [e6, List.append_nil]
    exact rl2
/-! two fors -/
def lc2L (bd : D → Ev → Option Ev) (fc : Ev → R Bool) (fi1 : Ev → R (List D)) (bd1 : D → Ev → Option Ev) (fc1 : Ev → R Bool) (fe : Ev → R D) (vs vs1 : List Nat) : List D → Ev → R (List D)
  | [], ρ => .ok [] ρ
  | d :: ds, ρ => match bd d ρ with
    | none => .no
    | some ρ1 => (noE (fc ρ1)).bind fun t ρ2 => if t = true then (noE (fi1 ρ2)).bind fun es ρ3 => (lcL bd1 fc1 fe vs1 es (wipeE ρ3 vs1)).bind fun ys ρ4 => (lc2L bd fc fi1 bd1 fc1 fe vs vs1 ds (wipeE ρ4 vs)).bind fun zs ρ5 => .ok (ys ++ zs) ρ5 else lc2L bd fc fi1 bd1 fc1 fe vs vs1 ds (wipeE ρ2 vs)
theorem lc2L_er {bd bd1 : D → Ev → Option Ev} {fc fc1 : Ev → R Bool} {fi1 : Ev → R (List D)} {fe : Ev → R D} : ∀ (ds : List D) (ρ : Ev) (e : Er), lc2L bd fc fi1 bd1 fc1 fe vs vs1 ds ρ ≠ .er e
  | [], ρ, e, h => by cases h
  | d :: ds, ρ, e, h => by
    rw [lc2L] at h
    cases hb : bd d ρ with
    | none =>
        rw [hb] at h; cases h
    | some ρ1 =>
      rw [hb] at h
      rcases bind_er h with h | ⟨t, ρ2, _, h⟩
      · exact noE_er h
      · cases t with
        | false => exact lc2L_er ds _ e h
        | true =>
          rcases bind_er h with h | ⟨y, ρ3, _, h⟩
          · exact noE_er h
          · rcases bind_er h with h | ⟨z, ρ4, _, h⟩
            · exact lcL_er _ _ e h
            · rcases bind_er h with h | ⟨z, ρ5, _, h⟩
              · exact lc2L_er ds _ e h
              · cases h
def fLc2 (fi : Ev → R (List D)) (bd : D → Ev → Option Ev) (fc : Ev → R Bool) (fi1 : Ev → R (List D)) (bd1 : D → Ev → Option Ev) (fc1 : Ev → R Bool) (fe : Ev → R D) (vs vs1 : List Nat) : Ev → R SV :=
  fun ρ => (fi ρ).bind fun ds ρ => (lc2L bd fc fi1 bd1 fc1 fe vs vs1 ds (wipeE ρ vs)).bind fun ys ρ => if ys.length ≤ LIM then .ok (.own none (.lst ys)) ρ else .no
theorem wipe_sub (h : ∀ i ∈ vs1, i ∈ vs) : L2.wipe (L2.wipe σ vs1) vs = L2.wipe σ vs := by
  refine List.ext_getElem?
      fun j => ?_
  rw [wipe_get (L2.wipe σ vs1) vs, wipe_get σ vs1, wipe_get σ vs]
  by_cases e : j ∈ vs
  · rw [if_pos e, if_pos e]
    by_cases e1 : j ∈ vs1
    · rw [if_pos e1, Option.map_map]
      rfl
    · rw [if_neg e1]
  · rw [if_neg e, if_neg e, if_neg fun z => e (h j z)]
theorem tLc2_of {k k1 : Bool} {fi fi1 : Ev → R (List D)} {g g1 : TG} {bd bd1 : D → Ev → Option Ev} {fc fc1 : Ev → R Bool} {fe : Ev → R D} {K : PySem.W.Frag} {Q : VK} (ht : TgOk K k g sl bd) (hs : ∀ i ∈ sl, i ∈ vs) (ht1 : TgOk K k1 g1 sl1 bd1) (hs1 : ∀ i ∈ sl1, i ∈ vs1) (hv : ∀ i ∈ vs1, i ∈ vs) (h : tP mg T W (fLc2 fi bd fc fi1 bd1 fc1 fe vs vs1) σ H Q) :
    tLc2 (tI mg T W k fi) g (tT mg T E0 fc) (tI mg T E0 k1 fi1) g1 (tT mg T E0 fc1) (tD mg T E0 fe) vs vs1 σ H Q := by
  obtain ⟨S, H0, ρ, R, q⟩ := h
  refine ⟨S, H0, ρ, R, q.bind.mono fun ds ρ1 q J H1 R1 s1 J1 Da hD => ?_⟩
  have q := q.bind
  have hn : ∀ i, ¬ Own σ ρ1 i Da := R1.fresh hD
  obtain ⟨d0, dS⟩ := R1.dm Da hD
  have hg0 : Grw H1 (upd H1 Da (.lst [])) := Grw.new hD
  have Rs := (R1.grw hg0).wipe vs
  have hnw : ∀ i, ¬ Own (L2.wipe σ vs) (wipeE ρ1 vs) i Da := fun i h => hn i (own_wipe h).2
  let Iv : Nat → Hp → Prop := fun i H2 => i ≤ ds.length ∧ ∃ ρ2 acc2 ys2, RS T S H0 H2 (L2.wipe σ vs) ρ2 ∧ UnAt vs ρ2 ∧ StpX Da (L2.wipe σ vs) (wipeE ρ1 vs) ρ2 (upd H1 Da (.lst [])) H2 ∧ H2 Da = some (.lst acc2) ∧ RpL H2 acc2 ys2
    ∧ PstG mg T W S H0 (fun zs ρ3 => Pst mg T W S H0 H σ ρ Q (if (ys2 ++ zs).length ≤ LIM then .ok (.own none (.lst (ys2 ++ zs))) ρ3 else .no)) (lc2L bd fc fi1 bd1 fc1 fe vs vs1 (ds.drop i) ρ2)
  refine ⟨fun i m H2 => m = ds.length - i ∧ Iv i H2, ⟨ds.length, by omega, Nat.zero_le _, wipeE ρ1 vs, [], [], Rs, unAt_wipeE, StpX.refl, upd_same, .nil, q⟩, ?_⟩
  rintro i m H2 ⟨rfl, hi, ρ2, acc2, ys2, R2, u2, s2, hD2, rl2, q⟩
  have fz0 := s2.fz Rs upd_same
  have fz := hg0.fz.trans fz0
  by_cases hl : i < ds.length
  · refine .inr ⟨J1.go i H2 hl fz, fun H3 => Iv (i + 1) H3, fun H3 h => ⟨ds.length - (i + 1), by omega, rfl, h⟩, ?_⟩
    intro x H3 y
    obtain ⟨gr, yr⟩ := J1.yld i H2 x H3 ds[i] fz y (List.getElem?_eq_getElem hl)
    rw [List.drop_eq_getElem_cons hl, lc2L] at q
    cases hb : bd ds[i] ρ2 with
    | none => rw [hb] at q; exact q.elim
    | some ρ3 =>
      rw [hb] at q
      dsimp only at q
      refine ht T S H0 H3 (L2.wipe σ vs) ρ2 x _ ρ3 _ (R2.grw gr) yr hb fun σ3 R3 k3 => ⟨wipe_keep k3 hs, ?_⟩
      have ew := wipe_keep k3 hs
      refine ⟨S, H0, ρ3, R3, (noE_ok q).mono fun t ρ4 q H4 R4 s4 => ?_⟩
      have dn2 : ∀ j, ¬ Own (L2.wipe σ vs) ρ2 j Da := fun j h => hnw j (s2.own j _ h)
      have dn3 : ∀ j, ¬ Own σ3 ρ3 j Da := fun j h => dn2 j (k3.own j _ h)
      have hD3 : H3 Da = some (.lst acc2) := gr _ _ hD2
      have nt : NoTbl (.lst acc2) := fun _ z => nomatch z
      have hD4 := s4.keep Da _ hD3 dn3 nt
      have rl4 := (rl2.k gr.fz).k (s4.fz R3)
      cases t with
      | false =>
        refine iteF ?_
        rw [if_neg (by decide)] at q
        have st : StpX Da (L2.wipe σ vs) ρ2 (wipeE ρ4 vs) H3 H4 := StpX.blk k3 ew s4.x
        refine ⟨hl, wipeE ρ4 vs, acc2, ys2, ?_, unAt_wipeE, s2.trans (gr.x.trans st), hD4, rl4, q⟩
        have := R4.wipe vs
        rw [ew] at this
        exact this
      | true =>
        refine iteT ?_
        rw [if_pos rfl] at q
        refine ⟨S, H0, ρ4, R4, (noE_ok q).mono fun es ρ5 q Jn H5 R5 s5 J5 => ?_⟩
        have dn4 : ∀ j, ¬ Own σ3 ρ4 j Da := fun j h => dn3 j (s4.own j _ h)
        have dn5 : ∀ j, ¬ Own σ3 ρ5 j Da := fun j h => dn4 j (s5.own j _ h)
        have hD5 := s5.keep Da _ hD4 dn4 nt
        have rl5 := rl4.k (s5.fz R4)
        have q := q.bind
        refine lc_core (ok := fun ys ρ6 => PstG mg T W S H0 (fun zs ρ7 => Pst mg T W S H0 H σ ρ Q (if (ys2 ++ (ys ++ zs)).length ≤ LIM then .ok (.own none (.lst (ys2 ++ (ys ++ zs)))) ρ7 else .no)) (lc2L bd fc fi1 bd1 fc1 fe vs vs1 (ds.drop (i + 1)) (wipeE ρ6 vs))) ht1 hs1 (R5.wipe vs1) unAt_wipeE J5 (fun j h => dn5 j (own_wipe h).2) d0 hD5 rl5 (q.mono fun ys ρ6 q => q.bind) (fun zs ρ6 h => ?_) (fun zs ρ6 H6 acc6 h R6 u6 s6 hD6 rl6 => ?_)
        · cases hr : lc2L bd fc fi1 bd1 fc1 fe vs vs1 (ds.drop (i + 1)) (wipeE ρ6 vs) with
          | ok ws ρ7 =>
            rw [hr] at h
            have h : Pst mg T W S H0 H σ ρ Q _ := h
            obtain ⟨hl6, _⟩ := ite_ok h
            rw [List.length_append, List.length_append] at hl6
            rw [List.length_append]
            omega
          | er e => exact (lc2L_er _ _ _ hr).elim
          | no => rw [hr] at h; exact h.elim
        · have ew1 : L2.wipe (L2.wipe σ3 vs1) vs = L2.wipe σ vs := (wipe_sub hv).trans ew
          have st : StpX Da (L2.wipe σ vs) ρ2 (wipeE ρ6 vs) H3 H6 := by
            have a1 := (s4.trans s5).x (Da := Da)
            refine ⟨fun b o h d n t => s6.keep b o (a1.keep b o h d (fun j z => n j (k3.own j b z)) t) d (fun j z => n j (k3.own j b (a1.own j b (own_wipe z).2))) t, fun j c h => ?_, fun b h => a1.dm b (s6.dm b h)⟩
            rw [← ew1] at h
            exact k3.own j c (a1.own j c (own_wipe (s6.own j c (own_wipe h).2)).2)
          refine ⟨hl, wipeE ρ6 vs, acc6, ys2 ++ zs, ?_, unAt_wipeE, s2.trans (gr.x.trans st), hD6, rl6, ?_⟩
          · have := R6.wipe vs
            rw [ew1] at this
            exact this
          · refine PstG.mono h fun ws ρ7 q => ?_
            rw [List.append_assoc]
            exact q
  · have : i = ds.length := by omega
    subst this
    refine .inl ⟨J1.stop H2 fz, ?_⟩
    rw [List.drop_length, lc2L] at q
    have q : Pst mg T W S H0 H σ ρ Q _ := q
    rw [List.append_nil] at q
    obtain ⟨hl6, q⟩ := ite_ok q
    have R3 := R2.unwipe u2
    have own3 : ∀ j a, Own σ ρ2 j a → Own σ ρ1 j a := fun j a h => (own_wipe (s2.own j a ((own_unwipe u2).1 h))).2
    refine q _ H2 R3 (s1.trans ⟨fun b o h n t => ?_, own3, fun b h => hg0.emp (s2.dm b h)⟩) ⟨rfl, Da, _, rfl, hD2, trivial, .lst rl2, fun j h => hn j (own3 j _ h), d0, dS⟩ fun a e => ?_
    · refine s2.keep b o (hg0 b o h) (fun z => by subst z; rw [hD] at h; cases h) (fun j z => n j (own_wipe z).2) t
    · cases e
      exact .inl (s1.dm _ (.inl hD))
theorem pp_lc2 {elt : Expr} {ifs ifs1 : List Expr} {scope : Scope} {own : List (Str × Nat)} {k k1 : Bool} {fi fi1 : Ev → R (List D)} {g g1 : TG} {bd bd1 : D → Ev → Option Ev} {fc fc1 : Ev → R Bool} {fe : Ev → R D} (hc : X.calm = true) (hN : X.N.Nodup) (hi : PIr X T W tg iter k fi) (ok : BlkOk X.N X.env.scope scope own) (hv : ∀ i ∈ vs1, i ∈ own.map (·.2))
    (hg : ∀ (s : Shared) (H : Hp) (C : Addr) (cl : List (Str × Addr)) (fp : List Addr), PG (X.blk s H scope (compEnvC scope cl C X.env) fp) tg g) (ht : TgOk X.K k g sl bd) (hs : ∀ i ∈ sl, i ∈ own.map (·.2))
    (hf : ∀ (s : Shared) (H : Hp) (C : Addr) (cl : List (Str × Addr)) (fp : List Addr), PTr (X.blk s H scope (compEnvC scope cl C X.env) fp) T E0 ifs fc)
    (hi1 : ∀ (s : Shared) (H : Hp) (C : Addr) (cl : List (Str × Addr)) (fp : List Addr), PIr (X.blk s H scope (compEnvC scope cl C X.env) fp) T E0 tg1 iter1 k1 fi1)
    (hg1 : ∀ (s : Shared) (H : Hp) (C : Addr) (cl : List (Str × Addr)) (fp : List Addr), PG (X.blk s H scope (compEnvC scope cl C X.env) fp) tg1 g1) (ht1 : TgOk X.K k1 g1 sl1 bd1) (hs1 : ∀ i ∈ sl1, i ∈ vs1)
    (hf1 : ∀ (s : Shared) (H : Hp) (C : Addr) (cl : List (Str × Addr)) (fp : List Addr), PTr (X.blk s H scope (compEnvC scope cl C X.env) fp) T E0 ifs1 fc1)
    (he : ∀ (s : Shared) (H : Hp) (C : Addr) (cl : List (Str × Addr)) (fp : List Addr), PD (X.blk s H scope (compEnvC scope cl C X.env) fp) T E0 elt fe)
    (hfs : ∀ (x : Value), foldedSetIterable iter X.env x = pure x := by intro _; rfl) (hfs1 : ∀ (env : Env) (x : Value), foldedSetIterable iter1 env x = pure x := by intro _ _; rfl) :
    PP X T W (.ListComp elt [⟨tg, iter, ifs, 0⟩, ⟨tg1, iter1, ifs1, 0⟩] scope pos) (fLc2 fi bd fc fi1 bd1 fc1 fe (own.map (·.2)) vs1) :=
  weakE (pe_lc2 hc hN hi ok hv hg hf hi1 hg1 hf1 he hfs hfs1) fun σ H Q h => tLc2_of ht hs ht1 hs1 hv h
end
end Pu
/-! PuY -/
set_option maxRecDepth 100000
namespace Pu
open PySem PySem.Spec
    PyProof.Rows L2
section
variable {T : List (Addr × Str)} {S : List Addr} {H0 H H' H1 H2 : Hp} {σ σ' : L2.St} {ρ ρ' ρ1 ρ2 : Ev} {X : Cx} {W : XK} {e e2 a b c : Expr} {pos p apos cpos : Pos} {mg : Str → Option Value} {tg iter tg1 iter1 : Expr}
/-! targets that store -/
def TgX (mg : Str → Option Value) (T : List (Addr × Str)) (W : XK) (g : TG) (bt : D → Ev → R Unit) : Prop := ∀ (S : List Addr) (H0 H : Hp) (σ : L2.St) (ρ : Ev) (v : V) (d : D) (Q : L2.St → Hp → Prop),
  RS T S H0 H σ ρ → Rp H v d → PstG mg T W S H0 (fun _ ρ' => ∀ σ' H', RS T S H0 H' σ' ρ' → FzS H H' → Q σ' H') (bt d ρ) → g v σ H Q
def TgsX (mg : Str → Option Value) (T : List (Addr × Str)) (W : XK) (g : TGs) (bt : List D → Ev → R Unit) : Prop := ∀ (S : List Addr) (H0 H : Hp) (σ : L2.St) (ρ : Ev) (vs : List V) (ds : List D) (Q : L2.St → Hp → Prop),
  RS T S H0 H σ ρ → RpL H vs ds → PstG mg T W S H0 (fun _ ρ' => ∀ σ' H', RS T S H0 H' σ' ρ' → FzS H H' → Q σ' H') (bt ds ρ) → g vs σ H Q
def btNm (i : Nat) : D → Ev → R Unit := fun d ρ => .ok () (ρ.set i (.d d))
theorem tgx_nm {i : Nat} : TgX mg T W (gName i) (btNm i) := fun S H0 H σ ρ v d Q R y q => q _ H (R.set (r := .d d) y i) (FzS.refl _)
def btSub (i : Nat) (fi : Ev → R D) : D → Ev → R Unit := fun d ρ => (opt (ownL ρ i) ρ).bind fun _ ρ => (fi ρ).bind fun j ρ => (opt (ownL ρ i) ρ).bind fun q ρ => match j with
  | .int k => match ixN q.2.length k with
    | some m => .ok () (ρ.set i (.own q.1 (.lst (q.2.set m d))))
    | none => .no
  | _ => .no
theorem tgx_sub {i : Nat} {fi : Ev → R D} : TgX mg T W (gSub (tVar i) (tD mg T W fi) rSetL) (btSub i fi) := by
  intro S H0 H σ ρ v d Q R y q
  obtain ⟨⟨t0, ys0⟩, h0, q⟩ := opt_some (PstG.bind q)
  obtain ⟨e0, a, vs0, es, ha0, r0⟩ := ownL_of R h0
  refine ⟨_, es, bindD R q fun j ρ2 w H2 R2 s2 r2 q => ?_⟩
  obtain ⟨⟨t1, ys1⟩, h1, q⟩ := opt_some (PstG.bind q)
  obtain ⟨e1, a1, vs1, es1, ha1, rl1⟩ := ownL_of R2 h1
  rw [es] at es1
  cases es1
  cases j with
  | int k =>
    cases r2
    dsimp only at q
    cases hk : ixN ys1.length k with
    | none => rw [hk] at q; exact q.elim
    | some m =>
      rw [hk] at q
      obtain ⟨R3, s3⟩ := R2.mut (ho' := .lst (vs1.set m v)) e1 es trivial (.lst (rl1.set (Rp.k y (s2.fz R)) m))
      exact ⟨a, vs1, k, m, rfl, rfl, ha1, by rw [rl1.length]; exact hk, q _ _ R3 ((s2.fz R).trans (s3.fz R2))⟩
  | _ => exact q.elim
def btNil : List D → Ev → R Unit
  | [], ρ => .ok () ρ
  | _, _ => .no
def btCons (f : D → Ev → R Unit) (g : List D → Ev → R Unit) : List D → Ev → R Unit
  | d :: ds, ρ => (f d ρ).bind fun _ ρ => g ds ρ
  | _, _ => .no
theorem tgsx_nil : TgsX mg T W gNil btNil := by
  intro S H0 H σ ρ vs ds Q R y q
  cases y with
  | nil => exact ⟨rfl, q σ H R (FzS.refl _)⟩
  | cons _ _ => exact q.elim
theorem tgsx_cons {t : TG} {u : TGs} {f : D → Ev → R Unit} {g : List D → Ev → R Unit} (h1 : TgX mg T W t f) (h2 : TgsX mg T W u g) : TgsX mg T W (gCons t u) (btCons f g) := by
  intro S H0 H σ ρ vs ds Q R y q
  cases y with
  | nil => exact q.elim
  | @cons v vs d ds y1 y2 =>
    refine ⟨v, vs, rfl, h1 S H0 H σ ρ v d _ R y1 ?_⟩
    exact (PstG.bind q).mono fun _ ρ1 q σ1 H1 R1 f1 => h2 S H0 H1 σ1 ρ1 vs ds Q R1 (y2.k f1) (q.mono fun _ ρ2 q σ2 H2 R2 f2 => q σ2 H2 R2 (f1.trans f2))
def btTup (n : Nat) (g : List D → Ev → R Unit) : D → Ev → R Unit
  | .tuple ds, ρ => if ds.length = n then g ds ρ else .no
  | _, _ => .no
theorem tgx_tup {K : PySem.W.Frag} {n : Nat} {t : TGs} {g : List D → Ev → R Unit} (h : TgsX mg T W t g) : TgX mg T W (gTup K n t) (btTup n g) := by
  intro S H0 H σ ρ v d Q R y q
  cases y with
  | @tup a ob vs ds h1 h2 rl =>
    obtain ⟨hn, q⟩ := ite_ok q
    exact ⟨a, vs, rfl, .inl (.inr ⟨_, h1⟩), by rw [rl.length]; exact hn, h S H0 H σ ρ vs ds Q R rl q⟩
  | _ => exact q.elim
def fAsg (f : Ev → R D) (bt : D → Ev → R Unit) : Ev → SR := fun ρ => (f ρ).toS fun d ρ => (bt d ρ).toS fun _ ρ => .nx ρ
theorem ps_asgX {f : Ev → R D} {g : TG} {bt : D → Ev → R Unit} (h : PD X T W e f) (hg : PG X tg g) (ht : TgX X.mg T W g bt)
    (h1 : swapsWithSole [tg] e pos.line X.env = pure false := by rfl) (h2 : swappedStores [tg] e X.env = pure none := by rfl) (h3 : List.map (fun x => x.snd) (assignEach [tg] X.env) = [assign tg X.env] := by rfl) : PSp X T W (.Assign [tg] e pos) (fAsg f bt) := by
  refine weakSt (ps_asg h hg h1 h2 h3) ?_
  rintro Dn σ H ⟨S, H0, ρ, R, q⟩
  refine stD R q fun y ρ1 v H1 R1 s1 r1 q => ?_
  exact ht S H0 H1 σ ρ1 v y _ R1 r1 (q.of.mono fun _ ρ2 q σ2 H2 R2 f2 => q.step f2 σ2 H2 R2 (FzS.refl _))
theorem pg_subV {i : Nat} {x : Str} {ix : Expr} {fi : Ev → R D} {spos : Pos} (hN : X.N[i]? = some x) (hv : Vis X.env.scope x) (hi : PD X T W ix fi) (hd : (x == ("__debug__" : Str)) = false := by decide) (hcd : (x == ("__classdict__" : Str)) = false := by decide)
    (hset : ∀ (v : Value), assign ((Expr.Name x p).Subscript ix spos) X.env v = (do
                let ov ← holding [v] (eval (.Name x p) X.env)
                let iv ← holding [v, ov] (eval ix X.env)
                standAt spos
                holding [v, ov, iv]
                    (setItem ov iv v)
                release [v, ov, iv] []) := by intro _; rfl) : PG X ((Expr.Name x p).Subscript ix spos) (gSub (tVar i) (tD X.mg T W fi) rSetL) := pg_sub (pe_var hN hv hd hcd) hi set_list hset
/-! xs.insert(i, e) -/
def insC (xs : List D) : List D → Option (List D)
  | [.int j, y] => if 0 ≤ j ∧ j < 2 ^ 62 ∧ xs.length < LIM then some (xs.take j.toNat ++ [y] ++ xs.drop j.toNat) else none
  | _ => none
theorem insC_some {xs ds zs : List D} (h : insC xs ds = some zs) : ∃ j y, ds = [.int j, y] ∧ (0 ≤ j ∧ j < 2 ^ 62 ∧ xs.length < LIM) ∧ zs = xs.take j.toNat ++ [y] ++ xs.drop j.toNat := by
  unfold insC at h
  split at h
  · obtain ⟨h1, rfl⟩ := if_some h
    exact ⟨_, _, rfl, h1, rfl⟩
  · cases h
def fIns (i : Nat) (f : Ev → R (List D)) : Ev → R SV := fun ρ => (opt (ownL ρ i) ρ).bind fun _ ρ => (f ρ).bind fun ds ρ => (opt (ownL ρ i) ρ).bind fun q ρ => (opt (insC q.2 ds) ρ).bind fun zs ρ => .ok (.d .none) (ρ.set i (.own q.1 (.lst zs)))
theorem pp_ins {i : Nat} {x : Str} {f : Ev → R (List D)} (hN : X.N[i]? = some x) (hv : Vis X.env.scope x) (ha : PAr X T W [a, b] f) (hd : (x == ("__debug__" : Str)) = false := by decide) (hcd : (x == ("__classdict__" : Str)) = false := by decide)
    (hbase : attributeBase (.Name x p) (Str.ofString "insert") X.env (eval (.Name x p) X.env) = eval (.Name x p) X.env := by rfl)
    (hfew : ((backTo cpos (starEach [a, b] X.env)).all (fun x => !x.1) && (backToKw cpos (keywordEach [] X.env)).all (fun x => x.1.isSome) && decide ([a, b].length + ([] : List Keyword).length + (if ([] : List Keyword).isEmpty then 0 else 1) < 30)) = true := by rfl)
    (hline : (apos.endLine == cpos.line) = true := by rfl) (hs : starEach [a, b] X.env = (false, eval a X.env) :: starEach [b] X.env := by rfl) (hpl : (backTo cpos (starEach [b] X.env)).any (·.1) = false := by rfl) :
    PP X T W (.Call (.Attribute (.Name x p) "insert" apos) [a, b] [] cpos) (fIns i f) := by
  refine weakE (pe_bm PySem.F.plainAttrs_list PySem.F.slot_list_insert PySem.F.type_list_insert mt_insert (pe_var hN hv hd hcd) ha hbase hfew hline hs hpl) ?_
  rintro σ H Q ⟨S, H0, ρ, R, q⟩
  obtain ⟨⟨t0, ys0⟩, h0, q⟩ := opt_some (PstG.bind q)
  obtain ⟨e0, a, vs0, es, ha0, r0⟩ := ownL_of R h0
  refine ⟨_, es, .inl ⟨rfl, vs0, .inl (.inl ha0)⟩, bindA R q fun ds ρ1 ws H1 R1 s1 r1 q => ?_⟩
  obtain ⟨⟨t1, ys1⟩, h1, q⟩ := opt_some (PstG.bind q)
  obtain ⟨e1, a1, vs1, es1, ha1, rl1⟩ := ownL_of R1 h1
  rw [es] at es1
  cases es1
  obtain ⟨zs, hz, q⟩ := opt_some (PstG.bind q)
  obtain ⟨j, y, rfl, ⟨hl1, hl2, hl3⟩, rfl⟩ := insC_some hz
  cases r1 with
  | cons ry rr =>
    cases ry
    cases rr with
    | @cons v _ _ _ rv rr2 =>
      cases rr2
      obtain ⟨R2, s2⟩ := R1.mut (ho' := .lst (vs1.take j.toNat ++ [v] ++ vs1.drop j.toNat)) e1 es trivial (.lst (((rl1.take _).append (.one rv)).append (rl1.drop _)))
      exact ⟨a, vs1, j, v, rfl, rfl, ha1, by rw [rl1.length]; exact Nat.lt_of_lt_of_le hl3 (lim_le (Nat.le_refl _)), hl1, by omega, q .non _ R2 (s1.trans s2) .non trivial⟩
/-! zip -/
def zipL : List D → List D → List D
  | x :: xs, y :: ys => .tuple [x, y] :: zipL xs ys
  | _, _ => []
theorem zipL_get : ∀ (xs ys : List D) (i : Nat) (d : D), (zipL xs ys)[i]? = some d → ∃ x y, xs[i]? = some x ∧ ys[i]? = some y ∧ d = .tuple [x, y]
  | x :: xs, y :: ys, 0, d, h => by cases h; exact ⟨x, y, rfl, rfl, rfl⟩
  | x :: xs, y :: ys, i + 1, d, h => zipL_get xs ys i d h
  | [], _, i, d, h => by cases h
  | _ :: _, [], i, d, h => by cases h
theorem zipL_len : ∀ (xs ys : List D), (zipL xs ys).length = min xs.length ys.length
  | x :: xs, y :: ys => by
    show (zipL xs ys).length + 1 = _
    rw [zipL_len xs ys, List.length_cons, List.length_cons]
    omega
  | [], ys => by
    show 0 = _
    rw [List.length_nil, Nat.zero_min]
  | x :: xs, [] => by
    show 0 = _
    rw [List.length_nil, Nat.min_zero]
theorem itd_zipL {K : PySem.W.Frag} {a b : Addr} {ob ob2 : Obj} {vs ws : List V} {ds es : List D} (h : H a = some (.frz ob (.lst vs))) (r : RpL H vs ds) (h2 : H b = some (.frz ob2 (.lst ws))) (r2 : RpL H ws es) : ItD true (Itz K a b) (FzS H) (zipL ds es) := by
  refine ⟨fun H1 k => ⟨vs, ws, .inl (.inr ⟨_, k _ _ _ h⟩), .inl (.inr ⟨_, k _ _ _ h2⟩), by rw [zipL_len, r.length, r2.length]; omega⟩, fun i H1 hi k => ?_, fun i H1 x H' d k y hd => ?_⟩
  · rw [zipL_len] at hi
    have hv : i < vs.length := by rw [r.length]; omega
    have hw : i < ws.length := by rw [r2.length]; omega
    exact ⟨vs, ws, vs[i], ws[i], .inl (.inr ⟨_, k _ _ _ h⟩), .inl (.inr ⟨_, k _ _ _ h2⟩), List.getElem?_eq_getElem hv, List.getElem?_eq_getElem hw⟩
  · obtain ⟨t, u, w, rfl, nt, rfl, y1, y2⟩ := y
    have e1 := y1 vs (.inl (.inr ⟨_, k _ _ _ h⟩))
    have e2 := y2 ws (.inl (.inr ⟨_, k _ _ _ h2⟩))
    obtain ⟨x, z, hx, hz, rfl⟩ := zipL_get ds es i d hd
    obtain ⟨v, f1, rv⟩ := (r.k k).get hx
    obtain ⟨v2, f2, rv2⟩ := (r2.k k).get hz
    rw [e1] at f1
    rw [e2] at f2
    cases f1
    cases f2
    have g : Grw H1 (upd H1 t (.tup [u, w])) := Grw.new nt
    exact ⟨g, .inr ⟨t, _, _, rfl, rfl, upd_same, .cons (rv.k g.fz) (.cons (rv2.k g.fz) .nil)⟩⟩
theorem itd_zipT {K : PySem.W.Frag} {a b : Addr} {ob ob2 : Obj} {vs ws : List V} {ds es : List D} (h : H a = some (.frz ob (.tup vs))) (r : RpL H vs ds) (h2 : H b = some (.frz ob2 (.tup ws))) (r2 : RpL H ws es) : ItD true (RZ.ItzT K a b) (FzS H) (zipL ds es) := by
  refine ⟨fun H1 k => ⟨vs, ws, .inl (.inr ⟨_, k _ _ _ h⟩), .inl (.inr ⟨_, k _ _ _ h2⟩), by rw [zipL_len, r.length, r2.length]; omega⟩, fun i H1 hi k => ?_, fun i H1 x H' d k y hd => ?_⟩
  · rw [zipL_len] at hi
    have hv : i < vs.length := by rw [r.length]; omega
    have hw : i < ws.length := by rw [r2.length]; omega
    exact ⟨vs, ws, vs[i], ws[i], .inl (.inr ⟨_, k _ _ _ h⟩), .inl (.inr ⟨_, k _ _ _ h2⟩), List.getElem?_eq_getElem hv, List.getElem?_eq_getElem hw⟩
  · obtain ⟨t, u, w, rfl, nt, rfl, y1, y2⟩ := y
    have e1 := y1 vs (.inl (.inr ⟨_, k _ _ _ h⟩))
    have e2 := y2 ws (.inl (.inr ⟨_, k _ _ _ h2⟩))
    obtain ⟨x, z, hx, hz, rfl⟩ := zipL_get ds es i d hd
    obtain ⟨v, f1, rv⟩ := (r.k k).get hx
    obtain ⟨v2, f2, rv2⟩ := (r2.k k).get hz
    rw [e1] at f1
    rw [e2] at f2
    cases f1
    cases f2
    have g : Grw H1 (upd H1 t (.tup [u, w])) := Grw.new nt
    exact ⟨g, .inr ⟨t, _, _, rfl, rfl, upd_same, .cons (rv.k g.fz) (.cons (rv2.k g.fz) .nil)⟩⟩
def zipD : List D → Option (List D)
  | [.list xs, .list ys] => some (zipL xs ys)
  | [.tuple xs, .tuple ys] => some (zipL xs ys)
  | _ => none
theorem pir_zip {f : Ev → R (List D)} {tpos : Pos} {elts : List Expr} {kk : Nat} (hg : Gl X (Str.ofString "zip")) (hm : X.mg (Str.ofString "zip") = none) (h : PAr X T W [e, e2] f) (hs : starEach [e, e2] X.env = (false, eval e X.env) :: starEach [e2] X.env := by rfl) (hp : ((backTo pos (starEach [e2] X.env)).any fun x => x.fst) = false := by rfl) :
    PIr X T W (.Tuple elts kk tpos) (.Call (.Name (Str.ofString "zip") p) [e, e2] [] pos) true (fArgs zipD f) := by
  refine weakI (RZ.pi_zipA hg hm h hs hp) ?_
  rintro σ H Q ⟨S, H0, ρ, R, q⟩
  refine bindA R q fun ds ρ1 vs H1 R1 s1 r1 q => ?_
  obtain ⟨ds', hd, q⟩ := opt_some q
  unfold zipD at hd
  split at hd
  · cases hd
    cases r1 with
    | cons h1 t =>
      cases t with
      | cons h2 t =>
        cases t
        cases h1 with
        | lst f1 g1 =>
          cases h2 with
          | lst f2 g2 => exact ⟨_, _, _, _, rfl, .inl ⟨.inl (.inr ⟨_, f1⟩), .inl (.inr ⟨_, f2⟩), q _ _ R1 s1 (itd_zipL f1 g1 f2 g2)⟩⟩
  · cases hd
    cases r1 with
    | cons h1 t =>
      cases t with
      | cons h2 t =>
        cases t
        cases h1 with
        | tup f1 n1 g1 =>
          cases h2 with
          | tup f2 n2 g2 => exact ⟨_, _, _, _, rfl, .inr ⟨.inl (.inr ⟨_, f1⟩), .inl (.inr ⟨_, f2⟩), q _ _ R1 s1 (itd_zipT f1 g1 f2 g2)⟩⟩
  · cases hd
/-! reversed -/
theorem rev_get {xs : List D} {i : Nat} {d : D} (h : xs.reverse[i]? = some d) : xs[xs.length - 1 - i]? = some d := by
  have hi : i < xs.length := by
    have := (List.getElem?_eq_some_iff.mp h).1
    rwa [List.length_reverse] at this
  rw [List.getElem?_reverse hi] at h
  exact h
def fItR (f : Ev → R D) : Ev → R (List D) := fun ρ => (f ρ).bind fun d ρ => (opt (seqD d) ρ).bind fun ds ρ => .ok ds.reverse ρ
theorem pir_rev {f : Ev → R D} (hg : Gl X (Str.ofString "reversed")) (hm : X.mg (Str.ofString "reversed") = none) (h : PD X T W e f) (hs : starEach [e] X.env = (false, eval e X.env) :: starEach [] X.env := by rfl) :
    PIr X T W tg (.Call (.Name (Str.ofString "reversed") p) [e] [] pos) false (fItR f) := by
  refine weakI (RT.pi_revA hg hm h hs) ?_
  rintro σ H Q ⟨S, H0, ρ, R, q⟩
  refine bindD R q fun d ρ1 v H1 R1 s1 r1 q => ?_
  obtain ⟨ds, hd, q⟩ := opt_some (PstG.bind q)
  cases d with
  | list xs =>
    cases hd
    cases r1 with
    | @lst a ob vs _ e r =>
      refine ⟨a, vs, rfl, .inl ⟨.inl (.inr ⟨_, e⟩), q _ _ R1 s1 ⟨fun H2 k => by show vs.length ≤ ds.reverse.length; rw [List.length_reverse, r.length]; exact Nat.le_refl _, fun i H2 hi k => ?_, fun i H2 x H' d k y hd => ?_⟩⟩⟩
      · rw [List.length_reverse, ← r.length] at hi
        exact ⟨hi, vs, vs[vs.length - 1 - i], .inl (.inr ⟨_, k _ _ _ e⟩), List.getElem?_eq_getElem (by omega)⟩
      · obtain ⟨rfl, y⟩ := y
        have e1 := y vs (.inl (.inr ⟨_, k _ _ _ e⟩))
        obtain ⟨w, e2, rw'⟩ := (r.k k).get (rev_get hd)
        rw [r.length, e2] at e1
        cases e1
        exact ⟨Grw.refl _, rw'⟩
  | tuple xs =>
    cases hd
    cases r1 with
    | @tup a ob vs _ e n r =>
      refine ⟨a, vs, rfl, .inr ⟨.inl (.inr ⟨_, e⟩), q _ _ R1 s1 ⟨fun H2 k => by show vs.length ≤ ds.reverse.length; rw [List.length_reverse, r.length]; exact Nat.le_refl _, fun i H2 hi k => ?_, fun i H2 x H' d k y hd => ?_⟩⟩⟩
      · rw [List.length_reverse, ← r.length] at hi
        exact ⟨hi, vs, vs[vs.length - 1 - i], .inl (.inr ⟨_, k _ _ _ e⟩), List.getElem?_eq_getElem (by omega)⟩
      · obtain ⟨rfl, y⟩ := y
        have e1 := y vs (.inl (.inr ⟨_, k _ _ _ e⟩))
        obtain ⟨w, e2, rw'⟩ := (r.k k).get (rev_get hd)
        rw [r.length, e2] at e1
        cases e1
        exact ⟨Grw.refl _, rw'⟩
  | _ => cases hd
def rrgD : List D → Option (List D)
  | [.int j] => if rgC 0 j = true then some (rngL (0 + ((j - 0).toNat : Int) - 1) (-1) (j - 0).toNat) else none
  | [.int i, .int j] => if rgC i j = true then some (rngL (i + ((j - i).toNat : Int) - 1) (-1) (j - i).toNat) else none
  | _ => none
theorem pir_revRg {f : Ev → R (List D)} (hg : Gl X (Str.ofString "reversed")) (hm : X.mg (Str.ofString "reversed") = none) (h : PRg X e (tRg X.mg T W f)) (hs : starEach [e] X.env = (false, eval e X.env) :: starEach [] X.env := by rfl) :
    PIr X T W tg (.Call (.Name (Str.ofString "reversed") p) [e] [] pos) false (fArgs rrgD f) := by
  refine weakI (pi_revR hg hm h hs) ?_
  rintro σ H Q ⟨S, H0, ρ, R, q⟩
  refine ⟨S, H0, ρ, R, q.bind.mono fun ds ρ1 q => ?_⟩
  obtain ⟨ds', hd, q⟩ := opt_some q
  unfold rrgD at hd
  split at hd
  · obtain ⟨h1, rfl⟩ := if_some hd
    obtain ⟨l1, l2, l3, l4, l5⟩ := rgC_ok h1
    exact ⟨0, _, .inl ⟨rfl, rfl⟩, fun H1 R1 s1 => ⟨l1, l2, l3, l4, q _ _ R1 s1 itd_rngC⟩⟩
  · obtain ⟨h1, rfl⟩ := if_some hd
    obtain ⟨l1, l2, l3, l4, l5⟩ := rgC_ok h1
    exact ⟨_, _, .inr rfl, fun H1 R1 s1 => ⟨l1, l2, l3, l4, q _ _ R1 s1 itd_rngC⟩⟩
  · cases hd
theorem ps_stLc2 {vs1 sl sl1 : List Nat} {i : Nat} {y : Str} {py spos : Pos} {elt : Expr} {ifs ifs1 : List Expr} {scope : Scope} {own : List (Str × Nat)} {k k1 : Bool} {fi fi1 : Ev → R (List D)} {g g1 : TG} {bd bd1 : D → Ev → Option Ev} {fc fc1 : Ev → R Bool} {fe : Ev → R D} (hc : X.calm = true) (hN : X.N.Nodup) (hy : X.N[i]? = some y) (hl : List.lookup y X.env.scope.names = some NameKind.local)
    (hsw : swapsWith (.ListComp elt [⟨tg, iter, ifs, 0⟩, ⟨tg1, iter1, ifs1, 0⟩] scope pos) (some (.Name y py)) spos.line X.env = pure true) (hi : PIr X T W tg iter k fi) (ok : BlkOk X.N X.env.scope scope own) (hv : ∀ i ∈ vs1, i ∈ own.map (·.2))
    (hg : ∀ (s : Shared) (H : Hp) (C : Addr) (cl : List (Str × Addr)) (fp : List Addr), PG (X.blk s H scope (compEnvC scope cl C X.env) fp) tg g) (ht : TgOk X.K k g sl bd) (hs : ∀ i ∈ sl, i ∈ own.map (·.2))
    (hf : ∀ (s : Shared) (H : Hp) (C : Addr) (cl : List (Str × Addr)) (fp : List Addr), PTr (X.blk s H scope (compEnvC scope cl C X.env) fp) T E0 ifs fc)
    (hi1 : ∀ (s : Shared) (H : Hp) (C : Addr) (cl : List (Str × Addr)) (fp : List Addr), PIr (X.blk s H scope (compEnvC scope cl C X.env) fp) T E0 tg1 iter1 k1 fi1)
    (hg1 : ∀ (s : Shared) (H : Hp) (C : Addr) (cl : List (Str × Addr)) (fp : List Addr), PG (X.blk s H scope (compEnvC scope cl C X.env) fp) tg1 g1) (ht1 : TgOk X.K k1 g1 sl1 bd1) (hs1 : ∀ i ∈ sl1, i ∈ vs1)
    (hf1 : ∀ (s : Shared) (H : Hp) (C : Addr) (cl : List (Str × Addr)) (fp : List Addr), PTr (X.blk s H scope (compEnvC scope cl C X.env) fp) T E0 ifs1 fc1)
    (he : ∀ (s : Shared) (H : Hp) (C : Addr) (cl : List (Str × Addr)) (fp : List Addr), PD (X.blk s H scope (compEnvC scope cl C X.env) fp) T E0 elt fe)
    (hfs : ∀ (x : Value), foldedSetIterable iter X.env x = pure x := by intro _; rfl) (hfs1 : ∀ (env : Env) (x : Value), foldedSetIterable iter1 env x = pure x := by intro _ _; rfl) :
    PSp X T W (.Assign [.Name y py] (.ListComp elt [⟨tg, iter, ifs, 0⟩, ⟨tg1, iter1, ifs1, 0⟩] scope pos) spos) (fSet i (fLc2 fi bd fc fi1 bd1 fc1 fe (own.map (·.2)) vs1)) := by
  refine weakSt (ps_setLc2 (wi := tI X.mg T W k fi) (tt := tT X.mg T E0 fc) (wi1 := tI X.mg T E0 k1 fi1) (tt1 := tT X.mg T E0 fc1) (te := tD X.mg T E0 fe) (g := g) (g1 := g1) hc hN hy hl hsw hi ok hv hg hf hi1 hg1 hf1 he hfs hfs1) ?_
  rintro Dn σ H ⟨S, H0, ρ, R, q⟩
  exact tLc2_of ht hs ht1 hs1 hv (stP R q fun y ρ1 v H1 R1 s1 v1 _ q => q _ H1 (R1.set v1 i) (FzS.refl H1))
end
end Pu
/-! PuB -/
set_option maxRecDepth 100000
namespace Pu
open PySem PySem.Spec PyProof.Rows L2 WoR
theorem same_nw {H : Hp} {p : Addr} {o : HO} (h : H p = none) : Same H (upd H p o) := fun b x e => by
  rw [upd_ne (fun z => by rw [z, h] at e; cases e)]
  exact e
theorem lst_sq {K : PySem.W.Frag} {H : Hp} {a : Addr} {xs : List V} (h : H a = some (.lst xs)) : SqL K H a xs := .inl (.inl h)
section
variable {T : List (Addr × Str)} {S : List Addr} {H0 H H' : Hp} {σ : L2.St} {ρ ρ' : Ev} {X : Cx} {W : XK} {e a b c o : Expr} {pos p pos2 pos3 p2 p3 : Pos} {pins : List (Addr × Obj)} {s : Shared}
/-! ^ -/
def xorD : D → D → Option SV := gII fun i j => some (I (Builtin.bitXor i j))
theorem g_xor : GOp (rI0 fun i j => .int (Builtin.bitXor i j)) xorD := .I0
/-! a statement that is not told: nothing is promised -/
def fNo : Ev → SR := fun _ => .no
theorem ps_no {st : Stmt} : PSp X T W st fNo := ⟨fun pins s σ H Dn I ⟨S, H0, ρ, R, q⟩ => q.elim⟩
/-! tuple(reversed(range(n))) -/
def backD (n : Nat) : List D := (List.range n).map fun (i : Nat) => .int ((n : Int) - 1 - (i : Int))
theorem back_rp {H : Hp} (n : Nat) : RpL H (backI n) (backD n) := by
  unfold backI backD
  generalize List.range n = l
  induction l with
  | nil => exact .nil
  | cons i l ih => exact .cons (.int _) ih
def tbkD : D → Option SV
  | .int n => if 0 ≤ n ∧ n ≤ 100000 then some (.d (.tuple (backD n.toNat))) else none
  | _ => none
theorem pe_tupBackF {te : TE} (hc : X.calm = true) (hg : Gl X "tuple") (hm : X.mg "tuple" = none) (hg2 : Gl X "reversed") (hm2 : X.mg "reversed" = none) (hg3 : Gl X "range") (hm3 : X.mg "range" = none) (he : PE X e te)
    (hs : starEach [e] X.env = (false, eval e
        X.env) :: starEach [] X.env := by rfl)
    (hs1 : starEach [.Call (.Name "range" p3) [e] [] pos3] X.env = (false, eval (.Call (.Name "range" p3) [e] [] pos3) X.env) :: starEach [] X.env := by rfl)
    (hs2 : starEach [.Call (.Name "reversed" p2) [.Call (.Name "range" p3) [e] [] pos3] [] pos2] X.env = (false, eval (.Call (.Name "reversed" p2) [.Call (.Name "range" p3) [e] [] pos3] [] pos2) X.env) :: starEach [] X.env := by rfl) :
    PE X (.Call (.Name "tuple" p) [.Call (.Name "reversed" p2) [.Call (.Name "range" p3) [e] [] pos3] [] pos2] [] pos) (fun σ H Q => tRg1 te σ H fun a b H1 => ∃ n : Nat, a = 0 ∧ b = (n : Int) ∧ n ≤ 100000 ∧ ∀ v H', Grw H1 H' → GOk H1 H' v (.d (.tuple (backD n))) → Q v H') := by
  refine ⟨fun pins s σ
      H Q I h => ?_⟩
  refine Call_ (ld_blt I hg hm boot_tuple (PyProof.Rows.callWith_type1 (args_cons (Call_ (ld_blt I hg2 hm2 PyProof.Rows.boot_reversed (PyProof.Rows.callWith_type1
    (args_cons (thn (prg_1 hg3 hm3 he hs pins s σ H _ I h) fun u s1 hx => args_nil ?_) hs1) hs1 rfl))) hs2) hs2 rfl))
  obtain ⟨r, a, b, t, w1, v, H1, eu, hr, I1, n, rfl, rfl, hn, q⟩ := hx
  subst eu
  have hz : Builtin.Range.rangeSize 0 (n : Int) 1 = ((n : Nat) : Int) := by
    have z := rangeSize_nat 0 (n : Int)
    rw [Int.sub_zero] at z
    exact z
  refine call_reversed_range hr (smallRev_one (by omega) (by omega) (by omega) (by omega)) (args_nil ?_)
  have I2 : Inv X pins σ H1 { s1 with heap := s1.heap.push (rngRevObj 0 (n : Int) 1) } := I1.kept (t' := s1.toks) fun b o e => Heap.get?_push_of_some _ e
  obtain ⟨f0, f1, f2, f3, f4, f5⟩ := I1.fpOk (H' := H1) (b := s1.heap.objs.size)
      (Nat.le_refl _) (I1.hok.fresh (Nat.le_refl _))
  have hit : IsRangeIter (s1.heap.push (rngRevObj 0 (n : Int) 1)) s1.heap.objs.size ((n : Int) - 1) (n : Int) (-1) := by
    have z : rngRevObj 0 (n : Int) 1 = { cls := .type "range_iterator", data := .fields #[rawInt ((n : Int) - 1), rawInt (n : Int), rawInt (-1)] } := by
      unfold rngRevObj
      rw [hz, show (0 : Int) + ((n : Int) - 1) * 1 = (n : Int) - 1 by omega]
    rw [z]
    exact Heap.get?_push_size
        _ rfl
  refine call_tuple_rit (s := { s1 with heap := s1.heap.push (rngRevObj 0 (n : Int) 1) }) (I1.ok.hd hc) hit (by omega) fun h' tk acc hk hi => ?_
  have I3 : Inv X pins σ H1 { s1 with heap := h', toks := tk } := I2.turned
      (t' := tk) (fun b o hb e => hk b o hb e) f0 f1 f3 f4 f5
  have hl : acc.toList.length = n := by
    rw [Array.length_toList]
    exact hi.1
  have rv : Vals (backI n) acc.toList := by
    unfold backI
    rw [← hl]
    refine vals_of_get acc.toList
        _ fun j u hj => ?_
    obtain ⟨t, rfl⟩ := hi.2 j u (by rw [← hj, Array.getElem?_toList])
    exact ⟨t, by rw [hl]; congr 1; omega⟩
  have fin := newT (s := { s1 with heap := h', toks := tk }) (us := acc.toList) I3 rv (by rw [hl, sizeLine_eq]; omega) (back_rp n) q
  rw [tObj, Array.toArray_toList] at fin
  exact fin
theorem pp_tupBack {f : Ev → R D} (Bn : BI X.mg) (hc : X.calm = true) (hg : Gl X "tuple") (hg2 : Gl X "reversed") (hg3 : Gl X "range") (h : PD X T W e f) (hs : starEach [e] X.env = (false, eval e X.env) :: starEach [] X.env := by rfl)
    (hs1 : starEach [.Call (.Name "range" p3) [e] [] pos3] X.env = (false, eval (.Call (.Name "range" p3) [e] [] pos3) X.env) :: starEach [] X.env := by rfl)
    (hs2 : starEach [.Call (.Name "reversed" p2) [.Call (.Name "range" p3) [e] [] pos3] [] pos2] X.env = (false, eval (.Call (.Name "reversed" p2) [.Call (.Name "range" p3) [e] [] pos3] [] pos2) X.env) :: starEach [] X.env := by rfl) :
    PP X T W (.Call (.Name "tuple" p) [.Call (.Name "reversed" p2) [.Call (.Name "range" p3) [e] [] pos3] [] pos2] [] pos) (fUn tbkD f) := by
  refine weakE (pe_tupBackF hc hg Bn.tuple hg2 Bn.reversed hg3 Bn.range h hs hs1 hs2) ?_
  rintro σ H Q ⟨S, H0, ρ, R, q⟩
  refine bindD R q fun d ρ1 v H1 R1 s1 r1 q => ?_
  obtain ⟨z, hz, q⟩ := opt_some q
  cases d with
  | int n =>
    obtain ⟨⟨h0, h1⟩, rfl⟩ := if_some (show (if 0 ≤ n ∧ n ≤ 100000 then some (SV.d (.tuple (backD n.toNat))) else none) = some z from hz)
    cases r1
    refine ⟨n, rfl, n.toNat, rfl, (Int.toNat_of_nonneg h0).symm, by omega, fun v H' g go => go.fin g R1 s1 q⟩
  | _ => cases hz
end
end Pu
/-! PuK -/
set_option maxRecDepth 100000
namespace Pu
open PySem PySem.Spec PyProof.Rows L2 WoR LamX
/-- the script's first cell, or 0 -/
def cellOf (ns : List Int) : Int := if (ns ++ [0]).headD 0 < 0 then -(ns ++ [0]).headD 0 else (ns ++ [0]).headD 0
/-- a def that takes the script -/
def spS (K : PySem.W.Frag) (mg : Str → Option Value) (F : List Int → FR) : Sp := fun vs H Q E => ∃ L ns, vs = [.ref L] ∧ SqL K H L (ns.map V.int) ∧ ns.length ≤ 1000 ∧ EndF mg [] H Q E (F ns)
structure CalS (P : Program) (w : World) (K : PySem.W.Frag) (mg : Str → Option Value) (base : Heap) (x : Str) (k : Nat) (F : List Int → FR) : Prop where
  ex : ∃ f fd ps, mg x = some (.ref f) ∧ PySem.W.keepIn K (.ref f) = true ∧ L2.Binds K fd ps [] ∧ FnOk P w K mg base (L2N.CX P w) k f fd ps (spS K mg F)
section
variable {X : Cx} {pos p1 p2 p3 p4 p5 p6 p7 p8 : Pos}
theorem pe_cell {x : Str} {j1 j2 : Nat} {pa pc p2 p3 p4 p5 p6 p7 p8 : Pos} (Bn : BI X.mg) (hg1 : Gl X "abs") (hg2 : Gl X "list") (hN : X.N[0]? = some x) (hv : Vis X.env.scope x) (hd : (x == ("__debug__" : Str)) = false := by decide) (hcd : (x == ("__classdict__" : Str)) = false := by decide)
    (h1 : starEach [.Subscript (.BinOp (.Call (.Name "list" p2) [.Name x p3] [] p1) .Add (.List [.Constant (.int 0) j1 p4] p5) p6) (.Constant (.int 0) j2 p7) p8] X.env = (false, eval (.Subscript (.BinOp (.Call (.Name "list" p2) [.Name x p3] [] p1) .Add (.List [.Constant (.int 0) j1 p4] p5) p6) (.Constant (.int 0) j2 p7) p8) X.env) :: starEach [] X.env := by rfl)
    (h2 : starEach [.Name x p3] X.env = (false, eval (.Name x p3) X.env) :: starEach [] X.env := by rfl)
    (h3 : starEach [.Constant (.int 0) j1 p4] X.env = (false, eval (.Constant (.int 0) j1 p4) X.env) :: starEach [] X.env := by rfl) :
    PE X (.Call (.Name "abs" pa) [.Subscript (.BinOp (.Call (.Name "list" p2) [.Name x p3] [] p1) .Add (.List [.Constant (.int 0) j1 p4] p5) p6) (.Constant (.int 0) j2 p7) p8] [] pc)
      (fun σ H Q => ∃ L ns, σ[0]? = some (some (.ref L)) ∧ SqL X.K H L (ns.map V.int) ∧ ns.length ≤ 1000 ∧ ∀ H', Same H H' → Q (.int (cellOf ns)) H') := by
  refine Pu.weakE (pe_callB call_abs hg1 Bn.abs (by decide +kernel) (pa_cons (pe_ix ix_list (pe_op op_catS (pe_callTy call_list_of hg2 Bn.list (by decide +kernel) (pa_cons (pe_var hN hv hd hcd) pa_nil h2) (by decide) (by decide) h2 (by rfl)) (pe_lst (pa_cons pe_int pa_nil h3))) pe_int (fun _ _ => rfl)) pa_nil h1) (by decide) (by decide) h1 (by rfl)) ?_
  rintro σ H Q ⟨a, ns, es, hS, hl, q⟩
  refine ⟨.ref a, es, a, _, rfl, .inl hS, fun d nd => ?_⟩
  have s1 : Same H (upd H d (.lst (ns.map V.int))) := same_nw nd
  refine ⟨by show 1 ≤ sizeLine; decide, fun b nb => ⟨d, b, _, _, rfl, rfl, (same_nw nb).seq (lst_sq upd_same), lst_sq upd_same, by rw [List.length_map]; show _ + 1 ≤ _; omega, fun c nc => ?_⟩⟩
  have s2 : Same H (upd (upd (upd H d (.lst (ns.map V.int))) b (.lst [.int 0])) c (.lst (ns.map V.int ++ [.int 0]))) := (s1.trans (same_nw nb)).trans (same_nw nc)
  have hz : (ns.map V.int ++ [V.int 0])[0]? = some (.int ((ns ++ [0]).headD 0)) := by
    cases ns with
    | nil => rfl
    | cons n r => rfl
  refine ⟨c, _, 0, _, rfl, rfl, lst_sq upd_same, atI_nat (j := 0) hz, _, rfl, ?_⟩
  exact q _ s2
end
section
variable {P : Program} {w : World} {K : PySem.W.Frag}
    {mg : Str → Option Value} {base : Heap}
def cellEnv (N : Nat) (ns : List Int) : Ev := (initE N [.un]).set 1 (.d (.int (cellOf ns)))
def runS (N : Nat) (g : Ev → SR) (ns : List Int) : FR := match g (cellEnv N ns) with
  | .rt r _ => .ok r none
  | .nx _ => .ok (.d .none) none
  | .er e => .er e
  | _ => .no
theorem mkS {x : Str} {st : Stmt} {N ps : List Str} {g : Ev → SR} {st1 : Stmt} {rest : List Stmt} (h : Df K mg x st ps) (S : FnScope N ps (defScope st)) (e2 : ps.length = 1) (hn : 1 ≤ N.length) (eb : defBody st = st1 :: rest)
    (h1 : ∀ (f : Addr) (cdv : Value) (A : Around) (outer : List Env) (s : Shared) (H : Hp) (E : XK), Room 0 (A.deeper (envOfC x (defScope st) s.heap.objs.size f cdv)) → PS (CxB P w K mg base N x st f cdv A outer s H E) st1 (tAsg (fun σ H Q => ∃ L ns, σ[0]? = some (some (.ref L)) ∧ SqL K H L (ns.map V.int) ∧ ns.length ≤ 1000 ∧ ∀ H', Same H H' → Q (.int (cellOf ns)) H') (gName 1)))
    (hb : ∀ (f : Addr) (cdv : Value) (A : Around) (outer : List Env) (s : Shared) (H : Hp) (E : XK), Room 0 (A.deeper (envOfC x (defScope st) s.heap.objs.size f cdv)) → PBp (CxB P w K mg base N x st f cdv A outer s H E) [] E rest g) :
    CalS P w K mg base x 1 (runS N.length g) := by
  obtain ⟨f, fd, hm, F, bi⟩ := h.ex
  refine ⟨f, fd, ps, hm, F.kp, bi, okN F S (fun vs H Q E h => ?_) (fun cdv A outer s H vs Q E hr h => ?_)⟩
  · obtain ⟨L, ns, rfl, _⟩ := h
    exact e2.symm
  · obtain ⟨L, ns, rfl, hS, hl, q⟩ := h
    rw [eb]
    refine ⟨_, pss_cons (h1 f cdv A outer s H E hr) (hb f cdv A outer s H E hr), ?_⟩
    have e0 : (L2.start N [V.ref L])[0]? = some (some (.ref L)) := by
      rw [start_get, if_pos (by show 0 < 1; decide)]
      rfl
    refine ⟨L, ns, e0, hS, hl, fun H1 sm => ?_⟩
    have R := init_rs (T := []) (S := []) (H := H) (N := N) (vs := [V.ref L]) (rs := [.un]) rfl hn (fun i r hi => by
        match i, hi with
        | 0, hi => cases hi; exact ⟨_, rfl, trivial⟩) (fun i t o hi => by
        match i, hi with
        | 0, hi => cases hi) (fun p hp => nomatch hp) (.inl rfl) (fun a ha => nomatch ha)
    have R1 := (R.grw sm).set (r := .d (.int (cellOf ns))) (.int (cellOf ns)) 1
    refine ⟨[], H, cellEnv N.length ns, R1, ?_⟩
    unfold runS at q
    cases hg : g (cellEnv N.length ns) with
    | nx ρ' => rw [hg] at q; exact fun σ' H' R' _ => q _ H' R'.fr (fun b h => (R'.dm b h).1) .non (fun o h => nomatch h)
    | rt r ρ' => rw [hg] at q; exact fun σ' v H' R' _ vo => q _ H' R'.fr (fun b h => (R'.dm b h).1) vo.res (fun o h => nomatch h)
    | er e => rw [hg] at q; exact fun C d H' fr _ ei => q C d H' fr ei
    | bk ρ' => rw [hg] at q; exact q.elim
    | ct ρ' => rw [hg] at q; exact q.elim
    | no => rw [hg] at q; exact q.elim
end
/-- the context of a law's body -/
abbrev CxL (P : Program) (w : World) (K : PySem.W.Frag) (mg : Str → Option Value) (base : Heap) (N : List Str) (st : Stmt) (f : Addr) (cdv : Value) (A : Around) (outer : List Env) (s : Shared) (H : Hp) (E : XK) : Cx := (cxOf CX0 P w K mg base N "law" (defScope st) f cdv A outer s H E).nox
/-- a heap without its tables -/
noncomputable def noTab (H : Hp) : Hp := fun b => match H b with
  | some (.tbl _) => none
  | x => x
theorem noTab_some {H : Hp} {b : Addr} {o : HO} (h : noTab H b = some o) : H b = some o ∧ ∀ ps, o ≠ .tbl ps := by
  unfold noTab at h
  split at h
  · cases h
  · rename_i n
    exact ⟨h, fun ps z => n ps (by rw [h, z])⟩
theorem noTab_none {H : Hp} {b : Addr} (h : H b = none) : noTab H b = none := by
  unfold noTab
  rw [h]
/-- a law's end -/
def LawRt (x : SR) : Prop := ∃ ρ, x = .rt (.d (.bool true)) ρ
/-- the law: its first statement makes the pot, the rest answers True -/
def spL (K : PySem.W.Frag) (T : List (Addr × Str)) : Sp := fun vs H Q _ => ∃ (L : Addr) (ns : List Int), vs = [.ref L] ∧ SqL K H L (ns.map V.int) ∧ ns.length ≤ 1000 ∧ LamX.Tabs T H ∧ ∀ H', Q (.bl true) H'
def potEnv (N : Nat) (i : Nat) (xs : List D) : Ev := (initE N [.un]).set i (.own none (.lst xs))
theorem law_start {P : Program} {w : World} {K : PySem.W.Frag} {mg : Str → Option Value} {base : Heap} {T : List (Addr × Str)} {f : Addr} {cdv : Value} {A : Around} {outer : List Env} {s : Shared} {H : Hp} {Q : VK} {E : XK} {st st1 : Stmt} {rest : List Stmt} {N : List Str} {k i : Nat} {x : Str} {F : List Int → FR} {g : Ev → SR} {L : Addr} {ns : List Int}
    (hn : 1 ≤ N.length) (C : CalS P w K mg base x k F) (eb : defBody st = st1 :: rest)
    (h1 : ∀ fp fd ps, mg x = some (.ref fp) → PySem.W.keepIn K (.ref fp) = true → L2.Binds K fd ps [] → FnOk P w K mg base (L2N.CX P w) k fp fd ps (spS K mg F) → PS (CxL P w K mg base N st f cdv A outer s H E) st1 (tAsg (tCall (spS K mg F) [] E0 (tCons (tVar 0) tNil)) (gName i)))
    (hb : PBp (CxL P w K mg base N st f cdv A outer s H E) T E0 rest g)
    (hS : SqL K H L (ns.map V.int)) (hl : ns.length ≤ 1000) (ht : LamX.Tabs T H) (hF : ∃ xs, F ns = .ok (.own none (.lst xs)) none ∧ LawRt (g (potEnv N.length i xs))) (q : ∀ H', Q (.bl true) H') :
    ∃ t, PSs (CxL P w K mg base N st f cdv A outer s H E) (defBody st) t ∧ t { nx := fun _ H' => Q .non H', rt := Q } (L2.start N [V.ref L]) H := by
  obtain ⟨fp, fd, ps, hm, kp, bi, G⟩ := C.ex
  have h1 := h1 fp fd ps hm kp bi G
  rw [eb]
  refine ⟨_, pss_cons h1 hb, ?_⟩
  have e0 : (L2.start N [V.ref L])[0]? = some (some (.ref L)) := by
    rw [start_get, if_pos (by show 0 < 1; decide)]
    rfl
  obtain ⟨xs, eF, ρ', eG⟩ := hF
  refine ⟨_, e0, L, ns, rfl, hS, hl, ?_⟩
  rw [eF]
  intro u H1 fr dm res _
  obtain ⟨_, a, ho, rfl, ha, mu, ob, na⟩ := res
  have sm : Same H H1 := fun b o h => fr b o h (fun z => nomatch z)
  have R0 : RS T [] (noTab H) H (L2.start N [V.ref L]) (initE N.length [.un]) := by
    have R := init_rs (T := []) (S := []) (H := H) (N := N) (vs := [V.ref L]) (rs := [.un]) rfl hn (fun i r hi => by
        match i, hi with
        | 0, hi => cases hi; exact ⟨_, rfl, trivial⟩) (fun i t o hi => by
        match i, hi with
        | 0, hi => cases hi) (fun p hp => nomatch hp) (.inl rfl) (fun a ha => nomatch ha)
    exact ⟨R.len, R.slot, R.sep, fun i a h => (R.new i a h).imp id noTab_none, fun b o h _ => (noTab_some h).1, ht, .inr ⟨rfl, fun b ps h => (noTab_some h).2 ps rfl⟩, fun b h => ⟨noTab_none h, fun z => nomatch z⟩⟩
  have R1 := R0.grw sm
  have nj : ∀ j, ¬ Own (L2.start N [V.ref L]) (initE N.length [.un]) j a := fun j z => by
    obtain ⟨ho2, t, o, e1, _⟩ := R0.own z
    rw [na] at e1
    cases e1
  have vo : VOk [] (noTab H) H1 (L2.start N [V.ref L]) (initE N.length [.un]) (.ref a) (.own none (.lst xs)) := ⟨rfl, a, ho, rfl, ha, mu, ob, nj, noTab_none na, fun z => nomatch z⟩
  refine ⟨[], noTab H, potEnv N.length i xs, R1.set vo i, ?_⟩
  rw [eG]
  intro σ' v' H' R' _ vo'
  cases (show Rp H' v' (.bool true) from vo')
  exact q H'

end Pu
/-! WoA -/
set_option maxRecDepth 100000
namespace Wo
open PySem PySem.Spec
    PyProof.Rows L2
def topS (i : Nat) : Stmt := PySem.Challenge.pw_wiredorders_k67_whole_orders_with_just_t.main.body.getD i (.Pass ⟨0, 0, 0, 0⟩)
/-- a tuple of these items stands at a -/
def At (H : Hp) (a : Addr) (xs : List V) : Prop := Rd H a (.tup xs)
theorem At.of {H : Hp} {a : Addr} {xs : List V} (h : H a = some (.tup xs)) : At H a xs := .inl h
theorem At.s {H H' : Hp} {a : Addr} {xs : List V} (h : At H a xs) (s : Same H H') : At H' a xs := by
  rcases h with e | ⟨o, e⟩
  · exact .inl (s _ _ e)
  · exact .inr ⟨o, s _ _ e⟩
theorem At.inj {H : Hp} {a : Addr} {xs ys : List V} (h : At H a xs) (h' : At H a ys) : xs = ys := by
  rcases h with e | ⟨o, e⟩ <;> rcases h' with e' | ⟨o', e'⟩ <;> rw [e] at e' <;> cases e' <;> rfl
theorem At.old {H : Hp} {a p : Addr} {xs : List V} (h : At H a xs) (n : H p = none) : a ≠ p := by
  rcases h with e | ⟨o, e⟩ <;> exact ne_of_none e n
/-- .. of no dict, as is known -/
def Fz (H : Hp) (a : Addr) (xs : List V) : Prop := ∃ ob, H a = some (.frz ob (.tup xs)) ∧ ob.dict = none
theorem Fz.at' {H : Hp} {a : Addr} {xs : List V} (h : Fz H a xs) : At H a xs := by
  obtain ⟨o, e, _⟩ := h
  exact .inr ⟨o, e⟩
theorem Fz.s {H H' : Hp} {a : Addr} {xs : List V} (h : Fz H a xs) (s : Same H H') : Fz H' a xs := by
  obtain ⟨o, e, d⟩ := h
  exact ⟨o, s _ _ e, d⟩
theorem Fz.new {H : Hp} {a : Addr} {xs : List V} {o : Obj} (d : o.dict = none) : Fz (upd H a (.frz o (.tup xs))) a xs := ⟨o, upd_same, d⟩
/-! kinds of values -/
inductive Kd (H : Hp) : V → Prop where
  | non : Kd H .non
  | bl (b : Bool) : Kd H (.bl b)
  | int (i : Int) : Kd H (.int i)
  | str (x : Str) : Kd H (.str x)
  | tup {a : Addr} {xs : List V} (e : At H a xs) : Kd H (.ref a)
  | lst {a : Addr} {xs : List V} (e : H a = some (.lst xs)) : Kd H (.ref a)
def isI : V → Bool
  | .int _ => true
  | _ => false
def isB : V → Bool
  | .bl _ => true
  | _ => false
theorem Kd.same {H H' : Hp} {x : V} (k : Kd H x) (s : Same H H') : Kd H' x := by
  cases k with
  | non => exact .non
  | bl b => exact .bl b
  | int i => exact .int i
  | str x => exact .str x
  | tup e => exact .tup (e.s s)
  | lst e => exact .lst (s _ _ e)
theorem At.ty {K : PySem.W.Frag} {H : Hp} {a : Addr} {xs : List V} (h : At H a xs) : TyX K H (.ref a) (.type "tuple") := by
  rcases h with e | ⟨o, e⟩
  · exact .base (.tup e)
  · exact .fTuple e
theorem Kd.ty {K : PySem.W.Frag} {H : Hp} {x : V} (k : Kd H x) : ∃ t : String, TyX K H x (.type t) ∧ kitB t "int" = some (isI x || isB x) ∧ kitB t "bool" = some (isB x) := by
  cases k with
  | non => exact ⟨_, .base .non, by decide +kernel, by decide +kernel⟩
  | bl b => exact ⟨_, .base (.bl b), by show kitB "bool" "int" = some true; decide +kernel, by show kitB "bool" "bool" = some true; decide +kernel⟩
  | int i => exact ⟨_, .base (.int i), by show kitB "int" "int" = some true; decide +kernel, by show kitB "int" "bool" = some false; decide +kernel⟩
  | str x => exact ⟨_, .base (.str x), by show kitB "str" "int" = some false; decide +kernel, by show kitB "str" "bool" = some false; decide +kernel⟩
  | tup e => exact ⟨_, e.ty, by show kitB "tuple" "int" = some false; decide +kernel, by show kitB "tuple" "bool" = some false; decide +kernel⟩
  | lst e => exact ⟨_, .base (.lst e), by show kitB "list" "int" = some false; decide +kernel, by show kitB "list" "bool" = some false; decide +kernel⟩
theorem same_new {H : Hp} {p : Addr} {o : HO} (h : H p = none) : Same H (upd H p o) := fun b x e => by
  rw [upd_ne (ne_of_none e h)]
  exact e
theorem same_mut {H H' : Hp} {p : Addr} {o : HO} (s : Same H H') (h : H p = none) : Same H (upd H' p o) := fun b x e => by
  rw [upd_ne (ne_of_none e h)]
  exact s b x e
theorem same_t {K : PySem.W.Frag} {H H' : Hp} {a : Addr} {xs : List V} (s : Same H H') (h : SqT K H a xs) : SqT K H' a xs := Evl.ex_t (fun a o e => s a o e) h
theorem tl_of {K : PySem.W.Frag} {H : Hp} {a : Addr} {xs : List V} (h : At H a xs) : SqT K H a xs := .inl h
theorem ll_of {K : PySem.W.Frag} {H : Hp} {a : Addr} {xs : List V} (h : H a = some (.lst xs)) : SqL K H a xs := .inl (.inl h)
/-! comprehensions whose parts are values -/
def pick (p : V → Bool) (f : V → V) (xs : List V) : List V := (xs.filter p).map f
theorem pick_take {p : V → Bool} {f : V → V} {xs : List V} {i : Nat} {x : V} (h : xs[i]? = some x) : pick p f (xs.take (i + 1)) = if p x = true then pick p f (xs.take i) ++ [f x] else pick p f (xs.take i) := by
  unfold pick
  rw [List.take_add_one, h, List.filter_append, List.map_append]
  by_cases hp : p x = true
  · rw [if_pos hp, Option.toList, List.filter_cons, if_pos hp]
    rfl
  · rw [if_neg hp, Option.toList, List.filter_cons, if_neg hp]
    exact List.append_nil _
theorem pick_len (p : V → Bool) (f : V → V) (xs : List V) (i : Nat) : (pick p f (xs.take i)).length ≤ xs.length := by
  unfold pick
  rw [List.length_map]
  refine Nat.le_trans (List.length_filter_le _ _) ?_
  rw [List.length_take]
  exact Nat.min_le_right _ _
section
variable {K : PySem.W.Frag} {H : Hp} {σ : L2.St} {j : Nat} {vs : List Nat} {tt : TT} {te : TE} {Qd : Hp → Prop} {xs : List V} {D : Addr} {p : V → Bool} {f : V → V}
def LcPv (H : Hp) (D : Addr) (p : V → Bool) (f : V → V) (xs : List V) (i : Nat) (H' : Hp) : Prop := Same H H' ∧ H' D = some (.lst (pick p f (xs.take i)))
theorem lc_turn (hD : H D = none) (hz : xs.length ≤ 100000) (hw : ∀ x, wipe ((wipe σ vs).set j (some x)) vs = wipe σ vs)
    (ht : ∀ x ∈ xs, ∀ H1, Same H H1 → ∀ R : Bool → Hp → Prop, (∀ H2, Same H1 H2 → R (p x) H2) → tt ((wipe σ vs).set j (some x)) H1 R)
    (he : ∀ x ∈ xs, p x = true → ∀ H1, Same H H1 → ∀ R : VK, (∀ H2, Same H1 H2 → R (f x) H2) → te ((wipe σ vs).set j (some x)) H1 R)
    (i : Nat) (x : V) (H' : Hp) (hx : xs[i]? = some x) (hp : LcPv H D p f xs i H') :
    gName j x (wipe σ vs) H' fun σ2 H2 => wipe σ2 vs = wipe σ vs ∧ tt σ2 H2 fun b H3 =>
      if b = true then te σ2 H3 fun y H4 => ∃ acc, H4 D = some (.lst acc) ∧ acc.length < sizeLine ∧ LcPv H D p f xs (i + 1) (upd H4 D (.lst (acc ++ [y]))) else LcPv H D p f xs (i + 1) H3 := by
  obtain ⟨s1, e1⟩ := hp
  have hm : x ∈ xs := List.mem_of_getElem? hx
  refine ⟨hw x, ht x hm H' s1 _ fun H2 s2 => ?_⟩
  have e2 := s2 _ _ e1
  have ep := pick_take (p := p) (f := f) hx
  cases hb : p x with
  | true =>
    rw [hb, if_pos rfl] at ep
    refine iteT (he x hm hb H2 (s1.trans s2) _ fun H3 s3 => ?_)
    refine ⟨_, s3 _ _ e2, ?_, same_mut ((s1.trans s2).trans s3) hD, ?_⟩
    · exact Nat.lt_of_le_of_lt (Nat.le_trans (pick_len p f xs i) hz) (by decide)
    · rw [upd_same, ep]
  | false =>
    rw [hb, if_neg Bool.false_ne_true] at ep
    refine iteF ⟨s1.trans s2, ?_⟩
    rw [ep]
    exact e2
theorem lc_T {a : Addr} {Q : VK} {tl : TE} (hl : ∀ R : VK, R (.ref a) H → tl σ H R) (hx : SqT K H a xs) (hz : xs.length ≤ 100000) (hw : ∀ x, wipe ((wipe σ vs).set j (some x)) vs = wipe σ vs)
    (p : V → Bool) (f : V → V)
    (ht : ∀ x ∈ xs, ∀ H1, Same H H1 → ∀ R : Bool → Hp → Prop, (∀ H2, Same H1 H2 → R (p x) H2) → tt ((wipe σ vs).set j (some x)) H1 R)
    (he : ∀ x ∈ xs, p x = true → ∀ H1, Same H H1 → ∀ R : VK, (∀ H2, Same H1 H2 → R (f x) H2) → te ((wipe σ vs).set j (some x)) H1 R)
    (k : ∀ D H2, H D = none → Same H H2 → H2 D = some (.lst (pick p f xs)) → Q (.ref D) H2) :
    tLc (iTup K tl) (gName j) tt te vs σ H Q := by
  refine hl _ ⟨a, rfl, ⟨xs, hx⟩, fun D hD => lc_tup (xs := xs) (LcPv H D p f xs) ⟨same_new hD, by rw [upd_same]; rfl⟩ (fun i H' _ hp => same_t hp.1 hx) (lc_turn hD hz hw ht he) fun H' hp => ?_⟩
  have := hp.2
  rw [List.take_length] at this
  exact k D H' hD hp.1 this
theorem lc_L {a : Addr} {Q : VK} {tl : TE} (hl : ∀ R : VK, R (.ref a) H → tl σ H R) (hx : SqL K H a xs) (hz : xs.length ≤ 100000) (hw : ∀ x, wipe ((wipe σ vs).set j (some x)) vs = wipe σ vs)
    (p : V → Bool) (f : V → V)
    (ht : ∀ x ∈ xs, ∀ H1, Same H H1 → ∀ R : Bool → Hp → Prop, (∀ H2, Same H1 H2 → R (p x) H2) → tt ((wipe σ vs).set j (some x)) H1 R)
    (he : ∀ x ∈ xs, p x = true → ∀ H1, Same H H1 → ∀ R : VK, (∀ H2, Same H1 H2 → R (f x) H2) → te ((wipe σ vs).set j (some x)) H1 R)
    (k : ∀ D H2, H D = none → Same H H2 → H2 D = some (.lst (pick p f xs)) → Q (.ref D) H2) :
    tLc (iList K tl) (gName j) tt te vs σ H Q := by
  refine hl _ ⟨a, rfl, ⟨xs, hx⟩, fun D hD => lc_list (xs := xs) (LcPv H D p f xs) ⟨same_new hD, by rw [upd_same]; rfl⟩ (fun i H' _ hp => hp.1.seq hx) (lc_turn hD hz hw ht he) fun H' hp => ?_⟩
  have := hp.2
  rw [List.take_length] at this
  exact k D H' hD hp.1 this
/-- the ints 0 .. n - 1 -/
def rgI (n : Nat) : List V := (List.range n).map fun (i : Nat) => V.int (i : Int)
theorem rgI_get {n i : Nat} (h : i < n) : (rgI n)[i]? = some (.int (i : Int)) := by
  unfold rgI
  rw [List.getElem?_map, List.getElem?_range h]
  rfl
theorem lc_R {n : Nat} {Q : VK} {ta : TA} (hl : ∀ R : List V → Hp → Prop, R [.int (n : Int)] H → ta σ H R) (hz : n ≤ 100000) (hw : ∀ x, wipe ((wipe σ vs).set j (some x)) vs = wipe σ vs)
    (p : V → Bool) (f : V → V)
    (ht : ∀ x ∈ rgI n, ∀ H1, Same H H1 → ∀ R : Bool → Hp → Prop, (∀ H2, Same H1 H2 → R (p x) H2) → tt ((wipe σ vs).set j (some x)) H1 R)
    (he : ∀ x ∈ rgI n, p x = true → ∀ H1, Same H H1 → ∀ R : VK, (∀ H2, Same H1 H2 → R (f x) H2) → te ((wipe σ vs).set j (some x)) H1 R)
    (k : ∀ D H2, H D = none → Same H H2 → H2 D = some (.lst (pick p f (rgI n))) → Q (.ref D) H2) :
    tLc (iRng1 ta) (gName j) tt te vs σ H Q := by
  have hn : (rgI n).length = n := by
    unfold rgI
    rw [List.length_map,
        List.length_range]
  refine hl _ ⟨n, rfl, by omega, by omega, fun D hD => ?_⟩
  rw [show ((n : Int)).toNat = n from rfl]
  refine lc_range (lo := 0) (n := n) (LcPv H D p f (rgI n)) ⟨same_new hD, by rw [upd_same]; rfl⟩ (fun i H' hi hp => ?_) fun H' hp => ?_
  · rw [show (0 : Int) + (i : Int) = (i : Int) from Int.zero_add _]
    exact lc_turn hD (by omega) hw ht he i _ H' (rgI_get hi) hp
  · have := hp.2
    rw [List.take_of_length_le (Nat.le_of_eq hn)] at this
    exact k D H' hD hp.1 this
end
/-- the built-ins that the text calls -/
structure Bi (mg : Str → Option Value) : Prop where
  isinstance : mg "isinstance" = none
  int : mg "int" = none
  bool : mg "bool" = none
  tuple : mg "tuple" = none
  all : mg "all" = none
  len : mg "len" = none
  sorted : mg "sorted" = none
  list : mg "list" = none
  range : mg "range" = none
  reversed : mg "reversed" = none
  enumerate : mg "enumerate" = none
  abs : mg "abs" = none
  zip : mg "zip" = none
section
variable {P : Program} {w : World} {K : PySem.W.Frag}
    {mg : Str → Option Value} {base : Heap}
abbrev sInt : Stmt := topS 1
theorem scInt : FnScope ["value"] ["value"] (defScope sInt) := ⟨rfl, rfl, rfl, by decide +kernel, rfl, by decide +kernel, by decide +kernel⟩
def spInt : Sp := fun vs H Q _ => ∃ x, vs = [x] ∧ Kd H x ∧ Q (.bl (isI x)) H
theorem ok_int {f : Addr} {fd : FuncData} (F : Fun K "is_integer" "is_integer" sInt f fd) (T : Bi mg) : FnOk P w K mg base CX0 1 f fd ["value"] spInt := by
  refine F.ok scInt (fun vs H Q E h => ?_) (fun cdv A outer s H vs Q E hr h => ?_)
  · obtain ⟨x, rfl, _⟩ := h
    rfl
  · obtain ⟨x, rfl, k, q⟩ := h
    refine ⟨_, pss_one (ps_ret (pe_and (pe_callB call_isi (by rfl) T.isinstance (by decide +kernel) (pa_cons (pv 0) (pa_cons (pe_bltn (v := .ty "int") (by rfl) T.int (by decide +kernel) rfl) pa_nil)))
      (pe_one (pe_not (pe_callB call_isi (by rfl) T.isinstance (by decide +kernel) (pa_cons (pv 0) (pa_cons (pe_bltn (v := .ty "bool") (by rfl) T.bool (by decide +kernel) rfl) pa_nil))))))), ?_⟩
    obtain ⟨t, ty, h1, h2⟩ := k.ty (K := K)
    refine ⟨x, rfl, x, .ty "int", _, _, _, rfl, .ty _, ty, kit_ty h1, _, rfl, ?_⟩
    have fin : (if (isI x || isB x) = true then Q (.bl (!isB x)) H else Q (.bl false) H) := by
      cases x <;> exact q
    by_cases hb : (isI x || isB x) = true
    · rw [if_pos hb] at fin
      rw [hb]
      refine iteT ⟨x, rfl, x, .ty "bool", _, _, _, rfl, .ty _, ty, kit_ty h2, _, rfl, fin⟩
    · rw [if_neg hb] at fin
      rw [Bool.not_eq_true] at hb
      rw [hb]
      exact iteF fin
def inI (lo hi : Int) : V → Bool
  | .int i => decide (lo ≤ i) && decide (i ≤ hi)
  | _ => false
abbrev sWithin : Stmt := topS 2
theorem scWithin : FnScope ["value", "low", "high"] ["value", "low", "high"] (defScope sWithin) := ⟨rfl, rfl, rfl, by decide +kernel, rfl, by decide +kernel, by decide +kernel⟩
def spWithin : Sp := fun vs H Q _ => ∃ x lo hi, vs = [x, .int lo, .int hi] ∧ Kd H x ∧ Q (.bl (inI lo hi x)) H
theorem ok_within {f fI : Addr} {fd fdI : FuncData} (F : Fun K "is_within" "is_within" sWithin f fd) (T : Bi mg) (FI : Fun K "is_integer" "is_integer" sInt fI fdI) (bI : Binds K fdI ["value"] []) (gI : mg "is_integer" = some (.ref fI)) :
    FnOk P w K mg base CX0 2 f fd ["value", "low", "high"] spWithin := by
  have GI : FnOk P w K mg base CX0 1 fI fdI ["value"] spInt := ok_int FI T
  refine F.ok scWithin (fun vs H Q E h => ?_) (fun cdv A outer s H vs Q E hr h => ?_)
  · obtain ⟨x, lo, hi, rfl, _⟩ := h
    rfl
  · obtain ⟨x, lo, hi, rfl, k, q⟩ := h
    refine ⟨_, pss_one (ps_ret (pe_and (pe_call GI hr (by rfl) gI FI.kp bI .nil pass0 (pa_cons (pv 0) pa_nil)) (pe_one (pe_chain op_le op_le (pv 1) (pv 0) (pv 2))))), ?_⟩
    refine ⟨x, rfl, x, rfl, k, _, rfl, ?_⟩
    cases k with
    | int i =>
      refine iteT ⟨_, rfl, _, rfl, _, _, rfl, rfl, _, rfl, ?_⟩
      show if decide (lo ≤ i) = true then _ else _
      have q : Q (.bl (decide (lo ≤ i) && decide (i ≤ hi))) H := q
      by_cases h1 : lo ≤ i
      · rw [decide_eq_true h1] at q ⊢
        exact iteT ⟨_, rfl, _, _, rfl, rfl, q⟩
      · rw [decide_eq_false h1] at q ⊢
        exact iteF q
    | _ => exact iteF q
abbrev sAre : Stmt := topS 3
theorem scAre : FnScope ["value", "low", "high", "item"] ["value", "low", "high"] (defScope sAre) := ⟨rfl, rfl, rfl, by decide +kernel, rfl, by decide +kernel, by decide +kernel⟩
/-- a tuple's items; no tuple -/
def tupOf (H : Hp) : V → Option (List V)
  | .ref a => match H a with
    | some (.tup xs) => some xs
    | some (.frz _ (.tup xs)) => some xs
    | _ => none
  | _ => none
def areI (lo hi : Int) : Option (List V) → Bool
  | some xs => xs.all (inI lo hi)
  | none => false
def spAre : Sp := fun vs H Q _ => ∃ x lo hi, vs = [x, .int lo, .int hi] ∧ Kd H x ∧ (∀ xs, tupOf H x = some xs → xs.length ≤ 1000 ∧ ∀ y ∈ xs, Kd H y) ∧ ∀ H', Same H H' → Q (.bl (areI lo hi (tupOf H x))) H'
theorem tupOf_tup {H : Hp} {a : Addr} {xs : List V} (h : At H a xs) : tupOf H (.ref a) = some xs := by
  unfold tupOf
  rcases h with e | ⟨o, e⟩ <;> simp only [e]
theorem tupOf_lst {H : Hp} {a : Addr} {xs : List V} (e : H a = some (.lst xs)) : tupOf H (.ref a) = none := by
  unfold tupOf
  simp only [e]
theorem Kd.tupTy {K : PySem.W.Frag} {H : Hp} {x : V} (k : Kd H x) : ∃ t : String, TyX K H x (.type t) ∧ kitB t "tuple" = some (tupOf H x).isSome := by
  cases k with
  | non => exact ⟨_, .base .non, by show kitB "NoneType" "tuple" = some false; decide +kernel⟩
  | bl b => exact ⟨_, .base (.bl b), by show kitB "bool" "tuple" = some false; decide +kernel⟩
  | int i => exact ⟨_, .base (.int i), by show kitB "int" "tuple" = some false; decide +kernel⟩
  | str x => exact ⟨_, .base (.str x), by show kitB "str" "tuple" = some false; decide +kernel⟩
  | tup e => exact ⟨_, e.ty, by rw [tupOf_tup e]; show kitB "tuple" "tuple" = some true; decide +kernel⟩
  | lst e => exact ⟨_, .base (.lst e), by rw [tupOf_lst e]; show kitB "list" "tuple" = some false; decide +kernel⟩
theorem tup_some {H : Hp} {x : V} {xs : List V} (h : tupOf H x = some xs) : ∃ a, x = .ref a ∧ At H a xs := by
  unfold tupOf at h
  cases x with
  | ref a =>
    refine ⟨a, rfl, ?_⟩
    simp only at h
    split at h
    · rename_i e
      rw [← Option.some.inj h]
      exact .inl e
    · rename_i e
      rw [← Option.some.inj h]
      exact .inr ⟨_, e⟩
    · cases h
  | _ => cases h
theorem ok_are {f fI fW : Addr} {fd fdI fdW : FuncData} (F : Fun K "are_within" "are_within" sAre f fd) (T : Bi mg) (FW : Fun K "is_within" "is_within" sWithin fW fdW) (bW : Binds K fdW ["value", "low", "high"] []) (gW : mg "is_within" = some (.ref fW))
    (GW : FnOk P w K mg base CX0 2 fW fdW ["value", "low", "high"] spWithin) :
    FnOk P w K mg base CX0 3 f fd ["value", "low", "high"] spAre := by
  refine F.ok scAre (fun vs H Q E h => ?_) (fun cdv A outer s H vs Q E hr h => ?_)
  · obtain ⟨x, lo, hi, rfl, _⟩ := h
    rfl
  · obtain ⟨x, lo, hi, rfl, k, hk, q⟩ := h
    refine ⟨_, pss_cons (ps_if (pt_not (pt_val (pe_callB call_isi (by rfl) T.isinstance (by decide +kernel) (pa_cons (pv 0) (pa_cons (pe_bltn (v := .ty "tuple") (by rfl) T.tuple (by decide +kernel) rfl) pa_nil))))) (pss_one (ps_ret pe_bl)) pss_nil)
      (pss_one (ps_ret (pe_callB (cr_all rfl) (by rfl) T.all PyProof.Rows.boot_all (pa_cons (pe_lc (own := [("item", 3)]) (g := gName 3) (tt := tYes) rfl scAre.nd (pi_tup (pv 0)) (blkOk_by (N := ["value", "low", "high", "item"]) (sc := defScope sAre) (by decide +kernel)) (fun _ _ _ _ _ => pg_name (i := 3) scAre.nd rfl (Or.inl rfl)) (fun _ _ _ _ _ => pts_nil)
        (fun _ _ _ _ _ => pe_call GW hr (by rfl) gW FW.kp bW .nil pass0 (pa_cons (pv 3) (pa_cons (pv 1) (pa_cons (pv 2) pa_nil))))) pa_nil)))), ?_⟩
    obtain ⟨t, ty, h1⟩ := k.tupTy (K := K)
    refine ⟨x, rfl, x, .ty "tuple", _, _, _, rfl, .ty _, ty, kit_ty h1, _, rfl, ?_⟩
    cases ht : tupOf H x with
    | none =>
      rw [ht] at q
      exact iteT (q H (Same.refl H))
    | some xs =>
      rw [ht] at q
      obtain ⟨hz, hy⟩ := hk xs ht
      obtain ⟨a, rfl, ea⟩ := tup_some ht
      refine iteF ?_
      dsimp only [tNext, tRet, tCB, tCons]
      refine (lc_T (a := a) (fun R r => ⟨_, rfl, r⟩) (tl_of ea) (by omega) (fun x => rfl) (fun _ => true) (fun y => V.bl (inI lo hi y)) (fun y hm H1 s1 R r => r H1 (Same.refl H1)) (fun y hm _ H1 s1 R r => ?_) fun D H2 hD s2 e2 => ?_)
      · exact ⟨_, rfl, _, rfl, _, rfl, _, _, _, rfl, (hy y hm).same s1, r H1 (Same.refl H1)⟩
      · refine ⟨D, xs.map (inI lo hi), rfl, ll_of ?_, ?_⟩
        · rw [e2]
          unfold pick
          rw [List.filter_eq_self.mpr (fun _ _ => rfl), List.map_map]
          rfl
        · have e : (xs.map (inI lo hi)).all id = xs.all (inI lo hi) := by
            rw [List.all_map]
            rfl
          rw [e]
          exact q H2 s2
end
end Wo
/-! WoB -/
set_option maxRecDepth 100000
namespace Wo
open PySem PySem.Spec PyProof.Rows L2 WoR
/-! lists of ints as data -/
def dI (ns : List Int) : List PyData := ns.map PyData.int
theorem eqvAll_int : ∀ a b : List Int, PyData.eqvAll (dI a) (dI b) = decide (a = b)
  | [], [] => by simp [dI, PyData.eqvAll]
  | [], y :: b => by simp [dI, PyData.eqvAll]
  | x :: a, [] => by simp [dI, PyData.eqvAll]
  | x :: a, y :: b => by
    have ih := eqvAll_int a b
    show (PyData.eqv (.int x) (.int y) && PyData.eqvAll (dI a) (dI b)) = _
    rw [ih]
    show ((x == y) && decide (a = b)) = _
    by_cases h : x = y
    · subst h
      by_cases h2 : a = b
      · subst h2
        simp
      · simp [h2]
    · simp [h]
theorem canLay_int : ∀ a : List Int, PyData.canLayAll0 (dI a) = true
  | [] => by simp [dI, PyData.canLayAll0]
  | x :: a => by
    show (PyData.canLay0 (.int x) && PyData.canLayAll0 (dI a)) = true
    rw [canLay_int a]
    rfl
theorem depth_int : ∀ a : List Int, PyData.depthAll (dI a) = 0
  | [] => by simp [dI, PyData.depthAll]
  | x :: a => by
    show max (PyData.depth (.int x)) (PyData.depthAll (dI a)) = 0
    rw [depth_int a]
    rfl
theorem shaped_l (a : List Int) : SeqAt.shaped (.list (dI a)) = true := by
  unfold SeqAt.shaped
  rw [show PyData.canLay0 (.list (dI a)) = PyData.canLayAll0 (dI a) by simp [PyData.canLay0], canLay_int, show PyData.depth (.list (dI a)) = PyData.depthAll (dI a) + 1 by simp [PyData.depth], depth_int]
  rfl
theorem shaped_t (a : List Int) : SeqAt.shaped (.tuple (dI a)) = true := by
  unfold SeqAt.shaped
  rw [show PyData.canLay0 (.tuple (dI a)) = PyData.canLayAll0 (dI a) by simp [PyData.canLay0], canLay_int, show PyData.depth (.tuple (dI a)) = PyData.depthAll (dI a) + 1 by simp [PyData.depth], depth_int]
  rfl
theorem dpAll_int {K : PySem.W.Frag} {H : Hp} : ∀ a : List Int, DpAll K H (a.map V.int) (dI a)
  | [] => .nil
  | x :: a => .cons (.int x) (dpAll_int a)
theorem dp_l {K : PySem.W.Frag} {H : Hp} {p : Addr} {a : List Int} (h : SqL K H p (a.map V.int)) : Dp K H (.ref p) (.list (dI a)) := .lst h (dpAll_int a)
theorem dp_t {K : PySem.W.Frag} {H : Hp} {p : Addr} {a : List Int} (h : SqT K H p (a.map V.int)) : Dp K H (.ref p) (.tuple (dI a)) := .tup h (dpAll_int a)
/-! orders -/
def ci (ns : List Nat) : List Int := ns.map fun (n : Nat) => (n : Int)
def tn (ns : List Nat) : List V := (ci ns).map V.int
theorem tn_eq (ns : List Nat) : tn ns = ns.map fun (n : Nat) => V.int (n : Int) := by
  unfold tn ci
  rw [List.map_map]
  rfl
theorem tn_len (ns : List Nat) : (tn ns).length = ns.length := by
  unfold tn ci
  rw [List.length_map, List.length_map]
theorem ci_inj {a b : List Nat} (h : ci a = ci b) : a = b := by
  unfold ci at h
  exact (List.map_inj_right fun x y e => Int.ofNat.inj e).mp h
structure Ord (ns : List Nat) : Prop where
  pm : ns.Perm (List.range ns.length)
  pos : 0 < ns.length
  le : ns.length ≤ 30
def IsOrd (xs : List V) : Prop := ∃ ns : List Nat, xs = tn ns ∧ Ord ns
theorem Ord.lt {ns : List Nat} (o : Ord ns) {n : Nat} (h : n ∈ ns) : n < ns.length := by
  have := o.pm.mem_iff.mp h
  exact List.mem_range.mp this
theorem Ord.nd {ns : List Nat} (o : Ord ns) : ns.Nodup := o.pm.nodup_iff.mpr List.nodup_range
theorem rgV_ci (n : Nat) : rgV 0 (n : Int) = (ci (List.range n)).map V.int := by
  unfold rgV ci
  rw [List.map_map]
  rw [show ((n : Int) - 0).toNat = n by simp]
  apply List.map_congr_left
  intro a _
  show V.int (0 + (a : Int)) = V.int (a : Int)
  rw [Int.zero_add]
theorem sorted_range {ms : List Int} {n : Nat} (p : ms.Perm (ci (List.range n))) (s : ms.Pairwise (· ≤ ·)) : ms = ci (List.range n) := by
  refine List.Perm.eq_of_pairwise (le := (· ≤ ·)) (fun a b _ _ h1 h2 => Int.le_antisymm h1 h2) s ?_ p
  unfold ci
  rw [List.pairwise_map]
  exact List.pairwise_lt_range.imp fun h => by omega
/-- what sorted == list(range) says -/
theorem ord_iff {ns : List Int} {ms : List Int} (h0 : ∀ x ∈ ns, 0 ≤ x) (pos : 0 < ns.length) (le : ns.length ≤ 30) (p : ms.Perm ns) (s : ms.Pairwise (· ≤ ·)) : ms = ci (List.range ns.length) ↔ IsOrd (ns.map V.int) := by
  constructor
  · intro e
    refine ⟨ns.map Int.toNat, ?_, ?_, by rw [List.length_map]; exact pos, by rw [List.length_map]; exact le⟩
    · unfold tn ci
      rw [List.map_map,
          List.map_map]
      apply List.map_congr_left
      intro a ha
      show V.int a = V.int ((a.toNat : Nat) : Int)
      rw [Int.toNat_of_nonneg (h0 a ha)]
    · rw [List.length_map]
      have q := (p.symm.trans (List.Perm.of_eq e)).map Int.toNat
      refine q.trans (List.Perm.of_eq ?_)
      unfold ci
      rw [List.map_map]
      exact (List.map_congr_left (fun a _ => rfl)).trans (List.map_id _)
  · rintro ⟨os, e, o⟩
    have e2 : ns = ci os := by
      unfold tn at e
      exact (List.map_inj_right fun x y z => V.int.inj z).mp e
    have el : ns.length = os.length := by
      rw [e2]
      unfold ci
      rw [List.length_map]
    rw [el]
    refine sorted_range (p.trans ?_) s
    rw [e2]
    exact o.pm.map _
theorem ord_len {xs : List V} (h : IsOrd xs) : 0 < xs.length ∧ xs.length ≤ 30 := by
  obtain ⟨ns, rfl, o⟩ := h
  rw [tn_len]
  exact ⟨o.pos, o.le⟩
theorem ints_of {xs : List V} (h : xs.all (inI 0 29) = true) : ∃ ns : List Int, xs = ns.map V.int ∧ ∀ x ∈ ns, 0 ≤ x ∧ x ≤ 29 := by
  induction xs with
  | nil => exact ⟨[], rfl, by simp⟩
  | cons x xs ih =>
    rw [List.all_cons,
        Bool.and_eq_true] at h
    obtain ⟨ns, rfl, hn⟩ := ih h.2
    cases x with
    | int i =>
      have h1 := h.1
      unfold inI at h1
      rw [Bool.and_eq_true] at h1
      refine ⟨i :: ns, rfl, ?_⟩
      intro y hy
      rcases List.mem_cons.mp
          hy with rfl | hy
      · exact ⟨of_decide_eq_true h1.1, of_decide_eq_true h1.2⟩
      · exact hn y hy
    | _ => exact absurd h.1 Bool.false_ne_true
theorem ord_within {xs : List V} (h : IsOrd xs) : xs.all (inI 0 29) = true := by
  obtain ⟨ns, rfl, o⟩ := h
  rw [tn_eq, List.all_map, List.all_eq_true]
  intro n hn
  have h1 := o.lt hn
  have h2 := o.le
  show (decide ((0 : Int) ≤ (n : Int)) && decide ((n : Int) ≤ 29)) = true
  rw [Bool.and_eq_true]
  exact ⟨decide_eq_true (by omega), decide_eq_true (by omega)⟩
def OrdV (H : Hp) (x : V) : Prop := ∃ xs, tupOf H x = some xs ∧ IsOrd xs
section
variable {P : Program} {w : World} {K : PySem.W.Frag}
    {mg : Str → Option Value} {base : Heap}
end
end Wo
/-! WoK -/
set_option maxRecDepth 100000
namespace WoK
open PySem HotX PySem.Spec
    PyProof.Rows
section
variable {prog : Program} {w
    : World} {A : Around}
    {E : Value → Shared → Prop} {s : Shared}
/-- a fresh StopIteration raised while an exception is handled -/
theorem stop_hot {α : Type} {x1 : Addr} {Q : α → Shared → Prop} (hot : HotAt A x1 s.heap)
    (hE : ∀ h' e, (∀ b o, s.heap.get? b = some o → h'.get? b = some o) → (∃ o, h'.get? e = some o ∧ o.cls = .type "StopIteration") → E (.ref e) { s with heap := h' }) :
    wpAny (model prog w) A (newExc (.type "StopIteration") [] >>= fun e => (raiseNew e : Sem α)) Q E s := by
  obtain ⟨hh, o1, vs1,
      h1, d1, c1⟩ := hot
  refine wpAny_bind ?_
  simp only [newExc, newTuple]
  refine wpAny_bind (wpAny_newObj_type ?_
      (by size_fits))
  refine wpAny_bind (m := firstArgMember _ _) (wpAny_of_eq (a := Value.none)
      (by first | rfl | (simp only [firstArgMember]; rfl)) ?_)
  refine wpAny_newObj_type
      ?_ (by size_fits)
  have g1 := Heap.get?_push_of_some { cls := .type "tuple", data := .seq #[] } h1
  refine raiseNew_hot ⟨hh, o1, vs1, Heap.get?_push_of_some _ g1, d1, c1⟩ (Nat.ne_of_lt (Heap.lt_size g1)) (Heap.get?_push_size _ rfl) rfl
    (by first | (simp; done) | (simp; omega)) (hE _ _ (fun b o e => ?_) ⟨_, Heap.get?_update_self _ (Heap.get?_push_size _ rfl) rfl, rfl⟩)
  have e2 := Heap.get?_push_of_some { cls := .type "tuple", data := .seq #[] } e
  rw [Heap.get?_update_other _ _ (Nat.ne_of_gt (Heap.lt_size e2))]
  exact Heap.get?_push_of_some _ e2
/-- the end of a list's iterator -/
theorem listEnd_hot {it l x1 : Addr} {i : Nat} {items} {Q : Value → Shared → Prop} (hot : HotAt A x1 s.heap) (hn : x1 ≠ it)
    (hit : s.heap.IsListIter it l i) (hl : s.heap.IsList
        l items) (hx : items[i]? = none)
    (hE : ∀ h' e, Heap.ExtBut it s.heap h' → (∃ o, h'.get? e = some o ∧ o.cls =
        .type "StopIteration") → E (.ref e) { s with heap := h' }) :
    wpAny (model prog w) A (Builtin.SmallTypes.nextOf
        (.ref it)) Q E s := by
  obtain ⟨oi, ei, ci, di⟩ := id hit
  obtain ⟨ol, el, _, nl, dl⟩ := hl
  unfold
    Builtin.SmallTypes.nextOf
  refine wpAny_bind (wpAny_callSpecial?_slot (name := Str.ofString
    "__next__") hit.typeIs slot_listiter_next (wpAny_call_entry
      slot_listiter_next hit.typeIs entry_listiter_next ?_ (args_listiter_next _)))
  show wpAny _ _ (field
      (.ref it) 0 >>= _) _ _ s
  refine wpAny_bind (wpAny_field ei di (x := .ref l) rfl ?_)
  show wpAny _ _ (if (Value.ref l ==
      Value.none) = true then _ else _) _ _ s
  rw [if_neg (show ¬ ((Value.ref l == Value.none)
      = true) from Bool.false_ne_true)]
  show wpAny _ _ (field
      (.ref it) 1 >>= _) _ _ s
  refine wpAny_bind (wpAny_field ei di (x := .int i 0) rfl ?_)
  show wpAny _ _ (seqItems?
      (.ref l) >>= _) _ _ s
  refine wpAny_bind (wpAny_seqItems el dl ?_)
  simp only [Int.toNat_natCast,
    hx]
  refine wpAny_bind (wpAny_rule (wpAny_bind
    (wpAny_setField ei di (by simp) ?_)))
  refine stop_hot (x1 := x1) ?_ fun h' e k z => hE h' e ?_ z
  · obtain ⟨hh, o1, vs1, h1, d1, c1⟩ := hot
    exact ⟨hh, o1, vs1, (Heap.get?_update_other _ _ (Ne.symm hn)).trans h1, d1, c1⟩
  · intro b o hb e'
    exact k b o ((Heap.get?_update_other _ _ (Ne.symm hb)).trans e')
/-- the end of a zip, the first list at its end -/
theorem zipEnd_hot {z TI TO i1 i2 l1 l2 x1 : Addr} {k1 : Nat} {xs : Array Value} {Q : Option Value → Shared → Prop} (hot : HotAt A x1 s.heap) (n1 : x1 ≠ z) (n2 : x1 ≠ i1) (D : ZipApart z TI TO i1 i2 l1 l2)
    (hz : IsZip s.heap z TI TO .none) (hTI : IsPair s.heap TI (.ref i1) (.ref i2)) (h1 : s.heap.IsListIter i1 l1 k1) (hl1 : s.heap.IsList l1 xs) (hend : xs[k1]? = none)
    (hQ : ∀ h', (∀ c o, c ≠ z → c ≠ i1 → s.heap.get? c = some o → h'.get? c = some o) → Q none { s with heap := h' }) : wpAny (model prog w) A (pyNext (.ref z)) Q E s := by
  have hT : s.TypeIs (.ref z) "zip" :=
    ⟨_, hz, rfl⟩
  unfold pyNext
  have key : ∀ {Q' : Fin → Shared → Prop} {E' : Value → Shared → Prop} {A' : Around}, HotAt A' x1 s.heap → (∀ h' e, (∀ c o, c ≠ z → c ≠ i1 → s.heap.get? c = some o → h'.get? c = some o) → (∃ o, h'.get? e = some o ∧ o.cls = .type "StopIteration") → E' (.ref e) { s with heap := h' }) →
      wpAny (model prog w) A' (Builtin.«zip.__next__» ⟨[.ref z], []⟩) Q' E' s := by
    intro Q' E' A' hot' hE
    show wpAny _ _ (field
      (.ref z) 2 >>= _) _ _ _
    refine wpAny_bind (wpAny_field hz rfl
      (x := .bool false) rfl ?_)
    show wpAny _ _ (field
      (.ref z) 3 >>= _) _ _ _
    refine wpAny_bind (wpAny_field hz rfl
      (x := .ref TI) rfl ?_)
    refine wpAny_bind (wpAny_seqItems
      hTI rfl ?_)
    show wpAny _ _ (Builtin.SmallTypes.ownedTupleIsFree
      (.ref z) >>= _) _ _ _
    refine wpAny_bind ?_
    unfold
      Builtin.SmallTypes.ownedTupleIsFree
    refine wpAny_bind (wpAny_field hz rfl
      (x := .none) rfl (wpAny_pure ?_))
    simp only [if_true]
    refine wpAny_bind
        (wpAny_rule ?_)
    refine wpAny_bind (wpAny_field hz rfl
      (x := .ref TO) rfl ?_)
    refine wpAny_bind (wpAny_setField_rec hz (by simp) fun g1 hz1 hs1 => ?_)
    replace hz1 : IsZip g1 z TI TO .ellipsis := hz1
    refine wpAny_bind ?_
    simp only [List.zipIdx_cons, List.zipIdx_nil,
      List.forIn_cons, List.forIn_nil]
    refine wpAny_bind (wpAny_bind
      (wpAny_onRaise ?_))
    show wpAny _ _ (Builtin.SmallTypes.nextOf
      (.ref i1) >>= _) _ _ _
    obtain ⟨hh, o1, vs1, q1, d1, c1⟩ := hot'
    refine wpAny_bind (listEnd_hot (x1 := x1) ⟨hh, o1, vs1, hs1.extBut _ _ n1 q1, d1, c1⟩ n2 (h1.extBut hs1.extBut D.i1z) (hl1.extBut hs1.extBut D.l1z) hend fun g2 e hs2 he => ?_)
    obtain ⟨oe, hoe, hce⟩ := he
    have hz2 : IsZip g2 z TI TO .ellipsis := hs2 _ _ D.i1z.symm hz1
    have hez : e ≠ z := fun x => by
      subst x
      rw [hz2] at hoe
      cases hoe
      simp at hce
    refine wpAny_setField_rec hz2 (by simp) fun g3 _ hs3 => hE g3 e (fun c o n3 n4 x => hs3.extBut _ _ n3 (hs2 _ _ n4 (hs1.extBut _ _ n3 x))) ⟨oe, hs3.extBut _ _ hez hoe, hce⟩
  refine wpAny_bind (wpAny_attempt (wpAny_callSpecial?_slot (name := Str.ofString
    "__next__") hT F.slot_zip_next (wpAny_call_entry F.slot_zip_next hT
      F.entry_zip_next (key ?_ fun h' e hk he => ?_) (F.args_zip_next_1 _))))
  · exact hot
  · obtain ⟨o, ho, hc⟩ := he
    refine wpAny_bind (wpAny_isInstance (T := "StopIteration") (b := true)
      ⟨o, ho, hc⟩ isSubtype_stop ?_)
    exact wpAny_pure (hQ _ hk)
/-- the end of a tuple's iterator -/
theorem tupEnd_hot {it t x1 : Addr} {i : Nat} {items} {Q : Option Value → Shared → Prop} (hot : HotAt A x1 s.heap) (hn : x1 ≠ it)
    (hit : IsTupIter s.heap it t i) (ht : IsTup
        s.heap t items) (hx : items[i]? = none)
    (hQ : ∀ h', Heap.ExtBut it s.heap h' → Q none { s with heap := h' })
        : wpAny (model prog w) A (pyNext (.ref it)) Q E s := by
  obtain ⟨oi, ei, ci, di⟩ := id hit
  obtain ⟨ol, el, _, nl, dl⟩ := ht
  unfold pyNext
  refine wpAny_bind (wpAny_attempt (wpAny_callSpecial?_slot (name := Str.ofString
    "__next__") hit.typeIs slot_tupleiter_next (wpAny_call_entry slot_tupleiter_next
      hit.typeIs entry_tupleiter_next ?_ (args_tupleiter_next _))))
  show wpAny _ _ (field
      (.ref it) 0 >>= _) _ _ s
  refine wpAny_bind (wpAny_field ei di (x := .ref t) rfl ?_)
  show wpAny _ _ (if (Value.ref t ==
      Value.none) = true then _ else _) _ _ s
  rw [if_neg (show ¬ ((Value.ref t == Value.none)
      = true) from Bool.false_ne_true)]
  show wpAny _ _ (field
      (.ref it) 1 >>= _) _ _ s
  refine wpAny_bind (wpAny_field ei di (x := .int i 0) rfl ?_)
  show wpAny _ _ (seqItems?
      (.ref t) >>= _) _ _ s
  refine wpAny_bind (wpAny_seqItems el dl ?_)
  simp only [Int.toNat_natCast,
    hx]
  refine wpAny_bind (wpAny_rule (wpAny_bind
    (wpAny_setField ei di (by simp) ?_)))
  refine stop_hot (x1 := x1) ?_ fun h' e k z => ?_
  · obtain ⟨hh, o1, vs1, h1, d1, c1⟩ := hot
    exact ⟨hh, o1, vs1, (Heap.get?_update_other _ _ (Ne.symm hn)).trans h1, d1, c1⟩
  · obtain ⟨o, ho, hc⟩ := z
    refine wpAny_bind (wpAny_isInstance (T := "StopIteration") (b := true)
      ⟨o, ho, hc⟩ isSubtype_stop (wpAny_pure (hQ _ fun b o hb e' => ?_)))
    exact k b o ((Heap.get?_update_other _ _ (Ne.symm hb)).trans e')
end
end WoK
/-! WoL -/
set_option maxRecDepth 100000
namespace WoK
open PySem HotX PySem.Spec
    PyProof.Rows L2
section
variable {prog : Program} {w
    : World} {A : Around}
    {E : Value → Shared → Prop} {s : Shared}
/-- (a, b, ..) = t while an exception is handled -/
theorem unpack_hot {t x1 : Addr} {its : Array Value} {tgs : List (Bool × (Value → Sem Unit))} {Q : Unit → Shared → Prop} (hot : HotAt A x1 s.heap) (ht : IsTup s.heap t its) (hn : tgs.length = its.size) (hst : tgs.findIdx? (·.1) = none)
    (h : ∀ h', Heap.ExtBut s.heap.objs.size s.heap h' → wpAny (model prog w) A (assignInOrder (tgs.map (·.2)) its.toList) Q E { s with heap := h' }) : wpAny (model prog w) A (unpack (.ref t) tgs) Q E s := by
  obtain ⟨hh, o1, vs1, g1, d1, c1⟩ := hot
  have l1 : x1 ≠ s.heap.objs.size := Nat.ne_of_lt (Heap.lt_size g1)
  have lt : t ≠ s.heap.objs.size := Nat.ne_of_lt ht.lt
  unfold unpack
  rw [hn, hst]
  refine wpAny_bind
      (wpAny_holding ?_)
  unfold unpackItems
  refine wpAny_bind ?_
  unfold notIterableAtAll
  refine wpAny_bind (wpAny_specialOf ht.typeIs
    slot_tuple_iter.lookup (wpAny_pure ?_))
  simp only [Bool.false_eq_true,
      ↓reduceIte]
  refine wpAny_bind (wpAny_holding
    (iter_tuple ht ?_))
  refine wpAny_bind (wpAny_holding (draw_tuple lt its.size 0 _ _ ⟨_, Heap.get?_push_size _ rfl, rfl, rfl⟩ (ht.push _) (by omega) fun g hg sg => ?_))
  have e1 : (its.toList.drop 0).take its.size = its.toList := by
    rw [List.drop_zero, List.take_of_length_le (by simp)]
  rw [e1, if_neg (show ¬ its.toList.length < its.size by simp)]
  refine wpAny_bind (wpAny_holding (tupEnd_hot (x1 := x1) ⟨hh, o1, vs1, sg.extBut _ _ l1 (Heap.get?_push_of_some _ g1), d1, c1⟩ l1 hg ((ht.push _).extBut sg.extBut lt) (by simp) fun g' eg => ?_))
  simp only [Option.isSome_none, Bool.false_eq_true,
    ↓reduceIte]
  exact wpAny_pure (h g' fun b o hb e => eg b o hb (sg.extBut b o hb (Heap.get?_push_of_some _ e)))
end
section
variable {X : Cx} {pos : Pos}
theorem pg_tupH {es : List Expr} {k : Nat} {t : TGs} {n : Nat} (hc : L2H.HotC X) (h : PGs X es t)
    (hn : (assignEach es X.env).length = n := by rfl) (hst : (assignEach es X.env).findIdx?
        (·.1) = none := by rfl) : PG X (.Tuple es k pos) (gTup X.K n t) := by
  constructor
  intro pins s σ H v u Q I r hw
  obtain ⟨a, xs, rfl, hq, hl, hw⟩ := hw
  cases r
  obtain ⟨its, rv, ht,
      hz⟩ := I.tuple hq
  obtain ⟨x1, hot⟩ := hc.at I
  rw [assign_Tuple]
  refine wpAny_bind (wpAny_standAt (unpack_hot hot ht (by simp [hn, ← hl, rv.length]) hst fun h' hx => ?_))
  exact h.run pins _ σ H xs _ Q (I.kept (t' := s.toks) fun b o e => hx b o (Nat.ne_of_lt (Heap.lt_size e)) e) (by simpa using rv) hw
end
/-- zip of two lists, the first of them not the longer one -/
def ItzE (K : PySem.W.Frag) (a b : Addr) : It :=
  ⟨(Itz K a b).go, (Itz K a b).yld, fun i H => ∃ xs : List V, SqL K H a xs ∧ xs.length ≤ i⟩
theorem turn_zipH {P : Program} {w : World} {K : PySem.W.Frag} {elts : List Expr} {kk : Nat} {tpos : Pos} {a b z TI TO i1 i2 : Addr} (D : ZipApart z TI TO i1 i2 a b) :
    L2H.TurnH P w K (.Tuple elts kk tpos) (ItzE K a b) [z, TI, TO, i1, i2] z (fun i h => IsZip h z TI TO .none ∧ IsPair h TI (.ref i1) (.ref i2) ∧ (∃ x y, IsPair h TO x y) ∧ h.IsListIter i1 a i ∧ h.IsListIter i2 b i) := by
  have T := turn_zip (P := P) (w := w) (K := K) (elts := elts) (kk := kk) (tpos := tpos) D
  refine ⟨T.mem, T.obj, T.keep, ?_, ?_, T.self⟩
  · intro X hP hw hK hc i pins s σ H E I hf st hg
    subst hP hw hK
    obtain ⟨hz, hTI, ⟨x0, y0,
        hTO⟩, h1, h2⟩ := st
    obtain ⟨xs, ys, x, y, sx, sy, hx, hy⟩ := hg
    obtain ⟨its, rv, p, _⟩ := I.list sx
    obtain ⟨its2, rv2, p2, _⟩ := I.list sy
    obtain ⟨u, hu, ru⟩
        := rv.get hx
    obtain ⟨u2, hu2, ru2⟩
        := rv2.get hy
    have zl := Heap.lt_size hz
    refine wpAny_pyNext_zip_item D hz hTI hTO h1 h2 p.isList p2.isList (x := u) (y := u2) (by simpa using hu) (by simpa using hu2) fun g z1 TO1 g1 g2 hT hsz hk => ?_
    refine ⟨_, rfl, wpAny_letOwnedTupleGo_zip (s := { s with heap := g }) z1 fun g' z2 sb => ?_⟩
    have out : ∀ {c}, c ∉ [z, TI, TO, i1, i2] → c ≠ z ∧ c ≠ TO ∧ c ≠ i1 ∧ c ≠ i2 := fun {c} hb => by
      simp only [List.mem_cons, List.not_mem_nil, or_false, not_or] at hb
      exact ⟨hb.1, hb.2.2.1, hb.2.2.2.1, hb.2.2.2.2⟩
    have new : ObjOk X.prog X.w (upd H s.heap.objs.size (.tup [x, y])) g' s.heap.objs.size (.tup [x, y]) :=
      ⟨by show 2 ≤ sizeLine; decide, [u, u2], .cons ru (.cons ru2 .nil), ⟨_, (sb.2 _ (Nat.ne_of_gt zl)).trans hT, rfl, _, rfl⟩⟩
    have I1 := I.turnedNew (t' := s.toks) (ch := [z, TI, TO, i1, i2]) (fun c o hb q => (sb.2 c (out hb).1).trans (hk c o (out hb).1 (out hb).2.1 (out hb).2.2.1 (out hb).2.2.2 q)) hf (Nat.le_refl _) new
    refine ⟨.ref s.heap.objs.size, _, I1, rfl, ⟨_, x, y, rfl, I.hok.fresh (Nat.le_refl _), rfl, fun l hl => by rw [I.list_inj hl sx]; exact hx, fun l hl => by rw [I.list_inj hl sy]; exact hy⟩,
      ⟨z2, (sb.2 _ D.TIz).trans (hk _ _ D.TIz D.TITO D.TIi1 D.TIi2 hTI), ⟨u, u2, (sb.2 _ D.TOz).trans TO1⟩, g1.at fun o q => (sb.2 _ D.i1z).trans q, g2.at fun o q => (sb.2 _ D.i2z).trans q⟩, fun c hc' => ?_⟩
    obtain ⟨o, eo, _⟩ := T.obj i _ ⟨hz, hTI, ⟨x0, y0, hTO⟩, h1, h2⟩ c hc'
    rw [upd_ne (Nat.ne_of_lt (Heap.lt_size eo))]
    exact (hf c hc').1
  · intro X hP hw hK hc i pins s σ H E I hf st hg
    subst hP hw hK
    obtain ⟨hz, hTI, _, h1, h2⟩ := st
    obtain ⟨xs, sx, hend⟩ := hg
    obtain ⟨its, rv, p, _⟩ := I.list sx
    have l1 := rv.length
    obtain ⟨q, ⟨hh, v1, e1, c1⟩, hq⟩ := hc
    have pin := I.pin q (List.mem_append_left _ hq)
    have off : ∀ c ∈ [z, TI, TO, i1, i2], q.1 ≠ c := fun c hc' => (hf c hc').2.2.2.2.2 q (List.mem_append_left _ hq)
    refine zipEnd_hot (x1 := q.1) ⟨hh, q.2, v1, pin.1, e1, c1⟩ (off z (by simp)) (off i1 (by simp)) D hz hTI h1 p.isList (by simp; omega) fun h' hk => ⟨rfl, ?_⟩
    exact I.turnedL (t' := s.toks) (ch := [z, TI, TO, i1, i2]) (fun c o hb q => hk c o (fun q' => hb (by simp [q'])) (fun q' => hb (by simp [q'])) q) hf
def iZipE (K : PySem.W.Frag) (ta : TA) : TI := fun σ H R => ta σ H fun vs H1 => ∃ a b xs ys, vs = [.ref a, .ref b] ∧ SqL K H1 a xs ∧ SqL K H1 b ys ∧ R (ItzE K a b) H1
theorem pi_zipH {X : Cx} {e e2 : Expr} {ta : TA} {p pos tpos : Pos} {elts : List Expr} {kk : Nat} (hg : Gl X "zip") (hm : X.mg "zip" = none) (ha : PA X [e, e2] ta)
    (hs : starEach [e, e2] X.env = (false, eval e X.env) :: starEach [e2] X.env := by rfl)
        (hpl : (backTo pos (starEach [e2] X.env)).any (·.1) = false := by rfl) :
    L2H.PIH X (.Tuple elts kk tpos) (.Call (.Name "zip" p) [e, e2] [] pos) (iZipE X.K ta) := by
  constructor
  intro pins s σ H R I h
  refine Call_ (ld_blt I hg hm PyProof.Rows.boot_zip (PyProof.Rows.callWith_type1 (thn (ha.run pos pins s σ H _ I h) ?_) hs hpl))
  rintro us s1 ⟨vs, H1, I1, r1, a, b, xs, ys, rfl, sx, sy, q⟩
  cases r1 with
  | cons r rr =>
    cases rr with
    | cons r' rr =>
      cases rr
      cases r
      cases r'
      obtain ⟨its, rv, p1, _⟩ := I1.list sx
      obtain ⟨its2, rv2, p2, _⟩ := I1.list sy
      refine call_zip_2 p1.isList p2.isList fun h' hz hTI
          hTO h1 h2 hsz hk => wpAny_pyIter_zip hz ?_
      refine ⟨s1.heap.objs.size + 4, [s1.heap.objs.size + 4, s1.heap.objs.size + 2, s1.heap.objs.size + 3, s1.heap.objs.size, s1.heap.objs.size + 1], _, _, H1, rfl, I1.kept (t' := s1.toks) hk,
        turn_zipH (PySem.W.ktu_apart s1.heap.objs.size a b p1.lt p2.lt), ⟨hz, hTI, ⟨_, _, hTO⟩, h1, h2⟩, fun c hc => ?_, q⟩
      have hle : s1.heap.objs.size
          ≤ c := by
        simp only [List.mem_cons, List.not_mem_nil, or_false] at hc
        rcases hc with z | z | z | z | z <;> rw [z]
        all_goals first
          | exact Nat.le_add_right _ _
          | exact Nat.le_refl _
      exact I1.fpOk hle
          (I1.hok.fresh hle)
end WoK
/-! WoN -/
set_option maxRecDepth 100000
namespace WoK
open PySem HotX PySem.Spec
    PyProof.Rows L2
section
variable {X : Cx}
/-- a comprehension's own context, the handled exception's object known there too -/
abbrev blkH (X : Cx) (s : Shared) (H : Hp) (sc : Scope) (ce : Env) (fp : List Addr) : Cx := { X.blk s H sc ce fp with pn := X.pn }
theorem inv_pn {s s' : Shared} {H H' : Hp} {sc : Scope} {ce : Env} {fp : List Addr} {σ : L2.St} (I : Inv (X.blk s H sc ce fp) [] σ H' s')
    (h : ∀ p ∈ X.pn, s'.heap.get? p.1 = some p.2 ∧ H' p.1 = none ∧ p.1 ≠ ce.locals ∧ p.1 ∉ frs X.stack ∧ ∀ v, p.2.data ≠ .cell v) : Inv (blkH X s H sc ce fp) [] σ H' s' := by
  have o := I.ok
  exact ⟨⟨o.mod, o.kind, o.glob, o.blt, o.above, o.inj, o.has, o.cab, o.hd, o.frames, o.stk, o.exf, o.bs, o.bsz, o.noex, o.exfs, o.funs, o.frf⟩, I.os, I.bare, I.base, I.loc, I.cell, I.free, I.freeC,
    fun p hp => h p (by rw [List.append_nil] at hp; exact hp), I.hok, I.len⟩
theorem hot_blk {s : Shared} {H : Hp} {sc : Scope} {ce : Env} {fp : List Addr} (hc : L2H.HotC X) : L2H.HotC (blkH X s H sc ce fp) := hc
/-- a turn of the loop, in the block -/
theorem turn_hot {elt tg : Expr} {ifs : List Expr} {g : TG} {tt : TT} {te : TE} {s0 : Shared} {H0 : Hp} {sc : Scope} {ce : Env} {fp : List Addr} {J : It} {it D : Addr} {tn : Nat → Heap → Prop} {vs : List Nat} {σ : L2.St} {W : Nat → Nat → Hp → Prop} {Z : Shared → Prop}
    (hc : L2H.HotC X) (T : L2H.TurnH X.prog X.w X.K tg J fp it tn) (hoff : ∀ p ∈ X.pn, p.1 ∉ fp) (pg : PG (blkH X s0 H0 sc ce fp) tg g) (pt : PTs (blkH X s0 H0 sc ce fp) ifs tt) (pe : PE (blkH X s0 H0 sc ce fp) elt te)
    (turn : ∀ i m H, W i m H → (J.stop i H ∧ ∀ s', Inv (blkH X s0 H0 sc ce fp) [] (wipe σ vs) H s' → Z s') ∨ (J.go i H ∧ ∃ Nx : Hp → Prop, (∀ H', Nx H' → ∃ m', m' < m ∧ W (i + 1) m' H') ∧ ∀ x H', J.yld i H x H' → g x (wipe σ vs) H' fun σ2 H2 => wipe σ2 vs = wipe σ vs ∧ tt σ2 H2 fun b H3 =>
      if b = true then te σ2 H3 fun y H4 => ∃ acc, H4 D = some (.lst acc) ∧ acc.length < sizeLine ∧ Nx (upd H4 D (.lst (acc ++ [y]))) else Nx H3)) :
    ∀ n s, (∃ i H', Inv (blkH X s0 H0 sc ce fp) [] (wipe σ vs) H' s ∧ tn i s.heap ∧ (∀ b ∈ fp, H' b = none) ∧ W i n H') → wpAny (model X.prog X.w) X.A (pyNext (.ref it)) (fun r s₁ => match r with
      | none => Z s₁
      | some v => wpAny (model X.prog X.w) X.A (letOwnedTupleGo tg (.ref it) v) (fun _ s₁' => wpAny (model X.prog X.w) X.A (assign tg ce v) (fun _ s₂ =>
          wpAny (model X.prog X.w) X.A (forIn ifs true fun c r => if r = true then do let ok ← isTrue c ce (eval c ce); pure (ForInStep.yield ok) else pure (ForInStep.yield r)) (fun ok s₃ =>
            if ok = true then wpAny (model X.prog X.w) X.A (eval elt ce) (fun x s₄ =>
              wpAny (model X.prog X.w) X.A (call (.builtin "list.append") [.ref D, x]) (fun _ s₅ => ∃ m, m < n ∧ ∃ i H', Inv (blkH X s0 H0 sc ce fp) [] (wipe σ vs) H' s₅ ∧ tn i s₅.heap ∧ (∀ b ∈ fp, H' b = none) ∧ W i m H') (fun _ _ => False) s₄) (fun _ _ => False) s₃
            else ∃ m, m < n ∧ ∃ i H', Inv (blkH X s0 H0 sc ce fp) [] (wipe σ vs) H' s₃ ∧ tn i s₃.heap ∧ (∀ b ∈ fp, H' b = none) ∧ W i m H') (fun _ _ => False) s₂) (fun _ _ => False) s₁') (fun _ _ => False) s₁) (fun _ _ => False) s := by
  rintro n s5 ⟨i, H5,
      I5, st5, n5, w5⟩
  have stat : ∀ {σ' : L2.St} {H' : Hp} {s' : Shared}, Inv (blkH X s0 H0 sc ce fp) [] σ' H' s' → (∀ b ∈ fp, H' b = none) → ∀ b ∈ fp, FpOk (blkH X s0 H0 sc ce fp) [] H' b := by
    intro σ' H' s' I' hn b hb
    have x1 := I'.ok.exf b hb
    refine ⟨hn b hb, x1.1, I'.ok.exfs b hb, .inl hb, x1.2, fun p hp z => ?_⟩
    rw [List.append_nil] at hp
    exact hoff p hp (by rw [z]; exact hb)
  rcases turn i n H5 w5 with ⟨stop, fin⟩ | ⟨go, Nx, hNx, step⟩
  · refine thnF (T.done (blkH X s0 H0 sc ce fp) rfl rfl rfl (hot_blk hc) i [] s5 _ H5 (fun _ _ => False) I5 (stat I5 n5) st5 stop) ?_
    rintro r s6 ⟨rfl, I6⟩
    exact fin s6 I6
  · refine thnF (T.item (blkH X s0 H0 sc ce fp) rfl rfl rfl (hot_blk hc) i [] s5 _ H5 (fun _ _ => False) I5 (stat I5 n5) st5 go) ?_
    rintro r s6 ⟨u, rfl, h6⟩
    refine thnF h6 ?_
    rintro _ s7 ⟨x, H7, I7, r7, y7, st7, n7⟩
    have I7' := I7.pinned (stat
        I7 n7) (T.obj _ _ st7)
    have back : ∀ {σ' : L2.St} {s' : Shared} {H' : Hp}, wipe σ' vs = wipe σ vs → Inv (blkH X s0 H0 sc ce fp) ([] ++ pinsAt fp s7.heap) σ' H' s' → Nx H' → ∃ m, m < n ∧ ∃ i H', Inv (blkH X s0 H0 sc ce fp) [] (wipe σ vs) H' s' ∧ tn i s'.heap ∧ (∀ b ∈ fp, H' b = none) ∧ W i m H' := by
      intro σ' s' H' hw I' nx
      obtain ⟨m', hm, w'⟩
          := hNx H' nx
      have kept : ∀ b ∈ fp, ∀ o, s7.heap.get? b = some o → s'.heap.get? b = some o ∧ H' b = none := fun b hb o e =>
        have z := I'.pin (b, o) (List.mem_append_right _ (List.mem_append_right _ (mem_pinsAt hb e)))
        ⟨z.1, z.2.1⟩
      refine ⟨m', hm, i + 1, H', (I'.unpinned (pins := [])).weak ?_ fun j v e => ?_, T.keep _ _ _ st7 fun b hb o e => (kept b hb o e).1, fun b hb => ?_, w'⟩
      · rw [← hw, wipe_length]
      · rw [← hw] at e
        exact (wipe_some e).1
      · obtain ⟨o, e, _⟩ :=
          T.obj _ _ st7 b hb
        exact (kept b hb o e).2
    refine thnF (pg.run _ s7 _ H7 x u _ I7' r7 (step x H7 y7)) ?_
    rintro _ s8 ⟨σ8, H8, I8, hw8, q8⟩
    refine thnF (pt.run _ s8 σ8 H8 _ I8 q8) ?_
    rintro b s9 ⟨H9, I9, q9⟩
    cases b with
    | false => exact back hw8 I9 q9
    | true =>
      refine thnF (pe.run _ s9 σ8 H9 _ I9 q9) ?_
      rintro z s10 ⟨yv, H10, I10, r10, acc, hD, hz, nx⟩
      exact app_ok (X := blkH X s0 H0 sc ce fp) I10 hD hz r10 fun s11 I11 => back hw8 I11 nx
end
end WoK
/-! WoO -/
set_option maxRecDepth 100000
namespace WoK
open PySem HotX PySem.Spec
    PyProof.Rows L2
section
variable {X : Cx}
/-- [elt for target in iter if ..] while an exception is handled -/
theorem pe_lcH {elt tg iter : Expr} {ifs : List Expr} {scope : Scope} {own : List (Str × Nat)} {pos : Pos} {wi : TI} {g : TG} {tt : TT} {te : TE} (hc : L2H.HotC X) (hN : X.N.Nodup) (hi : L2H.PIH X tg iter wi) (ok : BlkOk X.N X.env.scope scope own)
    (hg : ∀ (s : Shared) (H : Hp) (C : Addr) (cl : List (Str × Addr)) (fp : List Addr), PG (blkH X s H scope (compEnvC scope cl C X.env) fp) tg g) (ht : ∀ (s : Shared) (H : Hp) (C : Addr) (cl : List (Str × Addr)) (fp : List Addr), PTs (blkH X s H scope (compEnvC scope cl C X.env) fp) ifs tt)
    (he : ∀ (s : Shared) (H : Hp) (C : Addr) (cl : List (Str × Addr)) (fp : List Addr), PE (blkH X s H scope (compEnvC scope cl C X.env) fp) elt te) (hs : ∀ x, foldedSetIterable iter X.env x = pure x := by intro _; rfl) :
    PE X (.ListComp elt [⟨tg, iter, ifs, 0⟩] scope pos)
        (tLc wi g tt te (own.map (·.2))) := by
  constructor
  intro pins s σ H Q I h
  rw [eval_ListComp]
  have free : ∀ y ∈ scope.names, y.2 = .free → ∃ c, X.env.cells.lookup y.1 = some c := fun y hy e =>
    (ok.free y hy e).elim (fun k => I.ok.has _ (.inl k)) fun k => I.ok.has _ (.inr k)
  refine wpAny_comprehension_free (use := none) rfl hs (closure_ok free) ok.kind (fun y hy e => by rw [ok.uniq y hy, e]) (thn (hi.run pins s σ H _ I h) fun xv s1 hx => thn hx ?_)
  rintro itv s2 ⟨it, fp, tn, J, H2, rfl, I2, T, st2, f2, q⟩
  refine wpAny_newObj_type (newEnv_comp
      ?_) (by show 0 ≤ sizeLine; decide)
  generalize hD :
      s2.heap.objs.size = D
  obtain ⟨W, ⟨m0, w0⟩, turn⟩ := q D (I2.hok.fresh (Nat.le_of_eq hD))
  -- the new list
  have I3 : Inv X pins σ (upd H2 D (.lst [])) { s2 with heap := s2.heap.push { cls := .type "list", data := .seq ([] : List Value).toArray } } :=
    I2.laid (t' := s2.toks) (fun b o e =>
      Heap.get?_push_of_some _ e) (Nat.le_of_eq hD) ⟨Nat.zero_le _, [], 0, .nil, by
        rw [← hD]
        exact Heap.get?_push_size _ rfl⟩
  have f3 : ∀ b ∈ fp, FpOk X pins (upd H2 D (.lst [])) b ∧ b < (s2.heap.push { cls := .type "list", data := .seq ([] : List Value).toArray }).objs.size := fun b hb => by
    obtain ⟨o, e, _⟩ :=
        T.obj _ _ st2 b hb
    have hlt := Heap.lt_size e
    refine ⟨⟨?_, (f2 b hb).2⟩, by rw [Heap.size_push]; exact Nat.lt_succ_of_lt hlt⟩
    have nD : b ≠ D := by
      rw [← hD]
      exact Nat.ne_of_lt hlt
    rw [upd_ne nD]
    exact (f2 b hb).1
  have st3 : tn 0 (s2.heap.push { cls := .type "list", data := .seq ([] : List Value).toArray }) := T.keep _ _ _ st2 fun b _ o e =>
    Heap.get?_push_of_some _ e
  generalize e3 : ({ s2 with heap := s2.heap.push { cls := .type "list", data := .seq ([] : List Value).toArray } } : Shared) = s3 at I3
  have h3 : s2.heap.push { cls := .type "list", data := .seq ([] : List Value).toArray } = s3.heap := by rw [← e3]
  rw [h3] at st3
  simp only [h3] at f3
  generalize hH3 : upd H2 D (.lst []) = H3 at I3 f3 w0
  have I4 := block_start
      I3 ok hN f3
  show codeAny _ _ (.compStart (.ListComp elt [⟨tg, iter, ifs, 0⟩] scope pos) 0 (.ref it) (.ref D) (compEnvC scope (cellsFrom (s3.heap.objs.size + 1) scope.names (cloFrom X.env.cells scope.names [])) s3.heap.objs.size X.env)) (compPost (model X.prog X.w) X.A X.xe none (EP X pins σ Q) (.ref D) s3.heap.objs.size) { s3 with heap := pushCells (s3.heap.push { cls := .type "dict", data := .dict #[] }) scope.names }
  have pg := hg s3 H3 s3.heap.objs.size (cellsFrom (s3.heap.objs.size + 1) scope.names (cloFrom X.env.cells scope.names [])) fp
  have pt := ht s3 H3 s3.heap.objs.size (cellsFrom (s3.heap.objs.size + 1) scope.names (cloFrom X.env.cells scope.names [])) fp
  have pe := he s3 H3 s3.heap.objs.size (cellsFrom (s3.heap.objs.size + 1) scope.names (cloFrom X.env.cells scope.names [])) fp
  generalize hce : compEnvC scope (cellsFrom (s3.heap.objs.size + 1) scope.names (cloFrom
      X.env.cells scope.names [])) s3.heap.objs.size X.env = ce at I4 pg pt pe ⊢
  have cL : ce.locals = s3.heap.objs.size := by
    rw [← hce]
    rfl
  have kp : ∀ b o, s3.heap.get? b = some o → (pushCells (s3.heap.push { cls := .type "dict", data := .dict #[] }) scope.names).get? b = some o := fun b o e =>
    pushCells_keeps _ _ _ _ (Heap.get?_push_of_some _ e)
  have off : ∀ p ∈ X.pn, p.1 ∉ fp := fun p hp hm => (f3 p.1 hm).1.2.2.2.2.2 p (List.mem_append_left _ hp) rfl
  have I5 : Inv (blkH X s3 H3 scope ce fp) [] (wipe σ (own.map (·.2))) H3 { s3 with heap := pushCells (s3.heap.push { cls := .type "dict", data := .dict #[] }) scope.names } := by
    refine inv_pn I4 fun p hp => ?_
    obtain ⟨a1, a2, a3, a4, a5⟩ := I3.pin p (List.mem_append_left _ hp)
    refine ⟨kp _ _ a1, a2, ?_, fun hm => (List.mem_cons.mp (I3.stkSub p.1 hm)).elim a3 a4, a5⟩
    rw [cL]
    exact Nat.ne_of_lt (Heap.lt_size a1)
  have st5 : tn 0 (pushCells (s3.heap.push { cls := .type "dict", data := .dict #[] }) scope.names) := T.keep _ _ _ st3 fun b _ o e => kp b o e
  have loop : codeAny (model X.prog X.w) X.A (.compLoop (.ListComp elt [⟨tg, iter, ifs, 0⟩] scope pos) 0 (.ref it) (.ref D) ce) (compPost (model X.prog X.w) X.A X.xe none (EP X pins σ Q) (.ref D) s3.heap.objs.size) { s3 with heap := pushCells (s3.heap.push { cls := .type "dict", data := .dict #[] }) scope.names } := by
    have fin : ∀ {H : Hp} {s' : Shared}, Q (.ref D) H → Inv (blkH X s3 H3 scope ce fp) [] (wipe σ (own.map (·.2))) H s' → compPost (model X.prog X.w) X.A X.xe none (EP X pins σ Q) (.ref D) s3.heap.objs.size (.ok .next) s' := by
      intro H s' qq I6
      have I7 : Inv X pins σ H s' := I3.call' (ch := fp) I6.os I6.base I6.hok I6.bare fun b hb => ⟨(f3 b hb).1.2.2.2.1, (f3 b hb).1.2.1, (f3 b hb).1.2.2.2.2.1, (f3 b hb).1.2.2.2.2.2⟩
      have nC : H s3.heap.objs.size = none := by
        have z : H ce.locals = none := I6.free
        rw [cL] at z
        exact z
      obtain ⟨mm, hn, _⟩ := I6.loc
      have hn : s'.heap.Ns ce.locals mm := hn
      rw [cL] at hn
      obtain ⟨f0, f1, f2', f4, f5, f6⟩ := I3.fpOk (Nat.le_refl _) nC
      exact ⟨mm, hn, fun h'' sb => ⟨.ref D, H, I7.turned (t' := s'.toks) (fun b o hb e => (sb.2 b hb).trans e) f0 f1 f4 f5 f6, rfl, qq⟩⟩
    have key := turn_hot (σ := σ) (vs := own.map (·.2)) (D := D) (Z := fun s' => compPost (model X.prog X.w) X.A X.xe none (EP X pins σ Q) (.ref D) s3.heap.objs.size (.ok .next) s') (W := W) hc T off pg pt pe
      fun i m H w => Or.imp_left (fun z => And.intro z.1 fun s' I6 => fin z.2 I6) (turn i m H w)
    refine compLoop_any (fun n s' => ∃ i H', Inv (blkH X s3 H3 scope ce fp) [] (wipe σ (own.map (·.2))) H' s' ∧ tn i s'.heap ∧ (∀ b ∈ fp, H' b = none) ∧ W i n H') (fun n s' hI => ?_) m0 ⟨0, H3, I5, st5, fun b hb => (f3 b hb).1.1, w0⟩
    refine thnF (key n s' hI) fun r s1 hr => ?_
    cases r with
    | none => exact hr
    | some v =>
      exact thnF hr fun _ s2 h2 => thnF h2 fun _ s3' h3' => thnF h3' fun b s4 h4 => by
        cases b with
        | false => exact h4
        | true => exact thnF h4 fun _ s5 h5 => thnF h5 fun _ s6 h6 => h6
  exact codeAny_compStart_list loop (T.self X.A 0 _ _ _ st5 loop)
end
end WoK
/-! WoP -/
set_option maxRecDepth 100000
namespace WoK
open PySem HotX PySem.Spec
    PyProof.Rows L2 L2H
/-- a def's promise where an exception is handled, what it promises said of that exception's object -/
structure FnZ (P : Program) (w : World) (K : PySem.W.Frag) (mg : Str → Option Value) (base : Heap) (CX : CXT) (k : Nat) (f : Addr) (fd : FuncData) (ps : List Str) (sp : Addr × Obj → Sp) : Prop where
  len : ∀ p vs H Q E, sp p vs H Q E → vs.length = ps.length
  run : ∀ (A : Around) (outer : List Env) (s : Shared) (H : Hp) (args : Args) (us : List Value) (vs : List V) (Q : VK) (E : XK) (p : Addr × Obj), RoomH k A → Hot1 A p → PinOk outer H s p → Env0 P w K mg base A outer s H → BindsTo s fd args (ps.zip us) → Vals vs us →
    sp p vs H Q E → codeAny (model P w) A (.call (.ref f) args) (CR CX outer P w H s Q E) s
theorem fn_ofZ {CX : CXT} {P : Program} {w : World} {K : PySem.W.Frag} {mg : Str → Option Value} {base : Heap} {k : Nat} {f : Addr} {name qual : Str} {params : Arguments} {body : List Stmt} {scope : Scope} {dV kV doc pm cdv ct oc : Value} {an od : Option Addr}
    {osl : Array (Option Value)} {N ps : List Str} {sp : Addr × Obj → Sp} (lk : K.lookup f = some ⟨oc, od, .func (PySem.W.fnOf name qual params body scope dV kV doc pm an cdv ct), osl⟩) (hcd : PySem.W.codeIn K cdv qual = true) (S : FnScope N ps scope)
    (len : ∀ p vs H Q E, sp p vs H Q E → vs.length = ps.length)
    (hb : ∀ (A : Around) (outer : List Env) (s : Shared) (H : Hp) (vs : List V) (Q : VK) (E : XK) (p : Addr × Obj), Hot1 A p → RoomH k (A.deeper (envOfC qual scope s.heap.objs.size f cdv)) → sp p vs H Q E →
      ∃ t, PSs (cxH CX P w K mg base N qual scope f cdv A outer s H E p) body t ∧ t
          { nx := fun _ H' => Q .non H', rt := Q } (L2.start N vs) H) :
    FnZ P w K mg base CX (k + 1) f (PySem.W.fnOf name qual params body scope dV kV doc pm an cdv ct) ps sp := by
  refine ⟨len, ?_⟩
  intro A outer s H args us vs Q E p hr hot hpin e0 bd r hsp
  have up := fun b o e => (e0.bs b o e).1
  have KX : K.In s.heap := e0.mod.kin.keeps up
  refine codeAny_call_function hr.depth (KX _ _ lk) rfl S.co S.gen rfl (PySem.W.codeRec_of KX hcd) (bd _ _ _ _ (wpAny_newFunctionEnv_cells S.kind ?_ ?_))
  · rintro ⟨n, v⟩ hy
    exact (S.par n (List.of_mem_zip hy).1).imp id fun q => ⟨q, PySem.W.cellsFrom_some _ _ _ (.inl q)⟩
  · rintro env rfl s1 x
    refine ⟨(e0.mod.nolimit.keeps up).keeps x.toInCall.keep, codeAny_func ?_⟩
    obtain ⟨t, ht, hq⟩ := hb A outer s H vs Q E p hot (hr.deeper _) hsp
    have I := inv_startH (CX := CX) (E := E) S hpin e0 (len _ _ _ _ _ hsp) r x
    refine wpAny_mono (ht.run [] s1 (L2.start N vs) H _ I hq) (fun fl s' hs => ?_) fun _ _ hs => hs
    have out : ∀ {σ' : L2.St} {H' : Hp} {v : V} {u : Value}, Inv (cxH CX P w K mg base N qual scope f cdv A outer s H E p) [] σ' H' s' → RelV v u → Q v H' → CE outer P w H s Q u s' :=
      fun J rv q => ⟨_, _, J.os, J.bare, J.base, J.hok, rv, q⟩
    match fl, hs with
    | .ret u, ⟨v, σ', H', J, rv, q⟩ => exact out J rv q
    | .next, ⟨σ', H', J, q⟩ => exact out (v := V.non) (u := Value.none) J rfl q
    | .brk, ⟨_, _, _, q⟩ => exact q.elim
    | .cont, ⟨_, _, _, q⟩ => exact q.elim
section
variable {X : Cx} {CX : CXT} {k : Nat} {f C : Addr} {fd : FuncData} {ps : List Str} {sp : Addr × Obj → Sp} {E : L2.St → XK} {x : Str} {q pos : Pos} {e : Expr} {es : List Expr} {t : TA}
/-- such a def called, p the object of the exception that is handled -/
theorem pe_callZ {p : Addr × Obj} (F : FnZ X.prog X.w X.K X.mg X.base CX k f fd ps sp) (hr : RoomH k X.A) (hot : Hot1 X.A p) (hp : p ∈ X.pn) (hg : Gl X x) (hm : X.mg x = some (.ref f)) (hk : PySem.W.keepIn X.K (.ref f) = true) (hb : Binds X.K fd ps []) (hx : ∀ σ, PassesAt CX X σ (E σ))
    (ha : PA X (e :: es) t) (hdb : (x == ("__debug__" : Str)) = false := by decide) (he : starEach (e :: es) X.env = (false, eval e
        X.env) :: starEach es X.env := by rfl) (hpl : (backTo pos (starEach es X.env)).any (·.1) = false := by rfl) :
    PE X (.Call (.Name x q) (e :: es) [] pos) (tCallS (sp p) E t) := by
  constructor
  intro pins s σ H Q I h
  refine wpAny_Call_Name_kw
      (ld_glob I hg hm ?_ hdb)
  refine PySem.W.callWith_K (h₀ := X.base) I.ok.mod.kin hk (thn (ha.run pos pins s σ H _ I h) ?_) he hpl
  rintro us s1 ⟨vs, H1, I1, r, hq⟩
  refine ⟨I1.kIn, ?_⟩
  have hl : us.length = ps.length := by rw [← r.length]; exact F.len _ _ _ _ _ hq
  have b := hb s1 us I1.kIn (by rw [List.append_nil]; exact hl)
  rw [List.append_nil] at b
  obtain ⟨z1, z2, z3, z4, z5⟩ := I1.pin p (List.mem_append_left _ hp)
  refine wpAny_call (codeAny_mono (F.run X.A X.stack s1 H1 ⟨us, []⟩ us vs Q (E σ) p hr hot ⟨z1, z2, fun hm => (List.mem_cons.mp (I1.stkSub p.1 hm)).elim z3 z4, z5⟩ I1.env0 b r hq) fun r s' hc => ?_)
  match r, hc with
  | .error e, hc => exact hx σ pins H1 s1 e s' I1 hc
  | .ok (.ret u), hc => exact I1.after hc
  | .ok .next, hc => exact hc.elim
  | .ok .brk, hc => exact hc.elim
  | .ok .cont, hc => exact hc.elim
end
/-- isinstance(e, c), e the exception that is handled -/
theorem call_isH {X : Cx} {D : Addr} {p : Addr × Obj} (C : ExcC X.K D) (hp : p ∈ X.pn) (hz : Zc (.ref D) none p.2) (hf : ∃ vs, p.2.data = .fields vs) : CallR X (.builtin "isinstance") (rIsE X.K D p.1) := by
  rintro pins s σ H xs us Q I r ⟨c, cv, b, rfl, hcv, e, hq⟩
  obtain ⟨a, oc, od, oda, osl⟩ := p
  obtain ⟨h1, h2⟩ := hz
  obtain ⟨vs, hv⟩ := hf
  dsimp only at h1 h2 hv
  subst h1 h2 hv
  cases r with
  | cons rx rr =>
    cases rr with
    | cons rt rr =>
      cases rr
      cases rx
      cases hcv _ rt
      have J : PySem.W.InstAt s.heap a ⟨.ref D, none, .fields vs, osl⟩ D none := ⟨(I.pin _ (List.mem_append_left _ hp)).1, rfl, rfl, trivial⟩
      exact PySem.W.kia_one (PySem.W.handS_kitx_exc C.hg C.hk C.hs C.hd C.ha C.hn C.ht C.hm) I.kIn J e (fun z => nomatch z) fun tk => ⟨.bl b, H, I.kept (t' := tk) fun _ _ z => z, rfl, hq⟩
end WoK
/-! WoG0 -/
set_option maxRecDepth 100000
namespace Wo
open PySem PySem.Spec PyProof.Rows L2 WoR
theorem eqv_l (a b : List Int) : PyData.eqv (.list (dI a)) (.list (dI b)) = decide (a = b) := by
  rw [← eqvAll_int]
  simp [PyData.eqv]
theorem eqv_t (a b : List Int) : PyData.eqv (.tuple (dI a)) (.tuple (dI b)) = decide (a = b) := by
  rw [← eqvAll_int]
  simp [PyData.eqv]
theorem rgI_tn (n : Nat) : rgI n = tn (List.range n) := by
  rw [tn_eq]
  rfl
section
variable {P : Program} {w : World} {K : PySem.W.Frag}
    {mg : Str → Option Value} {base : Heap}
/-- x != y, both lists (tuples) of the same ints -/
theorem ne_l {H : Hp} {p q : Addr} {a b : List Nat} {Q : Bool → Hp → Prop} (h1 : SqL K H p (tn a)) (h2 : SqL K H q (tn b)) (e : a = b) (k : Q false H) : rNeD K (.ref p) (.ref q) H fun x H' => ∃ b, x = .bl b ∧ Q b H' := by
  refine ⟨_, _, dp_l h1, dp_l h2, shaped_l _, shaped_l _, _, rfl, ?_⟩
  rw [eqv_l, e, decide_eq_true rfl]
  exact k
theorem ne_t {H : Hp} {p q : Addr} {a b : List Nat} {Q : Bool → Hp → Prop} (h1 : SqT K H p (tn a)) (h2 : SqT K H q (tn b)) (e : a = b) (k : Q false H) : rNeD K (.ref p) (.ref q) H fun x H' => ∃ b, x = .bl b ∧ Q b H' := by
  refine ⟨_, _, dp_t h1, dp_t h2, shaped_t _, shaped_t _, _, rfl, ?_⟩
  rw [eqv_t, e, decide_eq_true rfl]
  exact k
theorem eq_t {H : Hp} {p q : Addr} {a b : List Nat} {Q : VK} (h1 : SqT K H p (tn a)) (h2 : SqT K H q (tn b)) (e : a = b) (k : Q (.bl true) H) : rEqD K (.ref p) (.ref q) H Q := by
  refine ⟨_, _, dp_t h1, dp_t h2, shaped_t _, shaped_t _, ?_⟩
  rw [eqv_t, e, decide_eq_true rfl]
  exact k
/-! a reading peeled, piece by piece -/
section
variable {ta tb te : TE} {tr : TA} {tt uu : TT} {tu tw : TS} {g : TG} {D : Ends} {σ : L2.St} {H : Hp} {Q : VK} {r : R2}
theorem pl_cons {R : List V → Hp → Prop} (h : ta σ H fun x H1 => tr σ H1 fun xs H2 => R (x :: xs) H2) : tCons ta tr σ H R := h
theorem pl_nil {R : List V → Hp → Prop} (h : R [] H) : tNil σ H R := h
theorem pl_var {i : Nat} {v : V} (h : σ[i]? = some (some v)) (k : Q v H) : tVar i σ H Q := ⟨v, h, k⟩
theorem pl_op (h : ta σ H fun x H1 => tb σ H1 fun y H2 => r x y H2 Q) : tOp r ta tb σ H Q := h
theorem pl_tup (h : tr σ H fun xs H1 => xs.length ≤ sizeLine ∧ ∀ p, H1 p = none → Q (.ref p) (upd H1 p (.tup xs))) : tTup tr σ H Q := h
theorem pl_lst (h : tr σ H fun xs H1 => xs.length ≤ sizeLine ∧ ∀ p, H1 p = none → Q (.ref p) (upd H1 p (.lst xs))) : tLst tr σ H Q := h
theorem pl_seq (h : tu { D with nx := tw D } σ H) : tSeq tu tw D σ H := h
theorem pl_asg (h : te σ H fun x H1 => g x σ H1 D.nx) : tAsg te g D σ H := h
theorem pl_name {i : Nat} {v : V} {Z : L2.St → Hp → Prop} (h : Z (σ.set i (some v)) H) : gName i v σ H Z := h
theorem pl_if (h : tt σ H fun b H1 => if b = true then tu D σ H1 else tw D σ H1) : tIfS tt tu tw D σ H := h
theorem pl_test {R : Bool → Hp → Prop} (h : te σ H fun x H' => ∃ k, x = .bl k ∧ R k H') : tTest te σ H R := h
theorem pl_or {R : Bool → Hp → Prop} (h : tt σ H fun c H1 => if c = true then R true H1 else uu σ H1 R) : tOr tt uu σ H R := h
theorem pl_next (h : D.nx σ H) : tNext D σ H := h
theorem pl_ret (h : te σ H D.rt) : tRet te D σ H := h
theorem pl_then {k : V → Hp → VK → Prop} (h : te σ H fun x H1 => k x H1 Q) : tThen te k σ H Q := h
theorem pl_cb {rr : List V → Hp → VK → Prop} (h : tr σ H fun vs H1 => rr vs H1 Q) : tCB rr tr σ H Q := h
theorem pl_call {sp : Sp} {E : XK} (h : tr σ H fun vs H1 => sp (vs ++ []) H1 Q E) : tCall sp [] E tr σ H Q := h
theorem pl_call1 {sp : Sp} {E : XK} {i : Nat} {v : V} (h : σ[i]? = some (some v)) (k : sp [v] H Q E) : tCall sp [] E (tCons (tVar i) tNil) σ H Q := ⟨v, h, k⟩
theorem pl_call2 {sp : Sp} {E : XK} {i j : Nat} {v u : V} (h : σ[i]? = some (some v)) (h2 : σ[j]? = some (some u)) (k : sp [v, u] H Q E) : tCall sp [] E (tCons (tVar i) (tCons (tVar j) tNil)) σ H Q := ⟨v, h, u, h2, k⟩
theorem pl_callF {sp : Sp} {E : XK} {j : Nat} {u : V} (h : ta σ H fun x H1 => σ[j]? = some (some u) ∧ sp [x, u] H1 Q E) (m : ∀ (R R' : VK), (∀ x H1, R x H1 → R' x H1) → ta σ H R → ta σ H R') : tCall sp [] E (tCons ta (tCons (tVar j) tNil)) σ H Q :=
  m _ _ (fun x H1 z => ⟨u, z.1, z.2⟩) h
theorem pl_callL {sp : Sp} {E : XK} {i : Nat} {u : V} (h : σ[i]? = some (some u)) (k : ta σ H fun x H1 => sp [u, x] H1 Q E) : tCall sp [] E (tCons (tVar i) (tCons ta tNil)) σ H Q := ⟨u, h, k⟩
end
end
end Wo
/-! WoI -/
set_option maxRecDepth 100000
namespace Wo
open PySem PySem.Spec PyProof.Rows L2 WoR WoK
/-- of xs those that bs marks -/
def sel (xs : List Str) (bs : List Bool) : List Str := ((xs.zip bs).filter (·.2)).map (·.1)
theorem sel_take {xs : List Str} {bs : List Bool} {i : Nat} {x : Str} {b : Bool} (hx : xs[i]? = some x) (hb : bs[i]? = some b) : sel (xs.take (i + 1)) (bs.take (i + 1)) = if b = true then sel (xs.take i) (bs.take i) ++ [x] else sel (xs.take i) (bs.take i) := by
  obtain ⟨h1, e1⟩ := List.getElem?_eq_some_iff.mp hx
  obtain ⟨h2, e2⟩ := List.getElem?_eq_some_iff.mp hb
  unfold sel
  rw [List.take_add_one, List.take_add_one, hx, hb, Option.toList, Option.toList, List.zip_append (by rw [List.length_take, List.length_take]; omega), List.filter_append, List.map_append]
  cases b with
  | true => rfl
  | false => exact List.append_nil _
section
variable {P : Program} {w : World} {K : PySem.W.Frag}
    {mg : Str → Option Value} {base : Heap}
theorem lc_Z {H : Hp} {a b : Addr} {xs : List Str} {bs : List Bool} {e : V} {Q : VK} (ha : SqL K H a (xs.map V.str)) (hb : SqL K H b (bs.map V.bl)) (hl : xs.length = bs.length) (hz : xs.length ≤ 1000)
    (k : ∀ D H', H D = none → Same H H' → H' D = some (.lst ((sel xs bs).map V.str)) → Q (.ref D) H') :
    tLc (iZipE K (tCons (tVar 2) (tCons (tVar 1) tNil))) (gTup K 2 (gCons (gName 3) (gCons (gName 4) gNil))) (tB (tVar 4)) (tVar 3) [3, 4] [some e, some (.ref b), some (.ref a), none, none] H Q := by
  refine ⟨.ref a, rfl, .ref b, rfl, a, b, _, _, rfl, ha, hb, fun D hD => ?_⟩
  refine ⟨fun i m H' => m = xs.length - i ∧ i ≤ xs.length ∧ Same H H' ∧ H' D = some (.lst ((sel (xs.take i) (bs.take i)).map V.str)), ⟨xs.length, rfl, Nat.zero_le _, same_new hD, upd_same⟩, ?_⟩
  rintro i m H' ⟨rfl, hi, s1, eD⟩
  have ha' := Evl.ex_l (fun a o e => s1 a o e) ha
  have hb' := Evl.ex_l (fun a o e => s1 a o e) hb
  by_cases hlt : i < xs.length
  · have hx : (xs.map V.str)[i]? = some (.str xs[i]) := by rw [List.getElem?_map, List.getElem?_eq_getElem hlt]; rfl
    have hlb : i < bs.length := by omega
    have hy : (bs.map V.bl)[i]? = some (.bl bs[i]) := by rw [List.getElem?_map, List.getElem?_eq_getElem hlb]; rfl
    refine .inr ⟨⟨_, _, _, _, ha', hb', hx, hy⟩, fun H4 => Same H H4 ∧ H4 D = some (.lst ((sel (xs.take (i + 1)) (bs.take (i + 1))).map V.str)), fun H4 z => ⟨xs.length - (i + 1), by omega, rfl, hlt, z.1, z.2⟩, ?_⟩
    rintro v H2 ⟨T, x, y, rfl, nT, rfl, ex, ey⟩
    have ex := (ex _ ha').symm.trans hx
    have ey := (ey _ hb').symm.trans hy
    cases ex
    cases ey
    have nTD : D ≠ T := ne_of_none eD nT
    have eD2 : (upd H' T (.tup [V.str xs[i], V.bl bs[i]])) D = some (.lst ((sel (xs.take i) (bs.take i)).map V.str)) := by
      rw [upd_ne nTD]
      exact eD
    have s2 := s1.trans (same_new (o := .tup [V.str xs[i], V.bl bs[i]]) nT)
    have st := sel_take (List.getElem?_eq_getElem hlt) (List.getElem?_eq_getElem hlb)
    refine ⟨T, _, rfl, tl_of (.of upd_same), rfl, _, _, rfl, _, _, rfl, rfl, rfl, _, rfl, bs[i], rfl, ?_⟩
    cases hbi : bs[i] with
    | false =>
      rw [hbi] at st s2 eD2
      rw [st]
      exact ⟨s2, eD2⟩
    | true =>
      rw [hbi] at st s2 eD2
      refine ⟨_, rfl, _, eD2, ?_, same_mut s2 hD, ?_⟩
      · have h1 : (sel (xs.take i) (bs.take i)).length ≤ 1000 := by
          unfold sel
          rw [List.length_map]
          refine Nat.le_trans (List.length_filter_le _ _) ?_
          rw [List.length_zip, List.length_take, List.length_take]
          omega
        rw [List.length_map,
            sizeLine_eq]
        omega
      · rw [upd_same, st]
        show some (HO.lst _) = some (HO.lst _)
        rw [if_pos rfl, List.map_append]
        rfl
  · refine .inl ⟨⟨_, ha', by rw [List.length_map]; omega⟩, ?_⟩
    have e : i = xs.length := by omega
    subst e
    rw [List.take_length, List.take_of_length_le (by omega)] at eD
    exact k D H' hD s1 eD
def names10 : List Str := ["InvalidOrder", "InvalidMany", "InvalidExchange", "InvalidRow", "InvalidPairs", "InvalidCode", "InvalidNumber", "InvalidRings", "Unlike", "TooMany"]
def labels10 : List Str := ["order", "many", "exchange", "row", "pairs", "code", "number", "rings", "unlike", "toomany"]
/-- what isinstance says of the class D and the class that is called x -/
def IsIt (K : PySem.W.Frag) (mg : Str → Option Value) (D : Addr) (x : Str) (b : Bool) : Prop := ∃ c, mg x = some (.ref c) ∧ PySem.W.kitOne K (.ref D) (.ref c) = some b
structure Bits (K : PySem.W.Frag) (mg : Str → Option Value) (D : Addr) (b0 b1 b2 b3 b4 b5 b6 b7 b8 b9 : Bool) : Prop where
  h0 : IsIt K mg D "InvalidOrder" b0
  h1 : IsIt K mg D "InvalidMany" b1
  h2 : IsIt K mg D "InvalidExchange" b2
  h3 : IsIt K mg D "InvalidRow" b3
  h4 : IsIt K mg D "InvalidPairs" b4
  h5 : IsIt K mg D "InvalidCode" b5
  h6 : IsIt K mg D "InvalidNumber" b6
  h7 : IsIt K mg D "InvalidRings" b7
  h8 : IsIt K mg D "Unlike" b8
  h9 : IsIt K mg D "TooMany" b9
end
end Wo
/-! WoS -/
set_option maxRecDepth 100000
namespace WoK
open PySem PySem.Spec
    PyProof.Rows L2 LamX
/-- a lambda of the parameter a: no other name of its own -/
structure Lam1 (sc scope : Scope) (a : Str) : Prop where
  kind : scope.kind = .function
  co : scope.isCoroutine
      = false
  gen : scope.isGenerator
      = false
  own : ∀ y ∈ scope.names, (y.2 = .local → y.1 = a) ∧ y.2 ≠ .cell
  par : scope.names.lookup a = some .local
  free : ∀ y ∈ scope.names, y.2 = .free → sc.names.lookup y.1
      = some .cell ∨ sc.names.lookup y.1 = some .free
def lam1B (sc scope : Scope) (a : Str) : Bool :=
  decide (scope.kind = .function) && !scope.isCoroutine && !scope.isGenerator && decide (scope.names.lookup a = some .local) && scope.names.all fun y => (!decide (y.2 = .local) || decide (y.1 = a)) && !decide (y.2 = .cell) && (!decide (y.2 = .free) || decide (sc.names.lookup y.1 = some .cell) || decide (sc.names.lookup y.1 = some .free))
theorem lam1_by {sc scope : Scope} {a : Str} (h : lam1B sc scope a = true) : Lam1 sc scope a := by
  unfold lam1B at h
  simp only [Bool.and_eq_true, Bool.or_eq_true, Bool.not_eq_true',
      decide_eq_true_eq, decide_eq_false_iff_not, List.all_eq_true] at h
  obtain ⟨⟨⟨⟨h1, h2⟩, h3⟩, hp⟩, h4⟩ := h
  refine ⟨h1, h2, h3, fun y hy => ⟨fun e => ?_, (h4 y hy).1.2⟩, hp, fun y hy e => ?_⟩
  · exact (h4 y hy).1.1.resolve_left fun z => z e
  · rcases (h4 y hy).2 with (z | z) | z
    · exact absurd e z
    · exact .inl z
    · exact .inr z
theorem Lam1.has {X : Cx} {scope : Scope} {a : Str} (L : Lam1 X.env.scope scope a) (ok : X.Ok) : ∀ y ∈ scope.names, y.2 = .free → ∃ c, X.env.cells.lookup y.1 = some c :=
  fun y hy e => (L.free y hy e).elim (fun k => ok.has _ (.inl k)) fun k => ok.has _ (.inr k)
/-- its body's context -/
abbrev lamC1 (X : Cx) (A : Around) (outer : List Env) (s : Shared) (H : Hp) (E : XK) (scope : Scope) (f c' : Addr) : Cx :=
  { lamCx X A outer s H E scope f c' with xe := fun e s' => wpAny (model X.prog X.w) (A.deeper (lamEnv X scope s.heap.objs.size f c')) (leaving (lamEnv X scope s.heap.objs.size f c') e) (fun _ s'' => L2N.CX X.prog X.w outer H s E e s'') (fun e' s'' => L2N.CX X.prog X.w outer H s E e' s'') s' }
section
variable {X : Cx} {pins : List (Addr × Obj)} {σ
    : L2.St} {H HZ : Hp} {s s1 : Shared}
theorem lam_go {A : Around} {outer : List Env} {E : XK} {scope : Scope} {a : Str} {f c' : Addr} {h₁ : Heap} {tk i : Nat} {v : V} {u : Value} (I : Inv X pins σ H s) (L : Lam1 X.env.scope scope a) (hN : X.N.Nodup) (hi : X.N[i]? = some a) (rv : RelV v u)
    (e0 : Env0 X.prog X.w X.K X.mg X.base A outer s1 HZ) (hd : A.handled = none) (un : Un (frs X.stack) [] H HZ s.heap s1.heap) (hns : h₁.Ns s1.heap.objs.size fun y => [(a, u)].reverse.lookup y) (kp : ∀ b o, s1.heap.get? b = some o → h₁.get? b = some o) :
    Inv (lamC1 X A outer s1 HZ E scope f c') [] (σ.set i (some v)) HZ { s1 with heap := h₁, toks := tk } := by
  have has := L.has I.ok
  have old : ∀ {y c}, (cloFrom X.env.cells scope.names []).lookup y = some c → X.env.cells.lookup y = some c := by
    intro y c e
    rcases cloFrom_mem (PySem.mem_of_lookup e) with z | ⟨h1, h2⟩
    · cases z
    · obtain ⟨c1, q⟩ := has _ h1 rfl
      have q : X.env.cells.lookup y = some c1 := q
      rw [q] at h2
      rw [q]
      exact congrArg some h2.symm
  have found : ∀ {y}, scope.names.lookup y = some .free → ∃ c, (cloFrom X.env.cells scope.names []).lookup y = some c := fun {y} q =>
    mem_lookup (cloFrom_has (cells := X.env.cells) (acc := []) (PySem.mem_of_lookup q))
  have cell : ∀ {c : Addr} {z : Option Value}, H c = none → s.heap.IsCell c z → h₁.IsCell c z := by
    rintro c z n ⟨o, ho, hd⟩
    obtain ⟨sl, q⟩ := un.any
        ho n (by simp)
    exact ⟨_, kp _ _ q, hd⟩
  have none' : ∀ b : Addr, b ∉ ([] : List Addr) := fun b => by simp
  have ok : (lamC1 X A outer s1 HZ E scope f c').Ok := by
    refine ⟨e0.mod, L.kind, rfl, rfl, Nat.le_refl _, fun y z c e1 e2 => I.ok.inj y z c (old e1) (old e2), fun y hy => ?_, fun y c z _ => (by cases (show false = true from z)), fun _ => hd, Around.frames_deeper e0.frames, .inr ⟨rfl, rfl⟩,
      fun b z => absurd z (none' b), e0.bs, e0.bsz, fun b _ _ => none' b, fun b z => absurd z (none' b), e0.funs, e0.frf⟩
    rcases (show scope.names.lookup y = some .cell ∨ scope.names.lookup y = some .free from hy) with q | q
    · exact absurd rfl (L.own _ (PySem.mem_of_lookup q)).2
    · exact found q
  refine ⟨ok, rfl, e0.bare, Un.kept kp, ⟨_, hns, fun j y z e1 e2 e3 => ?_⟩, fun y c e => ?_, e0.hok.fresh (Nat.le_refl _), fun y c e => ?_, fun q hq => absurd (show q ∈ ([] : List (Addr × Obj)) ++ [] from hq) (by simp), e0.hok.kept kp, ?_⟩
  · rcases (show Vis scope y from e3) with k | k | k
    · have ey : y = a := (L.own _ (PySem.mem_of_lookup k)).1 rfl
      subst ey
      have ej : j = i := nodup_ix hN e1 hi
      subst ej
      have hj : j < σ.length := by
        rw [I.len]
        exact (List.getElem?_eq_some_iff.mp hi).1
      rw [List.getElem?_set_self hj] at e2
      cases e2
      exact ⟨u, rv, .inl ⟨k, by simp⟩⟩
    · exact absurd rfl (L.own _
        (PySem.mem_of_lookup k)).2
    · have hji : i ≠ j := by
        intro z
        subst z
        cases hi.symm.trans e1
        rw [L.par] at k
        cases k
      rw [List.getElem?_set_ne hji] at e2
      obtain ⟨m, hn, hl⟩ := I.loc
      obtain ⟨w', r, q⟩ := hl j y z e1 e2 ((L.free _ (PySem.mem_of_lookup k) rfl).elim (fun k => .inr (.inl k)) fun k => .inr (.inr k))
      obtain ⟨c2, h2⟩ := found k
      refine ⟨w', r, .inr ⟨.inr
          k, c2, h2, ?_⟩⟩
      rcases q with ⟨k',
          _⟩ | ⟨_, c3, e', z⟩
      · have k' : X.env.scope.names.lookup
          y = some .local := k'
        rcases L.free _ (PySem.mem_of_lookup k) rfl with k2 | k2 <;> cases k'.symm.trans k2
      · rw [old h2] at e'
        cases e'
        exact cell (I.freeC y _ (old h2)) z
  · obtain ⟨w', z⟩ := I.cell y c (old e)
    exact ⟨w', cell (I.freeC y c (old e)) z⟩
  · obtain ⟨z, o, ho, _⟩ := I.cell y c (old e)
    exact un.free c o ho (I.freeC y c (old e)) (none' c)
  · rw [List.length_set]
    exact I.len
/-- n(m) in a def that got the lambda, Z that def's context, entered at s -/
theorem pe_act1 {CXg : CXT} {Eg : XK} {Ng : List Str} {qg : Str} {sg : Scope} {g f c' : Addr} {cdg pm ctv : Value} {params : Arguments} {body : Expr} {scope : Scope} {k i iz jz : Nat} {a n m : Str} {pn : List (Addr × Obj)} {xe xw : Value → Shared → Prop} {W : WX} {t : XK → TE} {p1 p2 p3 : Pos}
    (I : Inv X pins σ H s) (L : Lam1 X.env.scope scope a) (hNX : X.N.Nodup) (hiX : X.N[i]? = some a) (hf : s.heap.get? f = some (PySem.W.kla_obj "<lambda>" (X.env.qual ++ "<lambda>") params body scope (cloFrom X.env.cells scope.names []) pm c' ctv)) (hfn : H f = none) (hfr : f ∉ frs X.stack)
    (hbind : ∀ u : Value, bindArgs (PySem.W.kla_fn "<lambda>" (X.env.qual ++ "<lambda>") params body scope (cloFrom X.env.cells scope.names []) pm (.ref c') ctv) ⟨[u], []⟩ = pure [(a, u)])
    (tk : L2N.Takes (((cxOf CXg X.prog X.w X.K X.mg X.base Ng qg sg g cdg X.A X.stack s H Eg).wish xw).tr pn xe) W) (hr : Room (k + 1) (X.A.deeper (envOfC qg sg s.heap.objs.size g cdg)))
    (hbody : ∀ (A : Around) (outer : List Env) (s : Shared) (H : Hp) (E : XK), Room k (A.deeper (lamEnv X scope s.heap.objs.size f c')) → PE (lamC1 X A outer s H E scope f c') body (t E))
    (hN : Ng[iz]? = some n) (hv : Vis sg n) (hd : (n == ("__debug__" : Str)) = false) (hcd : (n == ("__classdict__" : Str)) = false) (hN2 : Ng[jz]? = some m) (hv2 : Vis sg m) (hd2 : (m == ("__debug__" : Str)) = false) (hcd2 : (m == ("__classdict__" : Str)) = false) :
    PE (((cxOf CXg X.prog X.w X.K X.mg X.base Ng qg sg g cdg X.A X.stack s H Eg).wish xw).tr pn xe) (.Call (.Name n p1) [.Name m p2] [] p3)
      (fun σZ HZ Q => σZ[iz]? = some (some (.ref f)) ∧ ∃ x, σZ[jz]? = some (some x) ∧ HZ c' = some (CodeO c' (X.env.qual ++ "<lambda>")) ∧ t (WE W σZ) (σ.set i (some x)) HZ Q) := by
  constructor
  rintro pz sZ σZ HZ Q IZ ⟨hs, x, hx, hc, ht⟩
  refine wpAny_Call_Name_kw (thn ((pe_var (pos := p1) (i := iz) hN hv hd hcd).run pz sZ σZ HZ (fun v H1 => v = .ref f ∧ H1 = HZ) IZ ⟨.ref f, hs, rfl, rfl⟩) ?_)
  rintro u sa ⟨v, H1, Ia, r1, rfl, rfl⟩
  obtain rfl : u =
      Value.ref f := r1
  have there : ∀ {s' : Shared}, Inv (((cxOf CXg X.prog X.w X.K X.mg X.base Ng qg sg g cdg X.A X.stack s H Eg).wish xw).tr pn xe) pz σZ H1 s' → s'.heap.get? f = some (PySem.W.kla_obj "<lambda>" (X.env.qual ++ "<lambda>") params body scope (cloFrom X.env.cells scope.names []) pm c' ctv) :=
    fun J => J.base.keep f _ hf hfn hfr (fun z => nomatch (show f ∈ ([] : List Addr) from z))
  refine PySem.W.callWith_F (first := []) ⟨_, _, _, _, there Ia⟩ ?_ (by rfl) (by rfl)
  have pa : PA (((cxOf CXg X.prog X.w X.K X.mg X.base Ng qg sg g cdg X.A X.stack s H Eg).wish xw).tr pn xe) [.Name m p2] (tCons (tVar jz) tNil) := pa_cons (pe_var (pos := p2) (i := jz) hN2 hv2 hd2 hcd2) pa_nil
  refine thn (pa.run p3 pz sa σZ H1 (fun vs H2 => vs = [x] ∧ H2 = H1) Ia ⟨x, hx, rfl, rfl⟩) ?_
  rintro us sb ⟨vs, H2, Ib, rb, rfl, rfl⟩
  obtain ⟨u, rfl, ru⟩ := rb.one
  have ob := there Ib
  refine ⟨⟨_, _, _, _, ob⟩, ?_⟩
  have un : Un (frs X.stack) [] H H2 s.heap sb.heap := Ib.base
  obtain ⟨⟨oc, vs, tt, hoc, hdc, hvc⟩, _, _⟩ := Ib.hok c' _ hc
  have rc : codeAny (model X.prog X.w) (X.A.deeper (envOfC qg sg s.heap.objs.size g cdg)) (.call (.ref f) ⟨[u], []⟩) (CR (L2N.CX X.prog X.w) (envOfC qg sg s.heap.objs.size g cdg :: X.stack) X.prog X.w H2 sb Q (WE W σZ)) sb := by
    refine PySem.W.kla_callFunE hr.depth ob rfl L.co L.gen rfl ⟨c', oc, vs, tt, rfl, hoc, hdc, hvc⟩ ?_
    rw [hbind]
    refine wpAny_pure (wpAny_newFunctionEnv (fun y hy => (L.own y hy).2) (fun y hy => ?_) (fun h₁ hns hsb => ⟨Ib.nolimit.fresh _ hsb, ?_⟩) L.kind)
    · obtain rfl : y = (a, u) := by simpa using hy
      exact L.par
    · show codeAny _ _ (.expr body (lamEnv X scope sb.heap.objs.size f c')) _ _
      have J := lam_go (E := WE W σZ) (f := f) (c' := c') (tk := sb.toks + [(a, u)].length) I L hNX hiX ru Ib.env0 hr.hd un hns fun b o e => hsb.extBut b o (Nat.ne_of_lt (Heap.lt_size e)) (Heap.get?_push_of_some _ e)
      refine PySem.W.kla_codeExpr (wpAny_mono ((hbody _ _ sb H2 (WE W σZ) (hr.deeper _)).run [] _ _ H2 Q J ht) ?_ fun e s' hq => hq)
      rintro v s' ⟨w', H', J', rv, q⟩
      exact ⟨w', H', J'.os, J'.bare,
          J'.base, J'.hok, rv, q⟩
  refine wpAny_call (codeAny_mono
      rc fun r s' hq => ?_)
  match r, hq with
  | .error e, hq => exact L2N.passAt tk σZ pz H2 sb e s' Ib hq
  | .ok (.ret u), hq => exact Ib.after hq
  | .ok .next, hq => exact hq.elim
  | .ok .brk, hq => exact hq.elim
  | .ok .cont, hq => exact hq.elim
end
end WoK
/-! WzA -/
set_option maxRecDepth 100000
namespace WoK
open PySem PySem.Spec
    PyProof.Rows L2 LamX
/-- a lambda without parameters and names of its own -/
structure Lam0 (sc scope : Scope) : Prop where
  kind : scope.kind = .function
  co : scope.isCoroutine
      = false
  gen : scope.isGenerator
      = false
  own : ∀ y ∈ scope.names, y.2
      ≠ .local ∧ y.2 ≠ .cell
  free : ∀ y ∈ scope.names, y.2 = .free → sc.names.lookup y.1
      = some .cell ∨ sc.names.lookup y.1 = some .free
def lam0B (sc scope : Scope) : Bool :=
  decide (scope.kind = .function) && !scope.isCoroutine && !scope.isGenerator && scope.names.all fun y => !decide (y.2 = .local) && !decide (y.2 =
      .cell) && (!decide (y.2 = .free) || decide (sc.names.lookup y.1 = some .cell) || decide (sc.names.lookup y.1 = some .free))
theorem lam0_by {sc scope : Scope} (h : lam0B sc scope = true) : Lam0 sc scope := by
  unfold lam0B at h
  simp only [Bool.and_eq_true, Bool.or_eq_true, Bool.not_eq_true',
      decide_eq_true_eq, decide_eq_false_iff_not, List.all_eq_true] at h
  obtain ⟨⟨⟨h1, h2⟩,
      h3⟩, h4⟩ := h
  refine ⟨h1, h2, h3, fun y hy => ⟨(h4 y hy).1.1, (h4 y hy).1.2⟩, fun y hy e => ?_⟩
  rcases (h4 y hy).2
      with (z | z) | z
  · exact absurd e z
  · exact .inl z
  · exact .inr z
theorem Lam0.has {X : Cx} {scope : Scope} (L : Lam0 X.env.scope scope) (ok : X.Ok) : ∀ y ∈ scope.names, y.2 = .free → ∃ c, X.env.cells.lookup y.1 = some c :=
  fun y hy e => (L.free y hy e).elim (fun k => ok.has _ (.inl k)) fun k => ok.has _ (.inr k)
section
variable {X : Cx} {pins : List (Addr × Obj)} {σ
    : L2.St} {H HZ : Hp} {s s1 : Shared}
theorem lam_go0 {A : Around} {outer : List Env} {E : XK} {scope : Scope} {f c' : Addr} {h₁ : Heap} {tk : Nat} (I : Inv X pins σ H s) (L : Lam0 X.env.scope scope)
    (e0 : Env0 X.prog X.w X.K X.mg X.base A outer s1 HZ) (hd : A.handled = none) (un : Un (frs X.stack) [] H HZ s.heap s1.heap) (hns : h₁.Ns s1.heap.objs.size fun y => ([] : List (Str × Value)).reverse.lookup y) (kp : ∀ b o, s1.heap.get? b = some o → h₁.get? b = some o) :
    Inv (lamC1 X A outer s1 HZ E scope f c') [] σ HZ { s1 with heap := h₁, toks := tk } := by
  have has := L.has I.ok
  have old : ∀ {y c}, (cloFrom X.env.cells scope.names []).lookup y = some c → X.env.cells.lookup y = some c := by
    intro y c e
    rcases cloFrom_mem (PySem.mem_of_lookup e) with z | ⟨h1, h2⟩
    · cases z
    · obtain ⟨c1, q⟩ := has _ h1 rfl
      have q : X.env.cells.lookup y = some c1 := q
      rw [q] at h2
      rw [q]
      exact congrArg some h2.symm
  have found : ∀ {y}, scope.names.lookup y = some .free → ∃ c, (cloFrom X.env.cells scope.names []).lookup y = some c := fun {y} q =>
    mem_lookup (cloFrom_has (cells := X.env.cells) (acc := []) (PySem.mem_of_lookup q))
  have cell : ∀ {c : Addr} {z : Option Value}, H c = none → s.heap.IsCell c z → h₁.IsCell c z := by
    rintro c z n ⟨o, ho, hd⟩
    obtain ⟨sl, q⟩ := un.any
        ho n (by simp)
    exact ⟨_, kp _ _ q, hd⟩
  have none' : ∀ b : Addr, b ∉ ([] : List Addr) := fun b => by simp
  have ok : (lamC1 X A outer s1 HZ E scope f c').Ok := by
    refine ⟨e0.mod, L.kind, rfl, rfl, Nat.le_refl _, fun y z c e1 e2 => I.ok.inj y z c (old e1) (old e2), fun y hy => ?_, fun y c z _ => (by cases (show false = true from z)), fun _ => hd, Around.frames_deeper e0.frames, .inr ⟨rfl, rfl⟩,
      fun b z => absurd z (none' b), e0.bs, e0.bsz, fun b _ _ => none' b, fun b z => absurd z (none' b), e0.funs, e0.frf⟩
    rcases (show scope.names.lookup y = some .cell ∨ scope.names.lookup y = some .free from hy) with q | q
    · exact absurd rfl (L.own _ (PySem.mem_of_lookup q)).2
    · exact found q
  refine ⟨ok, rfl, e0.bare, Un.kept kp, ⟨_, hns, fun j y z e1 e2 e3 => ?_⟩, fun y c e => ?_, e0.hok.fresh (Nat.le_refl _), fun y c e => ?_, fun q hq => absurd (show q ∈ ([] : List (Addr × Obj)) ++ [] from hq) (by simp), e0.hok.kept kp, ?_⟩
  · rcases (show Vis scope y from e3) with k | k | k
    · exact absurd rfl (L.own _
        (PySem.mem_of_lookup k)).1
    · exact absurd rfl (L.own _
        (PySem.mem_of_lookup k)).2
    · obtain ⟨m, hn, hl⟩ := I.loc
      obtain ⟨w', r, q⟩ := hl j y z e1 e2 ((L.free _ (PySem.mem_of_lookup k) rfl).elim (fun k => .inr (.inl k)) fun k => .inr (.inr k))
      obtain ⟨c2, h2⟩ := found k
      refine ⟨w', r, .inr ⟨.inr
          k, c2, h2, ?_⟩⟩
      rcases q with ⟨k',
          _⟩ | ⟨_, c3, e', z⟩
      · have k' : X.env.scope.names.lookup
          y = some .local := k'
        rcases L.free _ (PySem.mem_of_lookup k) rfl with k2 | k2 <;> cases k'.symm.trans k2
      · rw [old h2] at e'
        cases e'
        exact cell (I.freeC y _ (old h2)) z
  · obtain ⟨w', z⟩ := I.cell y c (old e)
    exact ⟨w', cell (I.freeC y c (old e)) z⟩
  · obtain ⟨z, o, ho, _⟩ := I.cell y c (old e)
    exact un.free c o ho (I.freeC y c (old e)) (none' c)
  · exact I.len
/-- n() in a def that got the lambda, Z that def's context, entered at s -/
theorem pe_act0 {CXg : CXT} {Eg : XK} {Ng : List Str} {qg : Str} {sg : Scope} {g f c' : Addr} {cdg pm ctv : Value} {params : Arguments} {body : Expr} {scope : Scope} {k iz : Nat} {n : Str} {pn : List (Addr × Obj)} {xe xw : Value → Shared → Prop} {W : WX} {t : XK → TE} {p1 p3 : Pos}
    (I : Inv X pins σ H s) (L : Lam0 X.env.scope scope) (hf : s.heap.get? f = some (PySem.W.kla_obj "<lambda>" (X.env.qual ++ "<lambda>") params body scope (cloFrom X.env.cells scope.names []) pm c' ctv)) (hfn : H f = none) (hfr : f ∉ frs X.stack)
    (hbind : bindArgs (PySem.W.kla_fn "<lambda>" (X.env.qual ++ "<lambda>") params body scope
        (cloFrom X.env.cells scope.names []) pm (.ref c') ctv) ⟨[], []⟩ = pure [])
    (tk : L2N.Takes (((cxOf CXg X.prog X.w X.K X.mg X.base Ng qg sg g cdg X.A X.stack s H Eg).wish xw).tr pn xe) W) (hr : Room (k + 1) (X.A.deeper (envOfC qg sg s.heap.objs.size g cdg)))
    (hbody : ∀ (A : Around) (outer : List Env) (s : Shared) (H : Hp) (E : XK), Room k (A.deeper (lamEnv X scope s.heap.objs.size f c')) → PE (lamC1 X A outer s H E scope f c') body (t E))
    (hN : Ng[iz]? = some n) (hv : Vis sg n) (hd : (n == ("__debug__" : Str)) = false) (hcd : (n == ("__classdict__" : Str)) = false) :
    PE (((cxOf CXg X.prog X.w X.K X.mg X.base Ng qg sg g cdg X.A X.stack s H Eg).wish xw).tr pn xe) (.Call (.Name n p1) [] [] p3)
      (fun σZ HZ Q => σZ[iz]? = some (some (.ref f)) ∧ HZ c' = some (CodeO c' (X.env.qual ++ "<lambda>")) ∧ t (WE W σZ) σ HZ Q) := by
  constructor
  rintro pz sZ σZ HZ Q IZ ⟨hs, hc, ht⟩
  refine wpAny_Call_Name_kw (thn ((pe_var (pos := p1) (i := iz) hN hv hd hcd).run pz sZ σZ HZ (fun v H1 => v = .ref f ∧ H1 = HZ) IZ ⟨.ref f, hs, rfl, rfl⟩) ?_)
  rintro u sb ⟨v, H2, Ib, r1, rfl, rfl⟩
  obtain rfl : u =
      Value.ref f := r1
  have ob : sb.heap.get? f = some (PySem.W.kla_obj "<lambda>" (X.env.qual ++ "<lambda>") params body scope (cloFrom X.env.cells scope.names []) pm c' ctv) :=
    Ib.base.keep f _ hf hfn hfr (fun z => nomatch (show f ∈ ([] : List Addr) from z))
  refine PySem.W.callWith_F0 (first := []) ⟨_, _, _, _, ob⟩ ?_
  have un : Un (frs X.stack) [] H H2 s.heap sb.heap := Ib.base
  obtain ⟨⟨oc, vs, tt, hoc, hdc, hvc⟩, _, _⟩ := Ib.hok c' _ hc
  have rc : codeAny (model X.prog X.w) (X.A.deeper (envOfC qg sg s.heap.objs.size g cdg)) (.call (.ref f) ⟨[], []⟩) (CR (L2N.CX X.prog X.w) (envOfC qg sg s.heap.objs.size g cdg :: X.stack) X.prog X.w H2 sb Q (WE W σZ)) sb := by
    refine PySem.W.kla_callFunE hr.depth ob rfl L.co L.gen rfl ⟨c', oc, vs, tt, rfl, hoc, hdc, hvc⟩ ?_
    rw [hbind]
    refine wpAny_pure (wpAny_newFunctionEnv (fun y hy => (L.own y hy).2) (fun y hy => nomatch hy) (fun h₁ hns hsb => ⟨Ib.nolimit.fresh _ hsb, ?_⟩) L.kind)
    show codeAny _ _ (.expr body (lamEnv X scope sb.heap.objs.size f c')) _ _
    have J := lam_go0 (E := WE W σZ) (f := f) (c' := c') (tk := sb.toks + ([] : List (Str × Value)).length) I L Ib.env0 hr.hd un hns fun b o e => hsb.extBut b o (Nat.ne_of_lt (Heap.lt_size e)) (Heap.get?_push_of_some _ e)
    refine PySem.W.kla_codeExpr (wpAny_mono ((hbody _ _ sb H2 (WE W σZ) (hr.deeper _)).run [] _ _ H2 Q J ht) ?_ fun e s' hq => hq)
    rintro v s' ⟨w', H', J', rv, q⟩
    exact ⟨w', H', J'.os, J'.bare,
        J'.base, J'.hok, rv, q⟩
  refine wpAny_call (codeAny_mono
      rc fun r s' hq => ?_)
  match r, hq with
  | .error e, hq => exact L2N.passAt tk σZ pz H2 sb e s' Ib hq
  | .ok (.ret u), hq => exact Ib.after hq
  | .ok .next, hq => exact hq.elim
  | .ok .brk, hq => exact hq.elim
  | .ok .cont, hq => exact hq.elim
end
end WoK
/-! WzN -/
set_option maxRecDepth 100000
namespace Wo
open PySem PySem.Spec PyProof.Rows L2 WoR WoK LamX
def labelsZ : List Str := ["order", "things", "number", "word", "pattern", "patterns", "places", "many", "value"]
/-- what isinstance says of the class D and the class that is called x -/
def IsZ (K : PySem.W.Frag) (mg : Str → Option Value) (D : Addr) (x : Str) (b : Bool) : Prop := ∃ c, mg x = some (.ref c) ∧ PySem.W.kitOne K (.ref D) (.ref c) = some b
structure BitsZ (K : PySem.W.Frag) (mg : Str → Option Value) (D : Addr) (b0 b1 b2 b3 b4 b5 b6 b7 : Bool) : Prop where
  h0 : IsZ K mg D "InvalidOrder" b0
  h1 : IsZ K mg D "InvalidMany" b1
  h2 : IsZ K mg D "InvalidNumber" b2
  h3 : IsZ K mg D "InvalidWord" b3
  h4 : IsZ K mg D "InvalidPattern" b4
  h5 : IsZ K mg D "InvalidPatterns" b5
  h6 : IsZ K mg D "InvalidPlaces" b6
  h7 : IsZ K mg D "TooMany" b7
  hv : PySem.W.kitOne K (.ref D) (.type "ValueError") = some true
abbrev sNm : Stmt := topS 28
abbrev nmN : List Str := ["_law_e", "_law_some_here", "_law_labels", "_law_label", "_law_good"]
theorem scNm : FnScope nmN ["_law_e"] (defScope sNm) := ⟨rfl, rfl, rfl, by decide +kernel, rfl, by decide +kernel, by decide +kernel⟩
/-- the law's word for the error that is handled -/
def NameZ (K : PySem.W.Frag) (mg : Str → Option Value) (D : Addr) (lab : Str) : Prop := ExcC K D ∧ ∃ b0 b1 b2 b3 b4 b5 b6 b7, BitsZ K mg D b0 b1 b2 b3 b4 b5 b6 b7 ∧ Txt.join " " (sel labelsZ [b0, b1, b2, b3, b4, b5, b6, b7, true]) = lab
def spNm (K : PySem.W.Frag) (mg : Str → Option Value) : Addr × Obj → Sp := fun p vs H Q _ => vs = [.ref p.1] ∧ ∃ D lab, Zc (.ref D) none p.2 ∧ (∃ us, p.2.data = .fields us) ∧ NameZ K mg D lab ∧ ∀ H', Same H H' → Q (.str lab) H'
theorem selZ_small (bs : List Bool) : ((sel labelsZ bs).map (·.length)).sum + (sel labelsZ bs).length * (" " : Str).length ≤ 16777216 := by
  have key : ∀ l : List (Str × Bool), (∀ p ∈ l, p.1.length ≤ 100) → ((((l.filter (·.2)).map (·.1)).map (·.length)).sum + ((l.filter (·.2)).map (·.1)).length * (" " : Str).length ≤ l.length * 200) := by
    intro l h
    induction l with
    | nil => simp
    | cons p l ih =>
      have h1 := h p List.mem_cons_self
      have ih := ih fun q hq => h q (List.mem_cons_of_mem _ hq)
      have e1 : (" " : Str).length = 1 := rfl
      rw [e1] at ih ⊢
      cases hp : p.2 with
      | false =>
        rw [List.filter_cons_of_neg (p := fun x : Str × Bool => x.2) (by rw [hp]; exact Bool.false_ne_true)]
        rw [List.length_cons]
        omega
      | true =>
        rw [List.filter_cons_of_pos (p := fun x : Str × Bool => x.2) hp, List.map_cons, List.map_cons, List.sum_cons, List.length_cons, List.length_cons]
        omega
  have hl : ∀ p ∈ labelsZ.zip bs, p.1.length ≤ 100 := by
    intro p hp
    have h2 : p.1 ∈ labelsZ := (List.of_mem_zip (show (p.1, p.2) ∈ labelsZ.zip bs from hp)).1
    revert h2
    generalize p.1 = q
    intro h2
    have : ∀ q ∈ labelsZ, q.length ≤ 100 := by decide +kernel
    exact this q h2
  have := key _ hl
  have h3 : (labelsZ.zip bs).length ≤ 9 := by
    rw [List.length_zip]
    exact Nat.min_le_left _ _
  unfold sel
  omega
theorem lc_Z2 {H0 : Hp} {K : PySem.W.Frag} {b : Addr} {xs : List Str} {bs : List Bool} {e z : V} {t1 : TE} {Q : VK} (h1 : ∀ R : VK, (∀ p, H0 p = none → R (.ref p) (upd H0 p (.lst (xs.map V.str)))) → t1 [some e, some (.ref b), some z, none, none] H0 R) (hb0 : SqL K H0 b (bs.map V.bl)) (hl : xs.length = bs.length) (hz : xs.length ≤ 1000)
    (k0 : ∀ D H', H0 D = none → Same H0 H' → H' D = some (.lst ((sel xs bs).map V.str)) → Q (.ref D) H') :
    tLc (iZipE K (tCons t1 (tCons (tVar 1) tNil))) (gTup K 2 (gCons (gName 3) (gCons (gName 4) gNil))) (tB (tVar 4)) (tVar 3) [3, 4] [some e, some (.ref b), some z, none, none] H0 Q := by
  refine h1 _ fun a na => ?_
  generalize hH : upd H0 a (.lst (xs.map V.str)) = H
  have sm : Same H0 H := by
    rw [← hH]
    exact same_new na
  have ha : SqL K H a (xs.map V.str) := by
    rw [← hH]
    exact ll_of upd_same
  have hb : SqL K H b (bs.map V.bl) := Evl.ex_l (fun a o e => sm a o e) hb0
  have k : ∀ D H', H D = none → Same H H' → H' D = some (.lst ((sel xs bs).map V.str)) → Q (.ref D) H' := fun D H' n s e => k0 D H' (sm.free n) (sm.trans s) e
  refine ⟨.ref b, rfl, a, b, _, _, rfl, ha, hb, fun D hD => ?_⟩
  refine ⟨fun i m H' => m = xs.length - i ∧ i ≤ xs.length ∧ Same H H' ∧ H' D = some (.lst ((sel (xs.take i) (bs.take i)).map V.str)), ⟨xs.length, rfl, Nat.zero_le _, same_new hD, upd_same⟩, ?_⟩
  rintro i m H' ⟨rfl, hi, s1, eD⟩
  have ha' := Evl.ex_l (fun a o e => s1 a o e) ha
  have hb' := Evl.ex_l (fun a o e => s1 a o e) hb
  by_cases hlt : i < xs.length
  · have hx : (xs.map V.str)[i]? = some (.str xs[i]) := by rw [List.getElem?_map, List.getElem?_eq_getElem hlt]; rfl
    have hlb : i < bs.length := by omega
    have hy : (bs.map V.bl)[i]? = some (.bl bs[i]) := by rw [List.getElem?_map, List.getElem?_eq_getElem hlb]; rfl
    refine .inr ⟨⟨_, _, _, _, ha', hb', hx, hy⟩, fun H4 => Same H H4 ∧ H4 D = some (.lst ((sel (xs.take (i + 1)) (bs.take (i + 1))).map V.str)), fun H4 z => ⟨xs.length - (i + 1), by omega, rfl, hlt, z.1, z.2⟩, ?_⟩
    rintro v H2 ⟨T, x, y, rfl, nT, rfl, ex, ey⟩
    have ex := (ex _ ha').symm.trans hx
    have ey := (ey _ hb').symm.trans hy
    cases ex
    cases ey
    have nTD : D ≠ T := ne_of_none eD nT
    have eD2 : (upd H' T (.tup [V.str xs[i], V.bl bs[i]])) D = some (.lst ((sel (xs.take i) (bs.take i)).map V.str)) := by
      rw [upd_ne nTD]
      exact eD
    have s2 := s1.trans (same_new (o := .tup [V.str xs[i], V.bl bs[i]]) nT)
    have st := sel_take (List.getElem?_eq_getElem hlt) (List.getElem?_eq_getElem hlb)
    refine ⟨T, _, rfl, tl_of (.of upd_same), rfl, _, _, rfl, _, _, rfl, rfl, rfl, _, rfl, bs[i], rfl, ?_⟩
    cases hbi : bs[i] with
    | false =>
      rw [hbi] at st s2 eD2
      rw [st]
      exact ⟨s2, eD2⟩
    | true =>
      rw [hbi] at st s2 eD2
      refine ⟨_, rfl, _, eD2, ?_, same_mut s2 hD, ?_⟩
      · have h1 : (sel (xs.take i) (bs.take i)).length ≤ 1000 := by
          unfold sel
          rw [List.length_map]
          refine Nat.le_trans (List.length_filter_le _ _) ?_
          rw [List.length_zip, List.length_take, List.length_take]
          omega
        rw [List.length_map,
            sizeLine_eq]
        omega
      · rw [upd_same, st]
        show some (HO.lst _) = some (HO.lst _)
        rw [if_pos rfl, List.map_append]
        rfl
  · refine .inl ⟨⟨_, ha', by rw [List.length_map]; omega⟩, ?_⟩
    have e : i = xs.length := by omega
    subst e
    rw [List.take_length, List.take_of_length_le (by omega)] at eD
    exact k D H' hD s1 eD
section
variable {P : Program} {w : World} {K : PySem.W.Frag}
    {mg : Str → Option Value} {base : Heap}
theorem pl_nx {Z : L2.St → Hp → Prop} {r : VK} {b c : L2.St → Hp → Prop} {σ : L2.St} {H : Hp} (h : Z σ H) : (Ends.nx { nx := Z, rt := r, bk := b, ct := c }) σ H := h
theorem pl_is {c D a : Addr} {b : Bool} {σ : L2.St} {H : Hp} {Q : VK} (h : σ[0]? = some (some (.ref a))) (hk : PySem.W.kitOne K (.ref D) (.ref c) = some b) (k : Q (.bl b) H) : tCB (rIsE K D a) (tCons (tVar 0) (tCons (tC (.ref c)) tNil)) σ H Q :=
  ⟨_, h, .ref c, .ref c, b, rfl, fun u r => r, hk, k⟩
theorem pl_isT {D a : Addr} {b : Bool} {σ : L2.St} {H : Hp} {Q : VK} (h : σ[0]? = some (some (.ref a))) (hk : PySem.W.kitOne K (.ref D) (.type "ValueError") = some b) (k : Q (.bl b) H) : tCB (rIsE K D a) (tCons (tVar 0) (tCons (tC (.ty "ValueError")) tNil)) σ H Q :=
  ⟨_, h, .ty "ValueError", .type "ValueError", b, rfl, fun u r => r, hk, k⟩
theorem ok_nm {f : Addr} {fd : FuncData} (F : Fun K "_law_names" "_law_names" sNm f fd) (T : Bi mg) (vE : mg "ValueError" = none) : FnZ P w K mg base CX0 1 f fd ["_law_e"] (spNm K mg) := by
  obtain ⟨oc, od, kV', doc, pm, an, cdv,
      ct, osl, rfl, lk, hcd⟩ := F.ex
  refine fn_ofZ lk hcd scNm (fun p vs H Q E h => ?_) fun A outer s H vs Q E p hot hr h => ?_
  · obtain ⟨rfl, _⟩ := h
    rfl
  · obtain ⟨rfl, D, lab, hz, hf, ⟨C, b0, b1, b2, b3, b4, b5, b6, b7, B, hlab⟩, q⟩ := h
    obtain ⟨c0, g0, k0⟩ := B.h0
    obtain ⟨c1, g1, k1⟩ := B.h1
    obtain ⟨c2, g2, k2⟩ := B.h2
    obtain ⟨c3, g3, k3⟩ := B.h3
    obtain ⟨c4, g4, k4⟩ := B.h4
    obtain ⟨c5, g5, k5⟩ := B.h5
    obtain ⟨c6, g6, k6⟩ := B.h6
    obtain ⟨c7, g7, k7⟩ := B.h7
    have kV := B.hv
    have hc : L2H.HotC (L2H.cxH CX0 P w K mg base nmN "_law_names" (defScope sNm) f cdv A outer s H E p) := ⟨p, hot, List.mem_singleton_self p⟩
    have hm : p ∈ (L2H.cxH CX0 P w K mg base nmN "_law_names" (defScope sNm) f cdv A outer s H E p).pn := List.mem_singleton_self p
    refine ⟨_, pss_cons (ps_set (i := 1) scNm.nd rfl (.inl rfl) (pe_lst (pa_cons (pe_callB (call_isH C hm hz hf) (by rfl) T.isinstance (by decide +kernel) (pa_cons (pv 0) (pa_cons (pe_glob (v := .ref c0) (by rfl) g0 rfl) pa_nil))) (pa_cons (pe_callB (call_isH C hm hz hf) (by rfl) T.isinstance (by decide +kernel) (pa_cons (pv 0) (pa_cons (pe_glob (v := .ref c1) (by rfl) g1 rfl) pa_nil))) (pa_cons (pe_callB (call_isH C hm hz hf) (by rfl) T.isinstance (by decide +kernel) (pa_cons (pv 0) (pa_cons (pe_glob (v := .ref c2) (by rfl) g2 rfl) pa_nil))) pa_nil)))))
      (pss_cons (ps_set (i := 1) scNm.nd rfl (.inl rfl) (pe_op op_catS (pv 1) (pe_lst (pa_cons (pe_callB (call_isH C hm hz hf) (by rfl) T.isinstance (by decide +kernel) (pa_cons (pv 0) (pa_cons (pe_glob (v := .ref c3) (by rfl) g3 rfl) pa_nil))) (pa_cons (pe_callB (call_isH C hm hz hf) (by rfl) T.isinstance (by decide +kernel) (pa_cons (pv 0) (pa_cons (pe_glob (v := .ref c4) (by rfl) g4 rfl) pa_nil))) (pa_cons (pe_callB (call_isH C hm hz hf) (by rfl) T.isinstance (by decide +kernel) (pa_cons (pv 0) (pa_cons (pe_glob (v := .ref c5) (by rfl) g5 rfl) pa_nil))) pa_nil))))))
      (pss_cons (ps_set (i := 1) scNm.nd rfl (.inl rfl) (pe_op op_catS (pv 1) (pe_lst (pa_cons (pe_callB (call_isH C hm hz hf) (by rfl) T.isinstance (by decide +kernel) (pa_cons (pv 0) (pa_cons (pe_glob (v := .ref c6) (by rfl) g6 rfl) pa_nil))) (pa_cons (pe_callB (call_isH C hm hz hf) (by rfl) T.isinstance (by decide +kernel) (pa_cons (pv 0) (pa_cons (pe_glob (v := .ref c7) (by rfl) g7 rfl) pa_nil))) (pa_cons (pe_callB (call_isH C hm hz hf) (by rfl) T.isinstance (by decide +kernel) (pa_cons (pv 0) (pa_cons (pe_bltn (v := .ty "ValueError") (by rfl) vE (by decide +kernel) rfl) pa_nil))) pa_nil))))))
      (pss_cons (ps_set (i := 2) scNm.nd rfl (.inl rfl) pe_str)
      (pss_one (ps_ret (pe_join pe_str (pe_lcH (own := [("_law_label", 3), ("_law_good", 4)]) (g := gTup K 2 (gCons (gName 3) (gCons (gName 4) gNil))) (tt := tB (tVar 4)) (te := tVar 3) hc scNm.nd (pi_zipH (by rfl) T.zip (pa_cons (pe_split (pv 2) pe_str) (pa_cons (pv 1) pa_nil))) (blkOk_by (N := nmN) (sc := defScope sNm) (by decide +kernel)) (fun _ _ _ _ _ => pg_tupH (hot_blk hc) (pgs_cons (pg_name (i := 3) scNm.nd rfl (Or.inl rfl)) (pgs_cons (pg_name (i := 4) scNm.nd rfl (Or.inl rfl)) pgs_nil))) (fun _ _ _ _ _ => pts_one (pt_val (pv 4))) (fun _ _ _ _ _ => pv 3)))))))), ?_⟩
    refine pl_seq (pl_asg (pl_lst (pl_cons (pl_is rfl k0 (pl_cons (pl_is rfl k1 (pl_cons (pl_is rfl k2 (pl_nil ⟨by show 3 ≤ sizeLine; decide, fun l1 n1 => pl_name (pl_nx ?_)⟩)))))))))
    refine pl_seq (pl_asg (pl_op (pl_var rfl (pl_lst (pl_cons (pl_is rfl k3 (pl_cons (pl_is rfl k4 (pl_cons (pl_is rfl k5 (pl_nil ⟨by show 3 ≤ sizeLine; decide, fun l2 n2 => ⟨l1, l2, _, _, rfl, rfl, ll_of (same_new n2 _ _ upd_same), ll_of upd_same, by show 3 + 3 ≤ 100000; decide, fun l3 n3 => pl_name (pl_nx ?_)⟩⟩)))))))))))
    refine pl_seq (pl_asg (pl_op (pl_var rfl (pl_lst (pl_cons (pl_is rfl k6 (pl_cons (pl_is rfl k7 (pl_cons (pl_isT rfl kV (pl_nil ⟨by show 3 ≤ sizeLine; decide, fun l4 n4 => ⟨l3, l4, _, _, rfl, rfl, ll_of (same_new n4 _ _ upd_same), ll_of upd_same, by show 6 + 3 ≤ 100000; decide, fun l5 n5 => pl_name (pl_nx ?_)⟩⟩)))))))))))
    refine pl_seq (pl_asg (pl_name (pl_nx ?_)))
    refine pl_ret ⟨⟨_, rfl⟩, lc_Z2 (xs := labelsZ) (bs := [b0, b1, b2, b3, b4, b5, b6, b7, true]) (fun R hR => ⟨.str "order things number word pattern patterns places many value", rfl, ⟨_, rfl⟩, _, _, rfl, rfl, rfl, by show 59 + 2 ≤ sizeLine; rw [sizeLine_eq]; decide, fun l n => ?_⟩) (ll_of upd_same) rfl (by decide) fun D' H' nD sD eD => ⟨_, D', _, rfl, rfl, .inl (ll_of eD), selZ_small _, ?_⟩⟩
    · have e : Txt.split "order things number word pattern patterns places many value" " " = labelsZ := by decide +kernel
      rw [e]
      exact hR l n
    · rw [hlab]
      exact q H' (Same.trans (Same.trans (Same.trans (Same.trans (Same.trans (same_new n1) (same_new n2)) (same_new n3)) (same_new n4)) (same_new n5)) sD)
end
end Wo
/-! WzW -/
set_option maxRecDepth 100000
namespace Wo
open PySem PySem.Spec PyProof.Rows L2 WoR WoK LamX
abbrev wdN : List Str := ["_law_call", "_law_e"]
abbrev sWd : Stmt := topS 29
theorem scWd : FnScope wdN ["_law_call"] (defScope sWd) := ⟨rfl, rfl, rfl, by decide +kernel, rfl, by decide +kernel, by decide +kernel⟩
/-- called, it returns, or raises an error of the class that out tells -/
def CalOk0 (cal : Hp → VK → XK → Prop) (H : Hp) (out : Option Addr) : Prop := ∀ (Q : VK) (E : XK), (out = none → ∀ v H2, Same H H2 → Q v H2) → (∀ D, out = some D → ∀ H2, Same H H2 → E (.ref D) none H2) → cal H Q E
def wlab0 (out : Option Addr) (lab : Addr → Str) : Str := match out with
  | none => ""
  | some D => lab D
theorem weakE {X : Cx} {e : Expr} {t t' : TE} (h : PE X e t) (w : ∀ σ H Q, t' σ H Q → t σ H Q) : PE X e t' := ⟨fun pins s σ H Q I q => h.run pins s σ H Q I (w _ _ _ q)⟩
def tNmZ (K : PySem.W.Frag) (mg : Str → Option Value) (a : Addr) (cls : Value) (d : Option Addr) : TE := fun σ H Q => σ[1]? = some (some (.ref a)) ∧ ∃ D lab, cls = .ref D ∧ d = none ∧ NameZ K mg D lab ∧ ∀ H', Same H H' → Q (.str lab) H'
section
variable {P : Program} {w : World} {K : PySem.W.Frag}
    {mg : Str → Option Value} {base : Heap}
theorem takesNo {X : Cx} : L2N.Takes X (fun _ _ _ _ => False) := fun _ _ ⟨_, _, _, _, _, _, _, _, _, _, _, _, _, _, _, _, z⟩ => z.elim
theorem pe_nmZ {X : Cx} {a fN : Addr} {fdN : FuncData} {oe : Obj} {cls : Value} {d : Option Addr} {pn : List (Addr × Obj)} {p1 p2 p3 : Pos} (hz : L2N.Zn cls d oe) (hf : ∃ vs, oe.data = .fields vs) (hN1 : X.N[1]? = some ("_law_e" : Str)) (hv : Vis X.env.scope "_law_e") (hr : Room 1 X.A)
    (N : FnZ X.prog X.w X.K X.mg X.base CX0 1 fN fdN ["_law_e"] (spNm X.K X.mg)) (hg : Gl X "_law_names") (gN : X.mg "_law_names" = some (.ref fN)) (kN : PySem.W.keepIn X.K (.ref fN) = true) (bN : Binds X.K fdN ["_law_e"] []) :
    PE (X.suite a ((a, oe) :: pn)) (.Call (.Name "_law_names" p1) [.Name "_law_e" p2] [] p3) (tNmZ X.K X.mg a cls d) := by
  obtain ⟨us, hu⟩ := hf
  refine weakE (pe_callZ (p := (a, oe)) (E := fun _ => E0) N ⟨hr.dp, hr.un⟩ ⟨rfl, us, hu, hz.2.2 us hu⟩ List.mem_cons_self hg gN kN bN (fun _ _ _ _ _ _ _ z => z.elim) (pa_cons (pe_var (X := X.suite a ((a, oe) :: pn)) hN1 hv) pa_nil)) ?_
  rintro σ H Q ⟨h4, D, lab, rfl, rfl, hn, k⟩
  exact ⟨_, h4, rfl, D, lab, hz.zc, ⟨us, hu⟩, hn, k⟩
theorem word_body {cal : Hp → VK → XK → Prop} {fc g COE fN : Addr} {fdN : FuncData} {out : Option Addr} {lab : Addr → Str} {cdv : Value} {A : Around} {outer : List Env} {s : Shared} {H : Hp} {Q : VK} {E : XK}
    (gE : mg "OrderError" = some (.ref COE)) (N : FnZ P w K mg base CX0 1 fN fdN ["_law_e"] (spNm K mg)) (gN : mg "_law_names" = some (.ref fN)) (kN : PySem.W.keepIn K (.ref fN) = true) (bN : Binds K fdN ["_law_e"] [])
    (hr : Room 1 (A.deeper (envOfC "_law_error" (defScope sWd) s.heap.objs.size g cdv)))
    (hcal : ∀ (W : WX) (pn : List (Addr × Obj)) (xe : Value → Shared → Prop) (p1 p3 : Pos), L2N.Takes ((cxOf CX0 P w K mg base wdN "_law_error" (defScope sWd) g cdv A outer s H E).nox.tr pn xe) W →
      PE ((cxOf CX0 P w K mg base wdN "_law_error" (defScope sWd) g cdv A outer s H E).nox.tr pn xe) (.Call (.Name "_law_call" p1) [] [] p3) (fun σ H Q => σ[0]? = some (some (.ref fc)) ∧ cal H Q (WE W σ)))
    (ho : ∀ D, out = some D → NameZ K mg D (lab D) ∧ PySem.W.exmOne K (.ref D) (.ref COE) = some true) (hc : CalOk0 cal H out)
    (k : ∀ H', Same H H' → Q (.str (wlab0 out lab)) H') :
    ∃ t, PSs (cxOf CX0 P w K mg base wdN "_law_error" (defScope sWd) g cdv A outer s H E).nox (defBody sWd) t ∧ t { nx := fun _ H' => Q .non H', rt := Q } (L2.start wdN [.ref fc]) H := by
  refine ⟨_, pss_cons (L2N.ps_try_as (i := 1) (c := .ref COE) (tb := fun W => tDrop (fun σ H Q => σ[0]? = some (some (.ref fc)) ∧ cal H Q (WE W σ))) (ts := fun a cls d => tRet (tNmZ K mg a cls d)) (Wout := fun _ _ _ _ => False) rfl rfl scWd.nd rfl rfl ⟨rfl, rfl, .inl gE⟩ takesNo
        (fun W pn xe tk _ => pss_one (ps_expr (hcal W pn xe _ _ tk)))
        (fun a oe cls d pn hz hf => pss_one (ps_ret (pe_nmZ (X := (cxOf CX0 P w K mg base wdN "_law_error" (defScope sWd) g cdv A outer s H E).nox) hz hf rfl (.inl rfl) hr N rfl gN kN bN))))
    (pss_one (ps_ret pe_str)), ?_⟩
  refine pl_seq ⟨rfl, hc _ _ (fun e v H2 s3 => ?_) fun D e H2 s3 => ?_⟩
  · have := k H2 s3
    rw [e] at this
    exact this
  · obtain ⟨hn, hb⟩ := ho D e
    refine ⟨true, hb, fun _ a na => ?_, fun z => Bool.noConfusion z⟩
    refine ⟨rfl, D, lab D, rfl, rfl, hn, fun H3 s4 => ?_⟩
    have := k H3 (s3.trans s4)
    rw [e] at this
    exact this
end
end Wo
/-! WzL -/
set_option maxRecDepth 100000
namespace Wo
open PySem PySem.Spec PyProof.Rows L2 WoR WoK LamX
/-- what the def that names an error leans on -/
structure WdsZ (K : PySem.W.Frag) (mg : Str → Option Value) (P : Program) (w : World) (base : Heap) (COE g : Addr) (fd : FuncData) : Prop where
  F : Fun K "_law_error" "_law_error" sWd g fd
  gW : mg "_law_error" = some (.ref g)
  bW : Binds K fd ["_law_call"] []
  gE : mg "OrderError" = some (.ref COE)
  nm : ∃ fN fdN, FnZ P w K mg base CX0 1 fN fdN ["_law_e"] (spNm K mg) ∧ mg "_law_names" = some (.ref fN) ∧ PySem.W.keepIn K (.ref fN) = true ∧ Binds K fdN ["_law_e"] []
def tLam0 (K : PySem.W.Frag) (mg : Str → Option Value) (COE : Addr) (T : List (Addr × Str)) (q : Str) (t : XK → TE) : TE := fun σ H Q => Tabs T H ∧ ∀ c' H1, ExtN H H1 → Tabs T H1 → H1 c' = some (CodeO c' q) →
  ∃ out lab, (∀ D, out = some D → NameZ K mg D (lab D) ∧ PySem.W.exmOne K (.ref D) (.ref COE) = some true) ∧ CalOk0 (fun H Q E => H c' = some (CodeO c' q) ∧ t E σ H Q) H1 out ∧ ∀ H', Same H1 H' → Q (.str (wlab0 out lab)) H'
section
variable {X : Cx}
theorem pe_lam0 {T : List (Addr × Str)} {COE g c P : Addr} {fd : FuncData} {params : Arguments} {body : Expr} {scope : Scope} {t : XK → TE} {k : Nat} {p lpos pos : Pos} (B : WdsZ X.K X.mg X.prog X.w X.base COE g fd) (hgl : Gl X "_law_error")
    (hs : X.stack = X.env :: X.outer) (hfm : X.env.frame = some X.env.locals) (TB : TabB X.base X.mg c P) (hcode : X.env.code = .ref c) (hmT : (P, X.env.qual ++ "<lambda>") ∈ T) (hu : ∀ p ∈ T, p.1 = P → p.2 = X.env.qual ++ "<lambda>") (hr : Room (k + 2) X.A) (hk : 1 ≤ k + 1)
    (L : Lam0 X.env.scope scope) (hdef : defaultsOf params X.env = ([], []))
    (hbind : ∀ (q : Str) (cl : List (Str × Addr)) (pm cv ctv : Value), bindArgs (PySem.W.kla_fn
        "<lambda>" q params body scope cl pm cv ctv) ⟨[], []⟩ = pure [])
    (hbody : ∀ (A : Around) (outer : List Env) (s : Shared) (H : Hp) (E : XK) (f c' : Addr), Room k (A.deeper (lamEnv X scope s.heap.objs.size f c')) → PE (lamC1 X A outer s H E scope f c') body (t E))
    (h1 : starEach [.Lambda params body scope lpos] X.env = (false, eval (.Lambda params body scope lpos) X.env) :: starEach [] X.env) :
    PE X (.Call (.Name "_law_error" p) [.Lambda params body scope lpos] [] pos) (tLam0 X.K X.mg COE T (X.env.qual ++ "<lambda>") t) := by
  constructor
  rintro pins s σ H Q I ⟨hT, h⟩
  obtain ⟨fN, fdN, N, gN, kN, bN⟩ := B.nm
  refine wpAny_Call_Name_kw (ld_glob I hgl B.gW ?_ (by decide))
  refine PySem.W.callWith_K (h₀ := X.base) I.ok.mod.kin B.F.kp ?_ h1 (by rfl)
  rw [h1]
  show wpAny _ _ (spliced ((false, eval (.Lambda params body scope
      lpos) X.env) :: backTo pos (starEach [] X.env))) _ _ s
  refine Calls.spliced_cons (lam_make2 I TB hcode hmT hu hT hdef (L.has I.ok) fun f c' pm ctv H1 s1 I1 eN T1 hf hfn hfr hco => ?_)
  refine Calls.spliced_nil
      ⟨I1.kIn, ?_⟩
  obtain ⟨out, lab, hK, hC, hQ⟩ := h c' H1 eN T1 hco
  obtain ⟨oc, od, kV, doc, pm', an, cdv, ct, osl, hfd, lk, hcd⟩ := B.F.ex
  have bW := B.bW
  subst hfd
  have rc : codeAny (model X.prog X.w) X.A (.call (.ref g) ⟨[.ref f], []⟩) (CR CX0 X.stack X.prog X.w H1 s1 Q E0) s1 := by
    refine run_ofS (N := wdN) (ps := ["_law_call"]) (us := [.ref f]) (vs := [.ref f]) lk hcd scWd hr I1.env0 (bW s1 [.ref f] I1.kIn rfl) (.cons rfl .nil) rfl fun hr' => ?_
    obtain ⟨t', ht', hq'⟩ := word_body (g := g) (cdv := cdv) (A := X.A) (outer := X.stack) (s := s1) (E := E0) (fc := f) B.gE N gN kN bN (hr'.mono hk)
      (fun W pn xe p1 p3 tk => weakE (pe_act0 (iz := 0) I1 L hf hfn hfr (hbind _ _ _ _ _) tk hr' (fun A outer s H E hr2 => hbody A outer s H E f c' hr2) rfl (.inl rfl) (by decide) (by decide)) fun σ H Q z => z) hK hC hQ
    exact ⟨t', ht'.nox, hq'⟩
  refine wpAny_call (codeAny_mono
      rc fun r s' hq => ?_)
  match r, hq with
  | .error e, hq => exact (show False from hq).elim
  | .ok (.ret u), hq => exact I1.after hq
  | .ok .next, hq => exact hq.elim
  | .ok .brk, hq => exact hq.elim
  | .ok .cont, hq => exact hq.elim
end
end Wo
/-! PuQ -/
set_option maxRecDepth 100000
namespace Pu
open PySem PySem.Spec PyProof.Rows L2 WoR WoK LamX
def adr (mg : Str → Option Value) (x : Str) : Option Addr := match mg x with
  | some (.ref C) => some C
  | _ => none
theorem adr_of {mg : Str → Option Value} {x : Str} {C : Addr} (h : adr mg x = some C) : mg x = some (.ref C) := by
  unfold adr at h
  split at h
  · rename_i e
    cases h
    exact e
  · cases h
/-- every class that is told is there -/
def Here (mg : Str → Option Value) (lab : Str → Option Str) : Prop := ∀ x l, lab x = some l → ∃ C, mg x = some (.ref C)
structure LabZ (K : PySem.W.Frag) (mg : Str → Option Value) (COE : Addr) (lab : Str → Option Str) : Prop where
  ok : ∀ x l D, lab x = some l → mg x = some (.ref D) → Wo.NameZ K mg D l ∧ PySem.W.exmOne K (.ref D) (.ref COE) = some true
section
variable {T : List (Addr × Str)} {S : List Addr} {H0 H H' H1 H2 : Hp} {σ σ' : L2.St} {ρ ρ' ρ1 ρ2 : Ev} {X : Cx} {W : XK} {mg : Str → Option Value}
/-- a lambda is made -/
theorem RS.made (R : RS T S H0 H σ ρ) (x : ExtN H H1) (t : Tabs T H1) (n : T ≠ []) : RS T S H0 H1 σ ρ ∧ Stp σ ρ ρ H H1 := by
  obtain ⟨hS, hT⟩ := R.nt.resolve_left n
  have k : FzS H H1 := fun b ob u h => x b _ h fun ps z => by cases z
  refine ⟨⟨R.len, fun i y hy => ?_, R.sep, R.new, fun b o h1 h2 => x b o (R.fr b o h1 h2) fun ps z => by subst z; exact hT b ps h1, t, R.nt, fun b h => ⟨?_, by rw [hS]; exact fun z => nomatch z⟩⟩, fun b o h _ n => x b o h n, fun _ _ h => h, fun b h => ?_⟩
  · have q := R.slot i y hy
    cases hs : σ[i]?.getD none with
    | none =>
      rw [hs] at q
      cases y with
      | un => trivial
      | _ => exact q
    | some v =>
      rw [hs] at q
      cases y with
      | un => trivial
      | d z => exact Rp.k q k
      | own t o =>
        obtain ⟨a, ho, e1, e2, mu, ob, m⟩ := q
        exact ⟨a, ho, e1, x _ _ e2 mu.notb, mu, ob.k k, m⟩
      | fz o =>
        obtain ⟨a, ob, ho, e1, e2, r⟩ := q
        exact ⟨a, ob, ho, e1, k _ _ _ e2, r.k k⟩
      | raw w => exact q
  · cases e : H0 b with
    | none => rfl
    | some o =>
      have e2 := x b o (R.fr b o e (by rw [hS]; exact fun z => nomatch z)) fun ps z => by subst z; exact hT b ps e
      rw [h] at e2
      cases e2
  · cases e : H b with
    | none => exact .inl e
    | some o =>
      by_cases z : ∃ ps, o = .tbl ps
      · obtain ⟨ps, rfl⟩ := z
        exact .inr ⟨ps, e⟩
      · have e2 := x b o e fun ps w => z ⟨ps, w⟩
        rcases h with h | ⟨ps, h⟩ <;> rw [e2] at h <;> cases h
        exact (z ⟨ps, rfl⟩).elim
def SV.nown : SV → SV
  | .own _ _ => .un
  | x => x
theorem nown_no {x : SV} {t : Option Nat} {o : OB} : x.nown ≠ .own t o := by cases x <;> intro h <;> cases h
theorem RS.bare (R : RS T S H0 H σ ρ) : RS [] [] H H σ (ρ.map SV.nown) := by
  have no : ∀ i a, ¬ Own σ (ρ.map SV.nown) i a := fun i a ⟨_, t, o, h⟩ => by
    rw [List.getElem?_map] at h
    cases e : ρ[i]? with
    | none =>
        rw [e] at h; cases h
    | some x => rw [e] at h; exact nown_no (Option.some.inj h)
  refine ⟨by rw [List.length_map]; exact R.len, fun i x hx => ?_, fun i j a h1 _ => (no i a h1).elim, fun i a h => (no i a h).elim, fun b o h _ => h, (fun p hp => nomatch hp), .inl rfl, fun b h => ⟨h, fun z => nomatch z⟩⟩
  rw [List.getElem?_map] at hx
  cases e : ρ[i]? with
  | none => rw [e] at hx; cases hx
  | some y =>
    rw [e] at hx
    cases hx
    have q := R.slot i y e
    cases hs : σ[i]?.getD none with
    | none =>
      rw [hs] at q
      cases y with
      | un => trivial
      | own t o => trivial
      | _ => exact q
    | some v =>
      rw [hs] at q
      cases y with
      | un => trivial
      | own t o => trivial
      | _ => exact q
/-- what a call that is tried comes to, in the law's words -/
def fErr (lab : Str → Option Str) (fb : Ev → R SV) : Ev → R SV := fun ρ => match fb (ρ.map SV.nown) with
  | .ok _ _ => .ok (.d (.str "")) ρ
  | .er e => if e.lim = none then (match lab e.cls with
    | some l => .ok (.d (.str l)) ρ
    | none => .no) else .no
  | .no => .no
theorem pp_err0 {COE g c P : Addr} {fd : FuncData} {params : Arguments} {body : Expr} {scope : Scope} {k : Nat} {p lpos pos : Pos} {lab : Str → Option Str} {fb : Ev → R SV} (B : Wo.WdsZ X.K X.mg X.prog X.w X.base COE g fd) (Lb : LabZ X.K X.mg COE lab) (he : Here X.mg lab) (hgl : Gl X "_law_error")
    (hs : X.stack = X.env :: X.outer) (hfm : X.env.frame = some X.env.locals) (TB : TabB X.base X.mg c P) (hcode : X.env.code = .ref c) (hmT : (P, X.env.qual ++ "<lambda>") ∈ T) (hu : ∀ p ∈ T, p.1 = P → p.2 = X.env.qual ++ "<lambda>") (hr : Room (k + 2) X.A)
    (L : Lam0 X.env.scope scope) (hdef : defaultsOf params X.env = ([], []))
    (hbind : ∀ (q : Str) (cl : List (Str × Addr)) (pm cv ctv : Value), bindArgs (PySem.W.kla_fn
        "<lambda>" q params body scope cl pm cv ctv) ⟨[], []⟩ = pure [])
    (hbody : ∀ (A : Around) (outer : List Env) (s : Shared) (H : Hp) (E : XK) (f c' : Addr), Room k (A.deeper (lamEnv X scope s.heap.objs.size f c')) → PP (lamC1 X A outer s H E scope f c') [] E body fb)
    (h1 : starEach [.Lambda params body scope lpos] X.env = (false, eval (.Lambda params body scope lpos) X.env) :: starEach [] X.env := by rfl) :
    PP X T W (.Call (.Name "_law_error" p) [.Lambda params body scope lpos] [] pos) (fErr lab fb) := by
  refine weakE (Wo.pe_lam0 (T := T) (k := k) (t := fun E => tP X.mg [] E fb) B hgl hs hfm TB hcode hmT hu hr (by omega) L hdef hbind hbody h1) ?_
  rintro σ H Q ⟨S, H0, ρ, R, q⟩
  refine ⟨R.tab, fun c' H1 x t1 hco => ?_⟩
  obtain ⟨R0, s0⟩ := R.made x t1 (List.ne_nil_of_mem hmT)
  have fin : ∀ (l : Str), Pst X.mg T W S H0 H σ ρ Q (.ok (.d (.str l)) ρ) → ∀ H', Same H1 H' → Q (.str l) H' := fun l q H' sm => GOk.fin (z := .d (.str l)) (.str l) sm R0 s0 q
  unfold fErr at q
  cases hf : fb (ρ.map SV.nown) with
  | ok r ρ' =>
    rw [hf] at q
    refine ⟨none, fun _ => "", (fun D z => nomatch z), fun Q' E' q1 q2 => ⟨hco, [], H1, ρ.map SV.nown, R0.bare, ?_⟩, fin _ q⟩
    rw [hf]
    exact fun v H2 R2 s2 v2 n2 => q1 rfl v H2 fun b o h => R2.fr b o h (fun z => nomatch z)
  | er e =>
    rw [hf] at q
    dsimp only at q
    by_cases hl : e.lim = none
    · rw [if_pos hl] at q
      cases hlab : lab e.cls with
      | none => rw [hlab] at q; exact q.elim
      | some l =>
        rw [hlab] at q
        obtain ⟨C, hC⟩ := he _ _ hlab
        refine ⟨some C, fun _ => l, (fun D z => by cases z; exact Lb.ok _ _ _ hlab hC), fun Q' E' q1 q2 => ⟨hco, [], H1, ρ.map SV.nown, R0.bare, ?_⟩, fin _ q⟩
        rw [hf]
        intro C2 d H2 fr _ ei
        obtain ⟨e1, e2⟩ := ei
        rw [hC] at e1
        cases e1
        rw [hl] at e2
        subst e2
        exact q2 C rfl H2 fun b o h => fr b o h (fun z => nomatch z)
    · rw [if_neg hl] at q
      exact q.elim
  | no => rw [hf] at q; exact q.elim
end
end Pu
/-! PuR -/
set_option maxRecDepth 100000
namespace Pu
open PySem PySem.Spec PyProof.Rows L2 WoR WoK LamX
/-! a law that goes through the first cells of its script: for c in (script + [0, 1])[:2] -/
def cellsD (ns : List Int) : List D := ((ns ++ [0, 1]).take 2).map PyData.int
theorem rpl_intsC {H : Hp} : ∀ ns : List Int, RpL H (ns.map V.int) (ns.map PyData.int)
  | [] => .nil
  | n :: ns => .cons (.int n) (rpl_intsC ns)
def tScr (K : PySem.W.Frag) : TI := fun σ H R' => ∃ (L : Addr) (ns : List Int), σ[0]? = some (some (.ref L)) ∧ SqL K H L (ns.map V.int) ∧ ns.length ≤ 1000 ∧ ∀ J H', Same H H' → ItD false J (FzS H') (cellsD ns) → R' J H'
section
variable {X : Cx} {tg : Expr} {p1 p2 p3 p4 p5 p6 p7 p8 pos : Pos}
theorem pi_scr {x : Str} {j1 j2 j3 : Nat} (hN : X.N[0]? = some x) (hv : Vis X.env.scope x) (hd : (x == ("__debug__" : Str)) = false := by decide) (hcd : (x == ("__classdict__" : Str)) = false := by decide)
    (h1 : starEach [.Constant (.int 0) j1 p2, .Constant (.int 1) j2 p3] X.env = (false, eval (.Constant (.int 0) j1 p2) X.env) :: starEach [.Constant (.int 1) j2 p3] X.env := by rfl)
    (h2 : starEach [.Constant (.int 1) j2 p3] X.env = (false, eval (.Constant (.int 1) j2 p3) X.env) :: starEach [] X.env := by rfl) :
    PI X tg (.Subscript (.BinOp (.Name x p1) .Add (.List [.Constant (.int 0) j1 p2, .Constant (.int 1) j2 p3] p4) p5) (.Slice none (some (.Constant (.int 2) j3 p6)) none p7) pos) (tScr X.K) := by
  refine weakI (pi_list (pe_frz (pe_slice sl_list (pe_op op_catS (pe_var hN hv hd hcd) (pe_lst (pa_cons pe_int (pa_cons pe_int pa_nil h2) h1))) po_none (po_some pe_int)))) ?_
  rintro σ H R' ⟨L, ns, hs, hS, hl, q⟩
  refine ⟨.ref L, hs, by show 2 ≤ sizeLine; decide, fun b nb => ⟨L, b, _, _, rfl, rfl, (same_nw nb).seq hS, lst_sq upd_same, by rw [List.length_map]; show _ + 2 ≤ _; omega, fun c nc => ?_⟩⟩
  have s2 := (same_nw nb (p := b) (o := .lst [V.int 0, V.int 1])).trans (same_nw nc (o := .lst (ns.map V.int ++ [V.int 0, V.int 1])))
  refine ⟨2, rfl, c, _, rfl, lst_sq upd_same, fun p np => .inr ⟨p, _, rfl, upd_same, True.intro, fun od => ⟨p, rfl, ⟨_, .inl (.inr ⟨od, upd_same⟩)⟩, q _ _ (fun b' o e => ?_) (itd_list upd_same ?_)⟩⟩⟩
  · have e2 := s2 b' o e
    have hp : b' ≠ p := fun z => by
      rw [z] at e2
      rw [np] at e2
      cases e2
    rw [upd_ne hp, upd_ne hp]
    exact e2
  · have ec : cutV (ns.map V.int ++ [V.int 0, V.int 1]) none (some 2) = ((ns ++ [0, 1]).take 2).map V.int := by
      have e0 : ns.map V.int ++ [V.int 0, V.int 1] = (ns ++ [0, 1]).map V.int := by
        rw [List.map_append]
        rfl
      rw [e0]
      have hl2 : 2 ≤ ((ns ++ [0, 1]).map V.int).length := by
        rw [List.length_map, List.length_append]
        show 2 ≤ ns.length + 2
        omega
      unfold cutV
      rw [show (2 : Int) = ((2 : Nat) : Int) from rfl, HT.sIx_nat, HT.sIx_none, List.drop_zero, Nat.sub_zero, Nat.min_eq_left hl2, List.map_take]
    rw [ec]
    exact rpl_intsC _
variable {T : List (Addr × Str)} {S : List Addr} {H0 H H' H1 : Hp} {σ : L2.St} {ρ ρ' ρ1 : Ev} {W : XK} {iter : Expr}
def tForS (X : Cx) (T : List (Addr × Str)) (W : XK) (bd : D → Ev → Option Ev) (fb : Ev → SR) : TS := fun Dn σ H => ∃ S H0 ρ L ns, RS T S H0 H σ ρ ∧ σ[0]? = some (some (.ref L)) ∧ SqL X.K H L (ns.map V.int) ∧ ns.length ≤ 1000 ∧ PstS X.mg T W S H0 H Dn (forL bd fb (cellsD ns) ρ)
theorem ps_forS {g : TG} {sl : List Nat} {bd : D → Ev → Option Ev} {fb : Ev → SR} {body : List Stmt} (hp : PassesOwn (model X.prog X.w) X.A X.env X.xe) (hc : X.calm = true) (hi : PI X tg iter (tScr X.K)) (hg : PG X tg g) (ht : TgOk X.K false g sl bd) (hb : PBp X T W body fb)
    (hf : ∀ (x : Value), foldedSetIterable iter X.env x = pure x := by intro _; rfl) : PS X (.For tg iter body [] pos) (tForS X T W bd fb) := by
  refine weakSt (ps_for hp hc hi hg hb hf) ?_
  rintro Dn σ H ⟨S, H0, ρ, L, ns, R, hs, hS, hl, q⟩
  refine ⟨L, ns, hs, hS, hl, fun J H1 sm J1 => ?_⟩
  have R1 := R.grw sm
  have q := q.step (show FzS H H1 from fun b ob w e => sm b _ e)
  generalize cellsD ns = ds at q J1
  refine ⟨fun i m σ' H' => i ≤ ds.length ∧ m = ds.length - i ∧ FzS H1 H' ∧ ∃ ρ', RS T S H0 H' σ' ρ' ∧ PstS X.mg T W S H0 H' Dn (forL bd fb (ds.drop i) ρ'), ⟨ds.length, Nat.zero_le _, rfl, FzS.refl _, ρ, R1, q⟩, ?_⟩
  rintro i m σ' H' ⟨hi, rfl, fz, ρ', R', q⟩
  by_cases hl : i < ds.length
  · refine .inr ⟨J1.go i H' hl fz, fun σ2 H2 => i + 1 ≤ ds.length ∧ FzS H1 H2 ∧ ∃ ρ2, RS T S H0 H2 σ2 ρ2 ∧ PstS X.mg T W S H0 H2 Dn (forL bd fb (ds.drop (i + 1)) ρ2), ?_, ?_⟩
    · rintro σ2 H2 ⟨h1, h2, h3⟩
      exact ⟨ds.length - (i + 1), by omega, h1, rfl, h2, h3⟩
    · intro x H2 y
      obtain ⟨gr, yr⟩ := J1.yld i H' x H2 ds[i] fz y (List.getElem?_eq_getElem hl)
      rw [List.drop_eq_getElem_cons hl, forL] at q
      cases hb : bd ds[i] ρ' with
      | none => rw [hb] at q; exact q.elim
      | some ρ2 =>
        rw [hb] at q
        dsimp only at q
        refine ht T S H0 H2 σ' ρ' x _ ρ2 _ (R'.grw gr) yr hb fun σ2 R2 _ => ⟨S, H0, ρ2, R2, ?_⟩
        have q := gr.pst q
        have f2 : FzS H1 H2 := fz.trans gr.fz
        cases hq : fb ρ2 with
        | nx ρ3 => rw [hq] at q; exact fun σ3 H3 R3 f3 => ⟨hl, f2.trans f3, ρ3, R3, q.step f3⟩
        | ct ρ3 => rw [hq] at q; exact fun σ3 H3 R3 f3 => ⟨hl, f2.trans f3, ρ3, R3, q.step f3⟩
        | bk ρ3 => rw [hq] at q; exact fun σ3 H3 R3 f3 => q σ3 H3 R3 f3
        | rt r ρ3 => rw [hq] at q; exact q
        | er e => rw [hq] at q; exact q
        | no => rw [hq] at q; exact q
  · have : i = ds.length := by omega
    subst this
    refine .inl ⟨J1.stop H' fz, ?_⟩
    rw [List.drop_length, forL] at q
    exact q σ' H' R' (FzS.refl _)
end
structure WdZ (P : Program) (w : World) (K : PySem.W.Frag) (mg : Str → Option Value) (base : Heap) (lab : Str → Option Str) : Prop where
  ex : ∃ COE g fd, Wo.WdsZ K mg P w base COE g fd ∧ LabZ K mg COE lab ∧ Here mg lab
structure TbZ (mg : Str → Option Value) (base : Heap) (T : List (Addr × Str)) (c : Addr) (q : Str) : Prop where
  ex : ∃ Pt, TabB base mg c Pt ∧ (Pt, q) ∈ T ∧ ∀ p ∈ T, p.1 = Pt → p.2 = q
theorem ppe0 {X : Cx} {T : List (Addr × Str)} {W : XK} {c : Addr} {params : Arguments} {body : Expr} {scope : Scope} {k : Nat} {p lpos pos : Pos} {lab : Str → Option Str} {fb : Ev → R SV} (B : WdZ X.prog X.w X.K X.mg X.base lab) (TB : TbZ X.mg X.base T c (X.env.qual ++ "<lambda>")) (hgl : Gl X "_law_error")
    (hs : X.stack = X.env :: X.outer) (hfm : X.env.frame = some X.env.locals) (hcode : X.env.code = .ref c) (hr : Room (k + 2) X.A)
    (L : Lam0 X.env.scope scope) (hdef : defaultsOf params X.env = ([], []))
    (hbind : ∀ (q : Str) (cl : List (Str × Addr)) (pm cv ctv : Value), bindArgs (PySem.W.kla_fn
        "<lambda>" q params body scope cl pm cv ctv) ⟨[], []⟩ = pure [])
    (hbody : ∀ (A : Around) (outer : List Env) (s : Shared) (H : Hp) (E : XK) (f c' : Addr), Room k (A.deeper (lamEnv X scope s.heap.objs.size f c')) → PP (lamC1 X A outer s H E scope f c') [] E body fb)
    (h1 : starEach [.Lambda params body scope lpos] X.env = (false, eval (.Lambda params body scope lpos) X.env) :: starEach [] X.env := by rfl) :
    PP X T W (.Call (.Name "_law_error" p) [.Lambda params body scope lpos] [] pos) (fErr lab fb) := by
  obtain ⟨COE, g, fd, B1, B2, B3⟩ := B.ex
  obtain ⟨Pt, t1, t2, t3⟩ := TB.ex
  exact pp_err0 B1 B2 B3 hgl hs hfm t1 hcode t2 t3 hr L hdef hbind hbody h1
theorem law_startF {P : Program} {w : World} {K : PySem.W.Frag} {mg : Str → Option Value} {base : Heap} {T : List (Addr × Str)} {f : Addr} {cdv : Value} {A : Around} {outer : List Env} {s : Shared} {H : Hp} {Q : VK} {E : XK} {st st1 : Stmt} {rest : List Stmt} {N : List Str} {bd : D → Ev → Option Ev} {fb g : Ev → SR} {L : Addr} {ns : List Int}
    (hn : 1 ≤ N.length) (eb : defBody st = st1 :: rest)
    (h1 : PS (CxL P w K mg base N st f cdv A outer s H E) st1 (tForS (CxL P w K mg base N st f cdv A outer s H E) T E0 bd fb))
    (hb : PBp (CxL P w K mg base N st f cdv A outer s H E) T E0 rest g)
    (hS : SqL K H L (ns.map V.int)) (hl : ns.length ≤ 1000) (ht : LamX.Tabs T H) (hF : LawRt (fSeq (forL bd fb (cellsD ns)) g (initE N.length [.un]))) (q : ∀ H', Q (.bl true) H') :
    ∃ t, PSs (CxL P w K mg base N st f cdv A outer s H E) (defBody st) t ∧ t { nx := fun _ H' => Q .non H', rt := Q } (L2.start N [V.ref L]) H := by
  rw [eb]
  refine ⟨_, pss_cons h1 hb, ?_⟩
  have e0 : (L2.start N [V.ref L])[0]? = some (some (.ref L)) := by
    rw [start_get, if_pos (by show 0 < 1; decide)]
    rfl
  have R0 : RS T [] (noTab H) H (L2.start N [V.ref L]) (initE N.length [.un]) := by
    have R := init_rs (T := []) (S := []) (H := H) (N := N) (vs := [V.ref L]) (rs := [.un]) rfl hn (fun i r hi => by
        match i, hi with
        | 0, hi => cases hi; exact ⟨_, rfl, trivial⟩) (fun i t o hi => by
        match i, hi with
        | 0, hi => cases hi) (fun p hp => nomatch hp) (.inl rfl) (fun a ha => nomatch ha)
    exact ⟨R.len, R.slot, R.sep, fun i a h => (R.new i a h).imp id noTab_none, fun b o h _ => (noTab_some h).1, ht, .inr ⟨rfl, fun b ps h => (noTab_some h).2 ps rfl⟩, fun b h => ⟨noTab_none h, fun z => nomatch z⟩⟩
  refine ⟨[], noTab H, initE N.length [.un], L, ns, R0, e0, hS, hl, ?_⟩
  obtain ⟨ρ', eG⟩ := hF
  unfold fSeq at eG
  cases hf : forL bd fb (cellsD ns) (initE N.length [.un]) with
  | nx ρ1 =>
    rw [hf] at eG
    have eG : g ρ1 = .rt (.d (.bool true)) ρ' := eG
    intro σ1 H1 R1 f1
    refine ⟨[], noTab H, ρ1, R1, ?_⟩
    rw [eG]
    intro σ' v' H' R' _ vo'
    cases (show Rp H' v' (.bool true) from vo')
    exact q H'
  | rt r ρ1 =>
    rw [hf] at eG
    cases eG
    intro σ' v' H' R' _ vo'
    cases (show Rp H' v' (.bool true) from vo')
    exact q H'
  | bk ρ1 => rw [hf] at eG; cases eG
  | ct ρ1 => rw [hf] at eG; cases eG
  | er e => rw [hf] at eG; cases eG
  | no => rw [hf] at eG; cases eG
end Pu
/-! PuZ -/
set_option maxRecDepth 100000
namespace Pu
open PySem PySem.Spec
    PyProof.Rows L2
section
variable {α β : Type} {a : α} {ρ : Ev} {e : Er}
theorem ok_bind {f : α → Ev → R β} : (R.ok a ρ).bind f = f a ρ := rfl
theorem er_bind {f : α → Ev → R β} : (R.er e : R α).bind f = .er e := rfl
theorem no_bind {f : α → Ev → R β} : (R.no : R α).bind f = .no := rfl
theorem ok_toS {f : α → Ev → SR} : (R.ok a ρ).toS f = f a ρ := rfl
theorem er_toS {f : α → Ev → SR} : (R.er e : R α).toS f = .er e := rfl
theorem no_toS {f : α → Ev → SR} : (R.no : R α).toS f = .no := rfl
theorem opt_s : opt (some a) ρ = .ok a ρ := rfl
theorem opt_n : opt (none : Option α) ρ = .no := rfl
end
section
variable {ρ : Ev} {e : Er} {x : D} {xs : List D} {b : Bool} {i : Nat}
theorem asD_d : asD (.ok (.d x) ρ) = .ok x ρ := rfl
theorem asD_l : asD (.ok (.own none (.lst xs)) ρ) = .ok (.list xs) ρ := rfl
theorem asD_e : asD (.er e) = .er e := rfl
theorem asD_n : asD .no = .no := rfl
theorem asB_b : asB (.ok (.d (.bool b)) ρ) = .ok b ρ := rfl
theorem asB_e : asB (.er e) = .er e := rfl
theorem asB_n : asB .no = .no := rfl
theorem fVar_d (h : ρ[i]? = some (.d x)) : fVar i ρ = .ok (.d x) ρ := by unfold fVar; rw [h]
theorem fVar_l (h : ρ[i]? = some (.own none (.lst xs))) : fVar i ρ = .ok (.d (.list xs)) (ρ.set i (.d (.list xs))) := by unfold fVar; rw [h]; rfl
theorem fMove_d (h : ρ[i]? = some (.d x)) : fMove i ρ = .ok (.d x) ρ := by unfold fMove; rw [h]; exact fVar_d h
theorem fMove_l {o : OB} (h : ρ[i]? = some (.own none o)) : fMove i ρ = .ok (.own none o) (ρ.set i .un) := by unfold fMove; rw [h]
theorem seq_nx {f g : Ev → SR} {ρ' : Ev} (h : f ρ = .nx ρ') : fSeq f g ρ = g ρ' := by unfold fSeq; rw [h]
theorem seq_rt {f g : Ev → SR} {ρ' : Ev} {r : SV} (h : f ρ = .rt r ρ') : fSeq f g ρ = .rt r ρ' := by unfold fSeq; rw [h]
theorem seq_er {f g : Ev → SR} (h : f ρ = .er e) : fSeq f g ρ = .er e := by unfold fSeq; rw [h]
theorem st_nx {f : Ev → R SV} {r : SV} {ρ' : Ev} (h : f ρ = .ok r ρ') : fSet i f ρ = .nx (ρ'.set i r) := by unfold fSet; rw [h]; rfl
theorem var_eq : fVar i ρ = match ρ[i]? with
  | some (.d x) => .ok (.d x) ρ
  | some (.fz o) => .ok (.fz o) ρ
  | some (.raw v) => .ok (.raw v) ρ
  | some (.own none o) => .ok o.lockd (ρ.set i o.lockd)
  | _ => .no := rfl
end
section
variable {a b : Int} {xs ys : List D} {x y : D}
theorem add_i : addD (.int a) (.int b) = some (.d (.int (a + b))) := rfl
theorem sub_i : subD (.int a) (.int b) = some (.d (.int (a - b))) := rfl
theorem mul_i (h : mulC a b = true) : mulD (.int a) (.int b) = some (.d (.int (a * b))) := if_pos h
theorem mulC_l {k : Int} (h : -(2 ^ 64) < k ∧ k < 2 ^ 64) : mulC k b = true := by
  unfold mulC
  rw [decide_eq_true h.1, decide_eq_true h.2]
  rfl
theorem mulC_r {k : Int} (h : -(2 ^ 64) < k ∧ k < 2 ^ 64) : mulC a k = true := by
  unfold mulC
  rw [decide_eq_true h.1, decide_eq_true h.2]
  exact Bool.or_true _
theorem mod_i (h : 0 < b) : modD (.int a) (.int b) = some (.d (.int (a % b))) := if_pos (decide_eq_true h)
theorem fdiv_i (h : 0 < b) (h2 : b.natAbs < 2 ^ 9000) : fdivD (.int a) (.int b) = some (.d (.int (a / b))) := if_pos (by
  unfold divC
  rw [decide_eq_true h, decide_eq_true h2]
  rfl)
theorem fdiv_s (h : 0 < b) (h2 : b < 2 ^ 64) : fdivD (.int a) (.int b) = some (.d (.int (a / b))) := fdiv_i h (by
  have : b.natAbs < 2 ^ 64 := by omega
  exact Nat.lt_of_lt_of_le this (Nat.pow_le_pow_right (by decide) (by decide)))
theorem lt_i : ltD (.int a) (.int b) = some (.d (.bool (decide (a < b)))) := rfl
theorem gt_i : gtD (.int a) (.int b) = some (.d (.bool (decide (b < a)))) := rfl
theorem le_i : leD (.int a) (.int b) = some (.d (.bool (!decide (b < a)))) := rfl
theorem ge_i : geD (.int a) (.int b) = some (.d (.bool (!decide (a < b)))) := rfl
theorem int_i : intD (.int a) = some (.d (.int a)) := rfl
theorem neg_i : negD (.int a) = some (.d (.int (-a))) := rfl
theorem pow_i (h : powC a b = true) : powD (.int a) (.int b) = some (.d (.int (a ^ b.toNat))) := if_pos h
theorem len_l : lenD (.list xs) = some (.d (.int (xs.length : Nat))) := rfl
theorem len_t : lenD (.tuple xs) = some (.d (.int (xs.length : Nat))) := rfl
theorem ix_l : ixD (.list xs) (.int a) = (atI xs a).map SV.d := rfl
theorem ix_t : ixD (.tuple xs) (.int a) = (atI xs a).map SV.d := rfl
theorem ixN_0 {n : Nat} : ixN (n + 1) 0 = some 0 := by
  unfold ixN
  rw [if_pos (Int.le_refl 0), if_pos (by omega)]
  rfl
theorem ixN_1 {n : Nat} : ixN (n + 1 + 1) 1 = some 1 := by
  unfold ixN
  rw [if_pos (by decide), if_pos (by omega)]
  rfl
theorem at_0 {d : D} : atI (d :: xs) 0 = some d := by
  unfold atI ixN
  rw [if_pos (Int.le_refl 0), if_pos (by rw [List.length_cons]; omega)]
  rfl
theorem at_1 {d e : D} : atI (d :: e :: xs) 1 = some e := by
  unfold atI ixN
  rw [if_pos (by decide), if_pos (by rw [List.length_cons, List.length_cons]; omega)]
  rfl
end
end Pu
/-! PuZ2 -/
set_option maxRecDepth 100000
namespace Pu
open PySem PySem.Spec
    PyProof.Rows L2
/-- a for that goes on to its end -/
theorem forL_inv {bd : D → Ev → Option Ev} {fb : Ev → SR} (P : List D → Ev → Prop) (step : ∀ d ds ρ, P (d :: ds) ρ → ∃ ρ1 ρ2, bd d ρ = some ρ1 ∧ fb ρ1 = .nx ρ2 ∧ P ds ρ2) : ∀ (ds : List D) (ρ : Ev), P ds ρ → ∃ ρ', forL bd fb ds ρ = .nx ρ' ∧ P [] ρ'
  | [], ρ, h => ⟨ρ, rfl, h⟩
  | d :: ds, ρ, h => by
    obtain ⟨ρ1, ρ2, e1, e2, h2⟩ := step d ds ρ h
    obtain ⟨ρ3, e3, h3⟩ := forL_inv P step ds ρ2 h2
    refine ⟨ρ3, ?_, h3⟩
    rw [forL, e1]
    dsimp only
    rw [e2]
    exact e3
/-- .. or returns on the way -/
theorem forL_inv2 {bd : D → Ev → Option Ev} {fb : Ev → SR} (P : List D → Ev → Prop) (Z : SR → Prop) (step : ∀ d ds ρ, P (d :: ds) ρ → ∃ ρ1, bd d ρ = some ρ1 ∧ ((∃ ρ2, fb ρ1 = .nx ρ2 ∧ P ds ρ2) ∨ (∃ r ρ2, fb ρ1 = .rt r ρ2 ∧ Z (.rt r ρ2)))) : ∀ (ds : List D) (ρ : Ev), P ds ρ → (∃ ρ', forL bd fb ds ρ = .nx ρ' ∧ P [] ρ') ∨ Z (forL bd fb ds ρ)
  | [], ρ, h => .inl ⟨ρ, rfl, h⟩
  | d :: ds, ρ, h => by
    obtain ⟨ρ1, e1, ⟨ρ2, e2, h2⟩ | ⟨r, ρ2, e2, z⟩⟩ := step d ds ρ h
    · rcases forL_inv2 P Z step ds ρ2 h2 with ⟨ρ3, e3, h3⟩ | z
      · refine .inl ⟨ρ3, ?_, h3⟩
        rw [forL, e1]
        dsimp only
        rw [e2]
        exact e3
      · refine .inr ?_
        rw [forL, e1]
        dsimp only
        rw [e2]
        exact z
    · refine .inr ?_
      rw [forL, e1]
      dsimp only
      rw [e2]
      exact z
/-- a comprehension whose parts change nothing -/
theorem lcL_pure {bd : D → Ev → Option Ev} {fc : Ev → R Bool} {fe : Ev → R D} {vs : List Nat} {ρ : Ev} {c : D → Bool} {g : D → D} (b : D → Ev) : ∀ (ds : List D), (∀ d ∈ ds, bd d ρ = some (b d) ∧ fc (b d) = .ok (c d) (b d) ∧ (c d = true → fe (b d) = .ok (g d) (b d)) ∧ wipeE (b d) vs = ρ) → lcL bd fc fe vs ds ρ = .ok ((ds.filter c).map g) ρ
  | [], _ => rfl
  | d :: ds, h => by
    obtain ⟨h1, h2, h3, h4⟩ := h d List.mem_cons_self
    have ih := lcL_pure b ds fun e he => h e (List.mem_cons_of_mem _ he)
    rw [lcL, h1]
    dsimp only
    rw [h2]
    show (if c d = true then _ else _) = _
    by_cases hc : c d = true
    · rw [if_pos hc, h3 hc]
      show (lcL bd fc fe vs ds (wipeE (b d) vs)).bind _ = _
      rw [h4, ih, List.filter_cons_of_pos hc]
      rfl
    · rw [if_neg hc, h4, ih, List.filter_cons_of_neg hc]
theorem runO_rt {N : Nat} {g : Ev → SR} {o o' : OB} {rs : List SV} {r : SV} {ρ : Ev} (h : g (initE N (.own (some 0) o :: rs)) = .rt r (.own (some 0) o' :: ρ)) : runO N g o rs = .ok r (some o') := by
  unfold runO
  rw [h]
  rfl
theorem runD_rt {N : Nat} {g : Ev → SR} {rs : List SV} {r : SV} {ρ : Ev} (h : g (initE N rs) = .rt r ρ) : runD N g rs = .ok r none := by
  unfold runD
  rw [h]
theorem runD_nx {N : Nat} {g : Ev → SR} {rs : List SV} {ρ : Ev} (h : g (initE N rs) = .nx ρ) : runD N g rs = .ok (.d .none) none := by
  unfold runD
  rw [h]
theorem runD_er {N : Nat} {g : Ev → SR} {rs : List SV} {e : Er} (h : g (initE N rs) = .er e) : runD N g rs = .er e := by
  unfold runD
  rw [h]
theorem fFor_nx {fi : Ev → R (List D)} {bd : D → Ev → Option Ev} {fb : Ev → SR} {ρ ρ1 : Ev} {ds : List D} {x : SR} (h : fi ρ = .ok ds ρ1) (h2 : forL bd fb ds ρ1 = x) : fFor fi bd fb ρ = x := by
  unfold fFor
  rw [h]
  exact h2
theorem fArgs_ok {g : List D → Option (List D)} {f : Ev → R (List D)} {ρ ρ1 : Ev} {ds zs : List D} (h : f ρ = .ok ds ρ1) (h2 : g ds = some zs) : fArgs g f ρ = .ok zs ρ1 := by
  unfold fArgs
  rw [h]
  show opt (g ds) ρ1 = _
  rw [h2]
  rfl
theorem fRg_ok {k : List D → SV} {f : Ev → R (List D)} {ρ ρ1 : Ev} {ds : List D} {z : SV} (h : f ρ = .ok ds ρ1) (h2 : lrgD k ds = some z) : fRg k f ρ = .ok z ρ1 := by
  unfold fRg
  rw [h]
  show opt (lrgD k ds) ρ1 = _
  rw [h2]
  rfl
theorem consS_ok {f : Ev → R SV} {g : Ev → R (List SV)} {ρ ρ1 ρ2 : Ev} {x : SV} {xs : List SV} (h : f ρ = .ok x ρ1) (h2 : g ρ1 = .ok xs ρ2) : fConsS f g ρ = .ok (x :: xs) ρ2 := by
  unfold fConsS
  rw [h]
  show (g ρ1).bind _ = _
  rw [h2]
  rfl
theorem fPar_ok {is : List Nat} {f : Ev → R (List SV)} {ρ ρ1 : Ev} {rs : List SV} (h : f ρ = .ok rs ρ1) (h2 : rs.length = is.length) : fPar is f ρ = .nx (setEv ρ1 is rs) := by
  unfold fPar
  rw [h]
  exact if_pos h2
end Pu
/-! PuZ3 -/
set_option maxRecDepth 100000
namespace Pu
open PySem PySem.Spec
    PyProof.Rows L2
/-! comprehensions and loops over typed data -/
section
variable {α β : Type} {fi fi1 : Ev → R (List D)} {bd bd1 : D → Ev → Option Ev} {fc fc1 : Ev → R Bool} {fe : Ev → R D} {vs vs1 : List Nat} {ρ : Ev}
theorem lcL_t {e : α → D} (c : α → Bool) (g : α → D) (b : α → Ev) : ∀ (xs : List α), (∀ x ∈ xs, bd (e x) ρ = some (b x) ∧ fc (b x) = .ok (c x) (b x) ∧ (c x = true → fe (b x) = .ok (g x) (b x)) ∧ wipeE (b x) vs = ρ) → lcL bd fc fe vs (xs.map e) ρ = .ok ((xs.filter c).map g) ρ
  | [], _ => rfl
  | d :: ds, h => by
    obtain ⟨h1, h2, h3, h4⟩ := h d List.mem_cons_self
    have ih := lcL_t c g b ds fun x hx => h x (List.mem_cons_of_mem _ hx)
    rw [List.map_cons, lcL, h1]
    dsimp only
    rw [h2]
    show (if c d = true then _ else _) = _
    by_cases hc : c d = true
    · rw [if_pos hc, h3 hc]
      show (lcL bd fc fe vs (ds.map e) (wipeE (b d) vs)).bind _ = _
      rw [h4, ih, List.filter_cons_of_pos hc]
      rfl
    · rw [if_neg hc, h4, ih, List.filter_cons_of_neg hc]
theorem fLc_t {xs : List α} {e : α → D} (c : α → Bool) (g : α → D) (b : α → Ev) (hfi : fi ρ = .ok (xs.map e) ρ) (hw : wipeE ρ vs = ρ) (h : ∀ x ∈ xs, bd (e x) ρ = some (b x) ∧ fc (b x) = .ok (c x) (b x) ∧ (c x = true → fe (b x) = .ok (g x) (b x)) ∧ wipeE (b x) vs = ρ) (hl : xs.length ≤ LIM) : fLc fi bd fc fe vs ρ = .ok (.own none (.lst ((xs.filter c).map g))) ρ := by
  unfold fLc
  rw [hfi]
  show (lcL bd fc fe vs (xs.map e) (wipeE ρ vs)).bind _ = _
  rw [hw, lcL_t c g b xs h]
  show (if _ then _ else _) = _
  rw [if_pos]
  rw [List.length_map]
  exact Nat.le_trans (List.length_filter_le _ _) hl
/-- .. from one environment to another one, which differs by a list that is locked -/
theorem fLc_t2 {ρ2 : Ev} {xs : List α} {e : α → D} (c : α → Bool) (g : α → D) (b : α → Ev) (hfi : fi ρ = .ok (xs.map e) ρ2) (hw : wipeE ρ2 vs = ρ2) (h : ∀ x ∈ xs, bd (e x) ρ2 = some (b x) ∧ fc (b x) = .ok (c x) (b x) ∧ (c x = true → fe (b x) = .ok (g x) (b x)) ∧ wipeE (b x) vs = ρ2) (hl : xs.length ≤ LIM) : fLc fi bd fc fe vs ρ = .ok (.own none (.lst ((xs.filter c).map g))) ρ2 := by
  unfold fLc
  rw [hfi]
  show (lcL bd fc fe vs (xs.map e) (wipeE ρ2 vs)).bind _ = _
  rw [hw, lcL_t c g b xs h]
  show (if _ then _ else _) = _
  rw [if_pos]
  rw [List.length_map]
  exact Nat.le_trans (List.length_filter_le _ _) hl
theorem filter_yes (xs : List α) : xs.filter (fun _ => true) = xs := List.filter_eq_self.mpr fun _ _ => rfl
theorem lc2L_t {e : α → D} {e1 : β → D} (ys : α → List β) (g : α → β → D) (b : α → Ev) (b1 : α → β → Ev) : ∀ (xs : List α), (∀ x ∈ xs, bd (e x) ρ = some (b x) ∧ fc (b x) = .ok true (b x) ∧ fi1 (b x) = .ok ((ys x).map e1) (b x) ∧ wipeE (b x) vs1 = b x ∧ wipeE (b x) vs = ρ ∧
    ∀ y ∈ ys x, bd1 (e1 y) (b x) = some (b1 x y) ∧ fc1 (b1 x y) = .ok true (b1 x y) ∧ fe (b1 x y) = .ok (g x y) (b1 x y) ∧ wipeE (b1 x y) vs1 = b x) → lc2L bd fc fi1 bd1 fc1 fe vs vs1 (xs.map e) ρ = .ok (xs.flatMap fun x => (ys x).map (g x)) ρ
  | [], _ => rfl
  | x :: xs, h => by
    obtain ⟨h1, h2, h3, h4, h5, h6⟩ := h x List.mem_cons_self
    have ih := lc2L_t ys g b b1 xs fun x hx => h x (List.mem_cons_of_mem _ hx)
    rw [List.map_cons, lc2L, h1]
    dsimp only
    rw [h2]
    show (noE (fi1 (b x))).bind _ = _
    rw [h3]
    show (lcL bd1 fc1 fe vs1 ((ys x).map e1) (wipeE (b x) vs1)).bind _ = _
    rw [h4, lcL_t (fun _ => true) (g x) (b1 x) (ys x) fun y hy => ⟨(h6 y hy).1, (h6 y hy).2.1, fun _ => (h6 y hy).2.2.1, (h6 y hy).2.2.2⟩, filter_yes]
    show (lc2L bd fc fi1 bd1 fc1 fe vs vs1 (xs.map e) (wipeE (b x) vs)).bind _ = _
    rw [h5, ih, List.flatMap_cons]
    rfl
theorem fLc2_t {xs : List α} {e : α → D} {e1 : β → D} (ys : α → List β) (g : α → β → D) (b : α → Ev) (b1 : α → β → Ev) (hfi : fi ρ = .ok (xs.map e) ρ) (hw : wipeE ρ vs = ρ) (h : ∀ x ∈ xs, bd (e x) ρ = some (b x) ∧ fc (b x) = .ok true (b x) ∧ fi1 (b x) = .ok ((ys x).map e1) (b x) ∧ wipeE (b x) vs1 = b x ∧ wipeE (b x) vs = ρ ∧
    ∀ y ∈ ys x, bd1 (e1 y) (b x) = some (b1 x y) ∧ fc1 (b1 x y) = .ok true (b1 x y) ∧ fe (b1 x y) = .ok (g x y) (b1 x y) ∧ wipeE (b1 x y) vs1 = b x) (hl : (xs.flatMap fun x => (ys x).map (g x)).length ≤ LIM) :
    fLc2 fi bd fc fi1 bd1 fc1 fe vs vs1 ρ = .ok (.own none (.lst (xs.flatMap fun x => (ys x).map (g x)))) ρ := by
  unfold fLc2
  rw [hfi]
  show (lc2L bd fc fi1 bd1 fc1 fe vs vs1 (xs.map e) (wipeE ρ vs)).bind _ = _
  rw [hw, lc2L_t ys g b b1 xs h]
  exact if_pos hl
/-- a for over typed data that goes on to its end -/
theorem forL_t {fb : Ev → SR} {e : α → D} (P : List α → Ev → Prop) (step : ∀ x xs ρ, P (x :: xs) ρ → ∃ ρ1 ρ2, bd (e x) ρ = some ρ1 ∧ fb ρ1 = .nx ρ2 ∧ P xs ρ2) : ∀ (xs : List α) (ρ : Ev), P xs ρ → ∃ ρ', forL bd fb (xs.map e) ρ = .nx ρ' ∧ P [] ρ'
  | [], ρ, h => ⟨ρ, rfl, h⟩
  | x :: xs, ρ, h => by
    obtain ⟨ρ1, ρ2, e1, e2, h2⟩ := step x xs ρ h
    obtain ⟨ρ3, e3, h3⟩ := forL_t P step xs ρ2 h2
    refine ⟨ρ3, ?_, h3⟩
    rw [List.map_cons, forL, e1]
    dsimp only
    rw [e2]
    exact e3
/-- .. told by a function of what is left -/
theorem forL_f {σ : Type} {fb : Ev → SR} {e : α → D} (st : σ → Ev) (f : σ → α → σ) (ok : σ → List α → Prop) (step : ∀ s x xs, ok s (x :: xs) → ok (f s x) xs ∧ ∃ ρ1, bd (e x) (st s) = some ρ1 ∧ fb ρ1 = .nx (st (f s x))) : ∀ (xs : List α) (s : σ), ok s xs → forL bd fb (xs.map e) (st s) = .nx (st (xs.foldl f s))
  | [], s, h => rfl
  | x :: xs, s, h => by
    obtain ⟨h2, ρ1, e1, e2⟩ := step s x xs h
    rw [List.map_cons, forL, e1]
    dsimp only
    rw [e2]
    exact forL_f st f ok step xs (f s x) h2
end
end Pu
namespace Pu
open PySem PySem.Spec
    PyProof.Rows L2
section
variable {xs ys : List D} {b : Bool} {i : Int} {ρ : Ev} {d : D}
theorem tru_b : truD (.bool b) = some b := rfl
theorem tru_t : truD (.tuple xs) = some (!xs.isEmpty) := rfl
theorem isi_tt : Ty5.is .tuple (.tuple xs) = true := rfl
theorem isi_tl : Ty5.is .tuple (.list xs) = false := rfl
theorem arg_d : (SV.d d).isArg = true := rfl
theorem seq_t : seqD (.tuple xs) = some xs := rfl
theorem seq_l : seqD (.list xs) = some xs := rfl
theorem list_t : listD (.tuple xs) = some (.own none (.lst xs)) := rfl
theorem list_l : listD (.list xs) = some (.own none (.lst xs)) := rfl
theorem tup_l : tupleD (.list xs) = some (.d (.tuple xs)) := rfl
theorem tup_t : tupleD (.tuple xs) = some (.d (.tuple xs)) := rfl
theorem toB_b : (SV.d (.bool b)).toB = some b := rfl
end
end Pu
/-! JkM -/
set_option maxRecDepth 10000
namespace Lw
/-! sums of functions, and how orders are counted by their falls -/
def sm (f : Nat → Nat) : Nat → Nat
  | 0 => 0
  | l + 1 => sm f l + f l
def dS (n : Nat) (f : Nat → Nat) (l : Nat) : Nat := sm f n - sm f l
def run : Nat → (Nat → Nat) → List Bool → Nat
  | n, f, [] => sm f n
  | n, f, false :: w => run (n + 1) (sm f) w
  | n, f, true :: w => run (n + 1) (dS n f) w
theorem sm_congr {f g : Nat → Nat} : ∀ {n : Nat}, (∀ l, l < n → f l = g l) → sm f n = sm g n
  | 0, _ => rfl
  | n + 1, h => by
    show sm f n + f n = sm g n + g n
    rw [sm_congr fun l hl => h l (by omega), h n (by omega)]
theorem sm_mono {f : Nat → Nat} : ∀ {l n : Nat}, l ≤ n → sm f l ≤ sm f n
  | l, 0, h => by rw [Nat.le_zero.mp h]; exact Nat.le_refl _
  | l, n + 1, h => by
    by_cases e : l = n + 1
    · rw [e]; exact Nat.le_refl _
    · have := sm_mono (f := f) (l := l) (n := n) (by omega)
      show sm f l ≤ sm f n + f n
      omega
theorem run_congr : ∀ {w : List Bool} {n : Nat} {f g : Nat → Nat}, (∀ l, l < n → f l = g l) → run n f w = run n g w
  | [], n, f, g, h => sm_congr h
  | false :: w, n, f, g, h => run_congr (w := w) (n := n + 1) fun l hl => sm_congr fun k hk => h k (by omega)
  | true :: w, n, f, g, h => run_congr (w := w) (n := n + 1) fun l hl => by
    show sm f n - sm f l = sm g n - sm g l
    rw [sm_congr h, sm_congr fun k hk => h k (by omega)]
def runE : Nat → (Nat → Nat) → List Bool → Nat
  | n, f, [] => sm f n
  | n, f, false :: w => runE (n + 1) (sm f) w
  | n, f, true :: w => runE (n + 1) (fun _ => sm f n) w
theorem runE_congr : ∀ {w : List Bool} {n : Nat} {f g : Nat → Nat}, (∀ l, l < n → f l = g l) → runE n f w = runE n g w
  | [], n, f, g, h => sm_congr h
  | false :: w, n, f, g, h => runE_congr (w := w) (n := n + 1) fun l hl => sm_congr fun k hk => h k (by omega)
  | true :: w, n, f, g, h => runE_congr (w := w) (n := n + 1) fun l hl => sm_congr h
theorem sm_add (f g : Nat → Nat) : ∀ n, sm (fun l => f l + g l) n = sm f n + sm g n
  | 0 => rfl
  | n + 1 => by
    show sm (fun l => f l + g l) n + (f n + g n) = sm f n + f n + (sm g n + g n)
    rw [sm_add f g n]
    omega
theorem runE_add : ∀ (w : List Bool) (n : Nat) (f g : Nat → Nat), runE n (fun l => f l + g l) w = runE n f w + runE n g w
  | [], n, f, g => sm_add f g n
  | false :: w, n, f, g => by
    show runE (n + 1) (sm fun l => f l + g l) w = runE (n + 1) (sm f) w + runE (n + 1) (sm g) w
    rw [← runE_add w (n + 1)]
    exact runE_congr fun l _ => sm_add f g l
  | true :: w, n, f, g => by
    show runE (n + 1) (fun _ => sm (fun l => f l + g l) n) w = runE (n + 1) (fun _ => sm f n) w + runE (n + 1) (fun _ => sm g n) w
    rw [← runE_add w (n + 1)]
    exact runE_congr fun l _ => sm_add f g n
/-- the sum over all parts of a lot -/
def sumS : List Bool → (List Bool → Nat) → Nat
  | [], F => F []
  | false :: w, F => sumS w fun t => F (false :: t)
  | true :: w, F => sumS w (fun t => F (false :: t)) + sumS w fun t => F (true :: t)
theorem sum_run : ∀ (w : List Bool) (n : Nat) (f : Nat → Nat), sumS w (run n f) = runE n f w
  | [], n, f => rfl
  | false :: w, n, f => sum_run w (n + 1) (sm f)
  | true :: w, n, f => by
    show sumS w (run (n + 1) (sm f)) + sumS w (run (n + 1) (dS n f)) = runE (n + 1) (fun _ => sm f n) w
    rw [sum_run w, sum_run w, ← runE_add]
    refine runE_congr fun l hl => ?_
    have := sm_mono (f := f) (l := l) (n := n) (by omega)
    show sm f l + (sm f n - sm f l) = sm f n
    omega
/-! binomials -/
def bin : Nat → Nat → Nat
  | _, 0 => 1
  | 0, _ + 1 => 0
  | n + 1, r + 1 => bin n r + bin n (r + 1)
def fac : Nat → Nat
  | 0 => 1
  | n + 1 => fac n * (n + 1)
theorem bin_0 (n : Nat) : bin n 0 = 1 := by cases n <;> rfl
theorem fac_pos : ∀ n, 0 < fac n
  | 0 => Nat.one_pos
  | n + 1 => Nat.mul_pos (fac_pos n) (Nat.succ_pos n)
theorem bin_lt : ∀ {n r : Nat}, n < r → bin n r = 0
  | 0, r + 1, _ => rfl
  | n + 1, r + 1, h => by
    show bin n r + bin n (r + 1) = 0
    rw [bin_lt (by omega), bin_lt (by omega)]
theorem bin_fac : ∀ (n k : Nat), bin (n + k) k * fac k * fac n = fac (n + k)
  | n, 0 => by
    show bin n 0 * 1 * fac n = fac n
    rw [bin_0]
    omega
  | 0, k + 1 => by
    have ih := bin_fac 0 k
    rw [Nat.zero_add] at ih ⊢
    show (bin k k + bin k (k + 1)) * fac (k + 1) * 1 = fac (k + 1)
    rw [bin_lt (Nat.lt_succ_self k)]
    have : bin k k = 1 := by
      have h : bin k k * fac k * 1 = fac k := ih
      rw [Nat.mul_one] at h
      have := fac_pos k
      exact Nat.eq_of_mul_eq_mul_right this (by rw [h, Nat.one_mul])
    rw [this]
    omega
  | n + 1, k + 1 => by
    have h1 := bin_fac (n + 1) k
    have h2 := bin_fac n (k + 1)
    have e1 : n + 1 + (k + 1) = (n + 1 + k) + 1 := by omega
    have e2 : n + (k + 1) = n + 1 + k := by omega
    rw [e2] at h2
    rw [e1]
    show (bin (n + 1 + k) k + bin (n + 1 + k) (k + 1)) * (fac k * (k + 1)) * (fac n * (n + 1)) = fac (n + 1 + k) * (n + 1 + k + 1)
    have h1 : bin (n + 1 + k) k * fac k * (fac n * (n + 1)) = fac (n + 1 + k) := h1
    have h2 : bin (n + 1 + k) (k + 1) * (fac k * (k + 1)) * fac n = fac (n + 1 + k) := h2
    have a1 : bin (n + 1 + k) k * (fac k * (k + 1)) * (fac n * (n + 1)) = fac (n + 1 + k) * (k + 1) := by
      rw [← h1]
      simp only [Nat.mul_assoc, Nat.mul_comm, Nat.mul_left_comm]
    have a2 : bin (n + 1 + k) (k + 1) * (fac k * (k + 1)) * (fac n * (n + 1)) = fac (n + 1 + k) * (n + 1) := by
      rw [← h2]
      simp only [Nat.mul_assoc, Nat.mul_comm, Nat.mul_left_comm]
    rw [Nat.add_mul, Nat.add_mul, a1, a2, ← Nat.mul_add]
    congr 1
    omega
theorem sm_bin (M r : Nat) : ∀ l, sm (fun k => M * bin k r) l = M * bin l (r + 1)
  | 0 => by
    show 0 = M * 0
    rw [Nat.mul_zero]
  | l + 1 => by
    show sm (fun k => M * bin k r) l + M * bin l r = M * (bin l r + bin l (r + 1))
    rw [sm_bin M r l, Nat.mul_add]
    omega
/-- the blocks' lengths -/
def bl : Nat → List Bool → List Nat
  | r, [] => [r + 1]
  | r, false :: w => bl (r + 1) w
  | r, true :: w => (r + 1) :: bl 0 w
def pF : List Nat → Nat
  | [] => 1
  | b :: bs => fac b * pF bs
theorem pF_pos : ∀ bs, 0 < pF bs
  | [] => Nat.one_pos
  | b :: bs => Nat.mul_pos (fac_pos b) (pF_pos bs)
theorem runE_bin : ∀ (w : List Bool) (n r M : Nat), r + 1 ≤ n → runE n (fun l => M * bin l r) w * pF (bl r w) * fac (n - (r + 1)) = M * fac (n + w.length)
  | [], n, r, M, h => by
    have h1 := bin_fac (n - (r + 1)) (r + 1)
    rw [Nat.sub_add_cancel h] at h1
    show sm (fun l => M * bin l r) n * (fac (r + 1) * 1) * fac (n - (r + 1)) = M * fac n
    rw [sm_bin, ← h1, Nat.mul_one]
    simp only [Nat.mul_assoc]
  | false :: w, n, r, M, h => by
    have ih := runE_bin w (n + 1) (r + 1) M (by omega)
    rw [show n + 1 - (r + 1 + 1) = n - (r + 1) by omega, show n + 1 + w.length = n + (w.length + 1) by omega] at ih
    show runE (n + 1) (sm fun l => M * bin l r) w * pF (bl (r + 1) w) * fac (n - (r + 1)) = M * fac (n + (w.length + 1))
    rw [← ih]
    congr 2
    exact runE_congr fun l _ => sm_bin M r l
  | true :: w, n, r, M, h => by
    have ih := runE_bin w (n + 1) 0 (M * bin n (r + 1)) (by omega)
    rw [show n + 1 - (0 + 1) = n by omega, show n + 1 + w.length = n + (w.length + 1) by omega] at ih
    have h1 := bin_fac (n - (r + 1)) (r + 1)
    rw [Nat.sub_add_cancel h] at h1
    have e : runE (n + 1) (fun l => M * bin n (r + 1) * bin l 0) w = runE (n + 1) (fun _ => sm (fun l => M * bin l r) n) w := runE_congr fun l _ => by
      rw [sm_bin, bin_0, Nat.mul_one]
    rw [e] at ih
    show runE (n + 1) (fun _ => sm (fun l => M * bin l r) n) w * (fac (r + 1) * pF (bl 0 w)) * fac (n - (r + 1)) = M * fac (n + (w.length + 1))
    generalize runE (n + 1) (fun _ => sm (fun l => M * bin l r) n) w = X at ih ⊢
    generalize pF (bl 0 w) = P at ih ⊢
    generalize fac (n + (w.length + 1)) = F at ih ⊢
    have hb : 0 < bin n (r + 1) := by
      rcases Nat.eq_zero_or_pos (bin n (r + 1)) with z | z
      · rw [z, Nat.zero_mul, Nat.zero_mul] at h1
        have := fac_pos n
        omega
      · exact z
    refine Nat.eq_of_mul_eq_mul_right hb ?_
    rw [← h1] at ih
    have e1 : X * (fac (r + 1) * P) * fac (n - (r + 1)) * bin n (r + 1) = X * P * (bin n (r + 1) * fac (r + 1) * fac (n - (r + 1))) := by
      simp only [Nat.mul_assoc, Nat.mul_comm, Nat.mul_left_comm]
    rw [e1, ih]
    simp only [Nat.mul_assoc, Nat.mul_comm, Nat.mul_left_comm]
def beN (w : List Bool) : Nat := run 1 (fun _ => 1) w
def alN (w : List Bool) : Nat := sumS w beN
theorem al_fac (w : List Bool) : alN w * pF (bl 0 w) = fac (1 + w.length) := by
  have h := runE_bin w 1 0 1 (by omega)
  have e : runE 1 (fun l => 1 * bin l 0) w = alN w := by
    unfold alN
    rw [show beN = run 1 fun _ => 1 from rfl, sum_run]
    exact runE_congr fun l _ => by rw [bin_0]
  rw [e, Nat.one_mul] at h
  have : fac (1 - (0 + 1)) = 1 := rfl
  rw [this, Nat.mul_one] at h
  exact h
/-! falls told from the other end -/
def incH : List Nat → List Nat
  | [] => []
  | b :: bs => (b + 1) :: bs
def incL : List Nat → List Nat
  | [] => []
  | [b] => [b + 1]
  | b :: c :: bs => b :: incL (c :: bs)
theorem bl_ne (r : Nat) : ∀ w, bl r w ≠ [] := fun w => by
  induction w generalizing r with
  | nil => exact fun z => nomatch z
  | cons b w ih =>
    cases b with
    | false => exact ih (r + 1)
    | true => exact fun z => nomatch z
theorem bl_inc (r : Nat) : ∀ w, bl (r + 1) w = incH (bl r w) := fun w => by
  induction w generalizing r with
  | nil => rfl
  | cons b w ih =>
    cases b with
    | false => exact ih (r + 1)
    | true => rfl
theorem incL_snoc : ∀ (bs : List Nat) (b : Nat), incL (bs ++ [b]) = bs ++ [b + 1]
  | [], b => rfl
  | [c], b => rfl
  | c :: d :: bs, b => by
    show c :: incL (d :: bs ++ [b]) = _
    rw [incL_snoc (d :: bs) b]
    rfl
theorem bl_f (w : List Bool) : ∀ r, bl r (w ++ [false]) = incL (bl r w) := by
  induction w with
  | nil => exact fun r => rfl
  | cons b w ih =>
    intro r
    cases b with
    | false => exact ih (r + 1)
    | true =>
      show (r + 1) :: bl 0 (w ++ [false]) = incL ((r + 1) :: bl 0 w)
      rw [ih 0]
      cases h : bl 0 w with
      | nil => exact (bl_ne 0 w h).elim
      | cons c bs => rfl
theorem bl_t (w : List Bool) : ∀ r, bl r (w ++ [true]) = bl r w ++ [1] := by
  induction w with
  | nil => exact fun r => rfl
  | cons b w ih =>
    intro r
    cases b with
    | false => exact ih (r + 1)
    | true =>
      show (r + 1) :: bl 0 (w ++ [true]) = (r + 1) :: bl 0 w ++ [1]
      rw [ih 0]
      rfl
theorem bl_rev : ∀ w, bl 0 w.reverse = (bl 0 w).reverse
  | [] => rfl
  | true :: w => by
    rw [List.reverse_cons, bl_t, bl_rev w]
    show _ = (1 :: bl 0 w).reverse
    rw [List.reverse_cons]
  | false :: w => by
    rw [List.reverse_cons, bl_f, bl_rev w]
    show _ = (bl 1 w).reverse
    rw [bl_inc]
    cases h : bl 0 w with
    | nil => rfl
    | cons c bs =>
      rw [List.reverse_cons, incL_snoc]
      show _ = ((c + 1) :: bs).reverse
      rw [List.reverse_cons]
theorem pF_app : ∀ a b, pF (a ++ b) = pF a * pF b
  | [], b => (Nat.one_mul _).symm
  | x :: a, b => by
    show fac x * pF (a ++ b) = fac x * pF a * pF b
    rw [pF_app a b, Nat.mul_assoc]
theorem pF_rev : ∀ a : List Nat, pF a.reverse = pF a
  | [] => rfl
  | x :: a => by
    rw [List.reverse_cons, pF_app, pF_rev a]
    show pF a * (fac x * 1) = fac x * pF a
    rw [Nat.mul_one, Nat.mul_comm]
theorem al_rev (w : List Bool) : alN w.reverse = alN w := by
  have h1 := al_fac w
  have h2 := al_fac w.reverse
  rw [bl_rev, pF_rev, List.length_reverse, ← h1] at h2
  exact Nat.eq_of_mul_eq_mul_right (pF_pos _) h2
theorem sumS_snoc (b : Bool) : ∀ (w : List Bool) (F : List Bool → Nat), sumS (w ++ [b]) F = sumS w (fun t => F (t ++ [false])) + if b = true then sumS w (fun t => F (t ++ [true])) else 0
  | [], F => by cases b <;> rfl
  | false :: w, F => sumS_snoc b w fun t => F (false :: t)
  | true :: w, F => by
    show sumS (w ++ [b]) (fun t => F (false :: t)) + sumS (w ++ [b]) (fun t => F (true :: t)) = _
    rw [sumS_snoc b w, sumS_snoc b w]
    show _ = (sumS w (fun t => F (false :: (t ++ [false]))) + sumS w (fun t => F (true :: (t ++ [false])))) + if b = true then (sumS w (fun t => F (false :: (t ++ [true]))) + sumS w (fun t => F (true :: (t ++ [true])))) else 0
    cases b
    · simp only [Bool.false_eq_true,
        if_false]
      omega
    · simp only [if_true]
      omega
theorem sumS_rev : ∀ (w : List Bool) (F : List Bool → Nat), sumS w (fun t => F t.reverse) = sumS w.reverse F
  | [], F => rfl
  | false :: w, F => by
    rw [List.reverse_cons, sumS_snoc]
    simp only [Bool.false_eq_true, if_false, Nat.add_zero]
    rw [← sumS_rev w]
    show sumS w (fun t => F (false :: t).reverse) = _
    congr 1
    funext t
    rw [List.reverse_cons]
  | true :: w, F => by
    rw [List.reverse_cons, sumS_snoc]
    simp only [if_true]
    rw [← sumS_rev w, ← sumS_rev w]
    show sumS w (fun t => F (false :: t).reverse) + sumS w (fun t => F (true :: t).reverse) = _
    congr 1 <;> congr 1 <;> funext t <;> rw [List.reverse_cons]
theorem moeb : ∀ (w : List Bool) (F G : List Bool → Nat), (∀ u, u.length = w.length → sumS u F = sumS u G) → F w = G w
  | [], F, G, h => h [] rfl
  | false :: w, F, G, h => moeb w (fun t => F (false :: t)) (fun t => G (false :: t)) fun u hu => h (false :: u) (by rw [List.length_cons, List.length_cons, hu])
  | true :: w, F, G, h => moeb w (fun t => F (true :: t)) (fun t => G (true :: t)) fun u hu => by
    have h1 := h (false :: u) (by rw [List.length_cons, List.length_cons, hu])
    have h2 := h (true :: u) (by rw [List.length_cons, List.length_cons, hu])
    have h1 : sumS u (fun t => F (false :: t)) = sumS u (fun t => G (false :: t)) := h1
    have h2 : sumS u (fun t => F (false :: t)) + sumS u (fun t => F (true :: t)) = sumS u (fun t => G (false :: t)) + sumS u (fun t => G (true :: t)) := h2
    omega
theorem be_rev (w : List Bool) : beN w.reverse = beN w := by
  refine (moeb w beN (fun t => beN t.reverse) fun u _ => ?_).symm
  rw [sumS_rev u beN]
  exact (al_rev u).symm
/-! rises for falls -/
theorem sm_back {n : Nat} {f g : Nat → Nat} (h : ∀ l, l < n → g l = f (n - 1 - l)) : ∀ l, l ≤ n → sm g l + sm f (n - l) = sm f n
  | 0, _ => by
    show 0 + sm f (n - 0) = sm f n
    rw [Nat.zero_add, Nat.sub_zero]
  | l + 1, hl => by
    have ih := sm_back h l (by omega)
    have e : n - l = (n - (l + 1)) + 1 := by omega
    rw [e] at ih
    have ih : sm g l + (sm f (n - (l + 1)) + f (n - (l + 1))) = sm f n := ih
    show sm g l + g l + sm f (n - (l + 1)) = sm f n
    rw [h l (by omega), show n - 1 - l = n - (l + 1) by omega]
    omega
theorem run_not : ∀ (w : List Bool) (n : Nat) (f g : Nat → Nat), (∀ l, l < n → g l = f (n - 1 - l)) → run n g (w.map not) = run n f w
  | [], n, f, g, h => by
    have := sm_back h n (Nat.le_refl n)
    rw [Nat.sub_self] at this
    exact this
  | true :: w, n, f, g, h => by
    refine run_not w (n + 1) (dS n f) (sm g) fun l hl => ?_
    have := sm_back h l (by omega)
    show sm g l = sm f n - sm f (n + 1 - 1 - l)
    rw [show n + 1 - 1 - l = n - l by omega]
    omega
  | false :: w, n, f, g, h => by
    refine run_not w (n + 1) (sm f) (dS n g) fun l hl => ?_
    have h1 := sm_back h l (by omega)
    have h2 := sm_back h n (Nat.le_refl n)
    rw [Nat.sub_self] at h2
    have h2 : sm g n + 0 = sm f n := h2
    show sm g n - sm g l = sm f (n + 1 - 1 - l)
    rw [show n + 1 - 1 - l = n - l by omega]
    omega
theorem be_not (w : List Bool) : beN (w.map not) = beN w := run_not w 1 _ _ fun _ _ => rfl
theorem run_pos : ∀ (w : List Bool) (n : Nat) (f : Nat → Nat) (l : Nat), l < n → 1 ≤ f l → 1 ≤ run n f w
  | [], n, f, l, hl, h => by
    have := sm_mono (f := f) (l := l + 1) (n := n) (by omega)
    have e : sm f (l + 1) = sm f l + f l := rfl
    show 1 ≤ sm f n
    omega
  | false :: w, n, f, l, hl, h => run_pos w (n + 1) (sm f) n (by omega) (by
    have := sm_mono (f := f) (l := l + 1) (n := n) (by omega)
    have e : sm f (l + 1) = sm f l + f l := rfl
    omega)
  | true :: w, n, f, l, hl, h => run_pos w (n + 1) (dS n f) 0 (by omega) (by
    have := sm_mono (f := f) (l := l + 1) (n := n) (by omega)
    have e : sm f (l + 1) = sm f l + f l := rfl
    have e0 : sm f 0 = 0 := rfl
    show 1 ≤ sm f n - sm f 0
    omega)
theorem be_pos (w : List Bool) : 1 ≤ beN w := run_pos w 1 _ 0 (by omega) (Nat.le_refl 1)
theorem div_all : ∀ (bs : List Nat) (K : Nat), bs.foldl (fun f b => f / fac b) (K * pF bs) = K
  | [], K => Nat.mul_one K
  | b :: bs, K => by
    show bs.foldl (fun f b => f / fac b) (K * (fac b * pF bs) / fac b) = K
    rw [show K * (fac b * pF bs) = fac b * (K * pF bs) by simp only [Nat.mul_comm, Nat.mul_left_comm], Nat.mul_div_cancel_left _ (fac_pos b)]
    exact div_all bs K
theorem within_al (w : List Bool) : (bl 0 w).foldl (fun f b => f / fac b) (fac (1 + w.length)) = alN w := by
  rw [← al_fac w]
  exact div_all _ _
end Lw
/-! Gk67 -/
set_option maxRecDepth 100000
namespace Lw
open PySem PySem.Spec PyProof.Rows L2 WoK LamX Pu
def topS (i : Nat) : Stmt := PySem.Challenge.pw_wiredorders_k67_whole_orders_with_just_t.main.body.getD i (.Pass ⟨0, 0, 0, 0⟩)
section
variable {P : Program} {w : World} {K : PySem.W.Frag}
    {mg : Str → Option Value} {base : Heap}
abbrev s_is_integer : Stmt := topS 1
theorem sc_is_integer : FnScope ["value"] ["value"] (defScope s_is_integer) := ⟨rfl, rfl, rfl, by decide +kernel, rfl, by decide +kernel, by decide +kernel⟩
noncomputable def g_is_integer : Ev → SR := fRet (fAndV (fIsi .int (fD (fVar 0))) (fNotV (fIsi .bool (fD (fVar 0)))))
noncomputable def F_is_integer : List SV → FR := runD 1 g_is_integer
theorem ok_is_integer (Bn : BI mg) (hD : Df K mg "is_integer" s_is_integer ["value"])  : CalD P w K mg base "is_integer" 1 1 F_is_integer :=
  mkD (N := ["value"]) (ps := ["value"]) (k := 0) (n := 1) (m := 1) (g := g_is_integer) hD sc_is_integer rfl rfl (by decide) fun f cdv A outer s H E hr => (pb_one (ps_rt (pp_and (pp_isi .int (bk_isinstance Bn (by rfl)) (bk_int Bn (by rfl)) (pd_of (pp_var (i := 0) rfl (vis_l rfl)))) (pp_one (pp_not (pp_isi .bool (bk_isinstance Bn (by rfl)) (bk_bool Bn (by rfl)) (pd_of (pp_var (i := 0) rfl (vis_l rfl)))))))))
abbrev s_is_within : Stmt := topS 2
theorem sc_is_within : FnScope ["value", "low", "high"] ["value", "low", "high"] (defScope s_is_within) := ⟨rfl, rfl, rfl, by decide +kernel, rfl, by decide +kernel, by decide +kernel⟩
noncomputable def g_is_within : Ev → SR := fRet (fAndV (fCallD F_is_integer (fConsX (fP (fD (fVar 0))) (fNilX))) (fChn leD leD (fD (fVar 1)) (fD (fVar 0)) (fD (fVar 2))))
noncomputable def F_is_within : List SV → FR := runD 3 g_is_within
theorem ok_is_within (Bn : BI mg) (hD : Df K mg "is_within" s_is_within ["value", "low", "high"]) (C_is_integer : CalD P w K mg base "is_integer" 1 1 F_is_integer) : CalD P w K mg base "is_within" 3 2 F_is_within :=
  mkD (N := ["value", "low", "high"]) (ps := ["value", "low", "high"]) (k := 1) (n := 3) (m := 3) (g := g_is_within) hD sc_is_within rfl rfl (by decide) fun f cdv A outer s H E hr => (pb_one (ps_rt (pp_and (ppc C_is_integer (hr.mono (by decide)) (by rfl) (passX (L2N.takes_of rfl rfl rfl rfl)) (pax_d (pd_of (pp_var (i := 0) rfl (vis_l rfl))) pax_nil) (len_consX len_nilX)) (pp_one (pp_chain (op_le' (hu64 hr)) (op_le' (hu64 hr)) g_le g_le (pd_of (pp_var (i := 1) rfl (vis_l rfl))) (pd_of (pp_var (i := 0) rfl (vis_l rfl))) (pd_of (pp_var (i := 2) rfl (vis_l rfl))))))))
abbrev s_are_within : Stmt := topS 3
theorem sc_are_within : FnScope ["value", "low", "high", "item"] ["value", "low", "high"] (defScope s_are_within) := ⟨rfl, rfl, rfl, by decide +kernel, rfl, by decide +kernel, by decide +kernel⟩
noncomputable def g_are_within : Ev → SR := fSeq (fIfS (fNotT (fTru (fD (fIsi .tuple (fD (fVar 0)))))) (fRet (fP (fC (.bool false)))) (fNx)) (fRet (fUn allD (fD (fLc (fIt (fD (fVar 0))) (bNm 3) (fYes) (fD (fCallD F_is_within (fConsX (fP (fD (fVar 3))) (fConsX (fP (fD (fVar 1))) (fConsX (fP (fD (fVar 2))) (fNilX)))))) [3]))))
noncomputable def F_are_within : List SV → FR := runD 4 g_are_within
theorem ok_are_within (Bn : BI mg) (hD : Df K mg "are_within" s_are_within ["value", "low", "high"]) (C_is_within : CalD P w K mg base "is_within" 3 2 F_is_within) : CalD P w K mg base "are_within" 3 3 F_are_within :=
  mkD (N := ["value", "low", "high", "item"]) (ps := ["value", "low", "high"]) (k := 2) (n := 3) (m := 4) (g := g_are_within) hD sc_are_within rfl rfl (by decide) fun f cdv A outer s H E hr => (pb_cons (ps_iff (ptt_not (ptt_tru (pd_of (pp_isi .tuple (bk_isinstance Bn (by rfl)) (bk_tuple Bn (by rfl)) (pd_of (pp_var (i := 0) rfl (vis_l rfl))))))) (pb_one (ps_rt (pp_of pd_bl))) pb_nil) (pb_one (ps_rt (pp_call1 (bk_all Bn (by rfl)) (cd_all rfl) (pd_of (pp_lc (own := [("item", 3)]) rfl sc_are_within.nd (pir_seq (pd_of (pp_var (i := 0) rfl (vis_l rfl)))) (blkOk_by (N := ["value", "low", "high", "item"]) (sc := defScope s_are_within) (by decide +kernel)) (fun _ _ _ _ _ => (pg_name (i := 3) sc_are_within.nd rfl (.inl rfl))) tg_nm (by decide) (fun _ _ _ _ _ => ptr_nil) (fun _ _ _ _ _ => (pd_of (ppc C_is_within (hr.mono (by decide)) (by rfl) passN (pax_d (pd_of (pp_var (i := 3) rfl (by first | exact .inr (.inr rfl) | exact .inl rfl | exact .inr (.inl rfl)))) (pax_d (pd_of (pp_var (i := 1) rfl (by first | exact .inr (.inr rfl) | exact .inl rfl | exact .inr (.inl rfl)))) (pax_d (pd_of (pp_var (i := 2) rfl (by first | exact .inr (.inr rfl) | exact .inl rfl | exact .inr (.inl rfl)))) pax_nil))) (len_consX (len_consX (len_consX len_nilX))))))))))))
abbrev s_are_ascending : Stmt := topS 4
theorem sc_are_ascending : FnScope ["items", "at"] ["items"] (defScope s_are_ascending) := ⟨rfl, rfl, rfl, by decide +kernel, rfl, by decide +kernel, by decide +kernel⟩
noncomputable def g_are_ascending : Ev → SR := fRet (fUn allD (fD (fLc (fArgs rng1D (fCons (fD (fBin subD (fD (fUnO lenD 0)) (fC (.int 1)))) (fNil))) (bNm 1) (fYes) (fD (fBin ltD (fD (fIxO 0 (fD (fVar 1)))) (fD (fIxO 0 (fD (fBin addD (fD (fVar 1)) (fC (.int 1)))))))) [1])))
noncomputable def F_are_ascending : List SV → FR := runD 2 g_are_ascending
theorem ok_are_ascending (Bn : BI mg) (hD : Df K mg "are_ascending" s_are_ascending ["items"])  : CalD P w K mg base "are_ascending" 1 1 F_are_ascending :=
  mkD (N := ["items", "at"]) (ps := ["items"]) (k := 0) (n := 1) (m := 2) (g := g_are_ascending) hD sc_are_ascending rfl rfl (by decide) fun f cdv A outer s H E hr => (pb_one (ps_rt (pp_call1 (bk_all Bn (by rfl)) (cd_all rfl) (pd_of (pp_lc (own := [("at", 1)]) rfl sc_are_ascending.nd (pir_range1 (by rfl) Bn.range (par_cons (pd_of (pp_bin op_sub g_sub (pd_of (pp_call1O (i := 0) (bk_len Bn (by rfl)) cd_len rfl (vis_c rfl))) pd_int)) par_nil)) (blkOk_by (N := ["items", "at"]) (sc := defScope s_are_ascending) (by decide +kernel)) (fun _ _ _ _ _ => (pg_name (i := 1) sc_are_ascending.nd rfl (.inl rfl))) tg_nm (by decide) (fun _ _ _ _ _ => ptr_nil) (fun _ _ _ _ _ => (pd_of (pp_cmp (op_lt' (hu64 hr)) g_lt (pd_of (pp_ixO (i := 0) rfl (by first | exact .inr (.inr rfl) | exact .inl rfl | exact .inr (.inl rfl)) (pd_of (pp_var (i := 1) rfl (by first | exact .inr (.inr rfl) | exact .inl rfl | exact .inr (.inl rfl)))))) (pd_of (pp_ixO (i := 0) rfl (by first | exact .inr (.inr rfl) | exact .inl rfl | exact .inr (.inl rfl)) (pd_of (pp_bin op_add' GOp.gg (pd_of (pp_var (i := 1) rfl (by first | exact .inr (.inr rfl) | exact .inl rfl | exact .inr (.inl rfl)))) pd_int))))))))))))
abbrev s_is_group : Stmt := topS 5
theorem sc_is_group : FnScope ["value", "count", "high"] ["value", "count", "high"] (defScope s_is_group) := ⟨rfl, rfl, rfl, by decide +kernel, rfl, by decide +kernel, by decide +kernel⟩
noncomputable def g_is_group : Ev → SR := fRet (fAndV (fCallD F_are_within (fConsX (fP (fD (fVar 0))) (fConsX (fP (fC (.int 0))) (fConsX (fP (fD (fVar 2))) (fNilX))))) (fAndV (fBin eqD (fD (fUnO lenD 0)) (fD (fVar 1))) (fCallD F_are_ascending (fConsX (fP (fD (fVar 0))) (fNilX)))))
noncomputable def F_is_group : List SV → FR := runD 3 g_is_group
theorem ok_is_group (Bn : BI mg) (hD : Df K mg "is_group" s_is_group ["value", "count", "high"]) (C_are_ascending : CalD P w K mg base "are_ascending" 1 1 F_are_ascending) (C_are_within : CalD P w K mg base "are_within" 3 3 F_are_within) : CalD P w K mg base "is_group" 3 4 F_is_group :=
  mkD (N := ["value", "count", "high"]) (ps := ["value", "count", "high"]) (k := 3) (n := 3) (m := 3) (g := g_is_group) hD sc_is_group rfl rfl (by decide) fun f cdv A outer s H E hr => (pb_one (ps_rt (pp_and (ppc C_are_within (hr.mono (by decide)) (by rfl) (passX (L2N.takes_of rfl rfl rfl rfl)) (pax_d (pd_of (pp_var (i := 0) rfl (vis_l rfl))) (pax_d pd_int (pax_d (pd_of (pp_var (i := 2) rfl (vis_l rfl))) pax_nil))) (len_consX (len_consX (len_consX len_nilX)))) (pp_and (pp_cmp (op_eq' (hu64 hr)) g_eq (pd_of (pp_call1O (i := 0) (bk_len Bn (by rfl)) cd_len rfl (vis_l rfl))) (pd_of (pp_var (i := 1) rfl (vis_l rfl)))) (pp_one (ppc C_are_ascending (hr.mono (by decide)) (by rfl) (passX (L2N.takes_of rfl rfl rfl rfl)) (pax_d (pd_of (pp_var (i := 0) rfl (vis_l rfl))) pax_nil) (len_consX len_nilX)))))))
abbrev s_check_many : Stmt := topS 18
theorem sc_check_many : FnScope ["value"] ["value"] (defScope s_check_many) := ⟨rfl, rfl, rfl, by decide +kernel, rfl, by decide +kernel, by decide +kernel⟩
noncomputable def g_check_many : Ev → SR := fIfS (fNotT (fTru (fD (fCallD F_is_within (fConsX (fP (fD (fVar 0))) (fConsX (fP (fC (.int 1))) (fConsX (fP (fC (.int 30))) (fNilX)))))))) (fRais "InvalidMany") (fNx)
noncomputable def F_check_many : List SV → FR := runD 1 g_check_many
theorem ok_check_many (Bn : BI mg) (hD : Df K mg "check_many" s_check_many ["value"]) (C_is_within : CalD P w K mg base "is_within" 3 2 F_is_within) (E_InvalidMany : ErX K mg "InvalidMany") {t_MOST_THINGS : Tok} (G_MOST_THINGS : mg "MOST_THINGS" = some (.int 30 t_MOST_THINGS)) : CalD P w K mg base "check_many" 1 3 F_check_many :=
  mkD (N := ["value"]) (ps := ["value"]) (k := 2) (n := 1) (m := 1) (g := g_check_many) hD sc_check_many rfl rfl (by decide) fun f cdv A outer s H E hr => (pb_one (ps_iff (ptt_not (ptt_tru (pd_of (ppc C_is_within (hr.mono (by decide)) (by rfl) (passX (L2N.takes_of rfl rfl rfl rfl)) (pax_d (pd_of (pp_var (i := 0) rfl (vis_l rfl))) (pax_d pd_int (pax_d (pd_glob (by rfl) G_MOST_THINGS) pax_nil))) (len_consX (len_consX (len_consX len_nilX))))))) (pb_one (psrs rfl (L2N.takes_of rfl rfl rfl rfl) E_InvalidMany (by rfl))) pb_nil))
abbrev s_count_falls_at : Stmt := topS 20
theorem sc_count_falls_at : FnScope ["many", "places", "counts", "place", "lesser"] ["many", "places"] (defScope s_count_falls_at) := ⟨rfl, rfl, rfl, by decide +kernel, rfl, by decide +kernel, by decide +kernel⟩
noncomputable def g_count_falls_at : Ev → SR := fSeq (fDrop (fCallD F_check_many (fConsX (fP (fD (fVar 0))) (fNilX)))) (fSeq (fIfS (fOrT (fNotT (fTru (fD (fIsi .tuple (fD (fVar 1)))))) (fNotT (fTru (fD (fCallD F_is_group (fConsX (fP (fD (fVar 1))) (fConsX (fP (fD (fUnO lenD 1))) (fConsX (fP (fD (fBin subD (fD (fVar 0)) (fC (.int 2))))) (fNilX))))))))) (fRais "InvalidPlaces") (fNx)) (fSeq (fSet 2 (fLst (fCons (fC (.int 1)) (fNil)))) (fSeq (fFor (fArgs rng1D (fCons (fD (fBin subD (fD (fVar 0)) (fC (.int 1)))) (fNil))) (bNm 3) (fIfS (fT (fBin inD (fD (fVar 3)) (fD (fVar 1)))) (fSet 2 (fLc (fArgs rng1D (fCons (fD (fBin addD (fD (fUnO lenD 2)) (fC (.int 1)))) (fNil))) (bNm 4) (fYes) (fD (fUn sumD (fD (fSl (fD (fVar 2)) (fPart (fD (fVar 4))) (fNoPart))))) [4])) (fSet 2 (fLc (fArgs rng1D (fCons (fD (fBin addD (fD (fUnO lenD 2)) (fC (.int 1)))) (fNil))) (bNm 4) (fYes) (fD (fUn sumD (fD (fSl (fD (fVar 2)) (fNoPart) (fPart (fD (fVar 4))))))) [4])))) (fRet (fUnO sumD 2)))))
noncomputable def F_count_falls_at : List SV → FR := runD 5 g_count_falls_at
theorem ok_count_falls_at (Bn : BI mg) (hD : Df K mg "count_falls_at" s_count_falls_at ["many", "places"]) (C_check_many : CalD P w K mg base "check_many" 1 3 F_check_many) (C_is_group : CalD P w K mg base "is_group" 3 4 F_is_group) (E_InvalidPlaces : ErX K mg "InvalidPlaces") : CalD P w K mg base "count_falls_at" 2 5 F_count_falls_at :=
  mkD (N := ["many", "places", "counts", "place", "lesser"]) (ps := ["many", "places"]) (k := 4) (n := 2) (m := 5) (g := g_count_falls_at) hD sc_count_falls_at rfl rfl (by decide) fun f cdv A outer s H E hr => (pb_cons (ps_drop (ppc C_check_many (hr.mono (by decide)) (by rfl) (passX (L2N.takes_of rfl rfl rfl rfl)) (pax_d (pd_of (pp_var (i := 0) rfl (vis_l rfl))) pax_nil) (len_consX len_nilX))) (pb_cons (ps_iff (PW.pt (pwt_or (ptt_not (ptt_tru (pd_of (pp_isi .tuple (bk_isinstance Bn (by rfl)) (bk_tuple Bn (by rfl)) (pd_of (pp_var (i := 1) rfl (vis_l rfl))))))) (pwt_or1 (ptt_not (ptt_tru (pd_of (ppc C_is_group (hr.mono (by decide)) (by rfl) (passX (L2N.takes_of rfl rfl rfl rfl)) (pax_d (pd_of (pp_var (i := 1) rfl (vis_l rfl))) (pax_d (pd_of (pp_call1O (i := 1) (bk_len Bn (by rfl)) cd_len rfl (vis_l rfl))) (pax_d (pd_of (pp_bin op_sub g_sub (pd_of (pp_var (i := 0) rfl (vis_l rfl))) pd_int)) pax_nil))) (len_consX (len_consX (len_consX len_nilX)))))))))) (pb_one (psrs rfl (L2N.takes_of rfl rfl rfl rfl) E_InvalidPlaces (by rfl))) pb_nil) (pb_cons (ps_st (i := 2) sc_count_falls_at.nd rfl (.inr rfl) (pp_lst (par_cons pd_int par_nil))) (pb_cons (ps_forr (passes_of rfl) rfl (pir_range1 (by rfl) Bn.range (par_cons (pd_of (pp_bin op_sub g_sub (pd_of (pp_var (i := 0) rfl (vis_l rfl))) pd_int)) par_nil)) (pg_name (i := 3) sc_count_falls_at.nd rfl (.inl rfl)) tg_nm (pb_one (ps_iff (ptt_cmp (op_in' (hu64 hr)) g_in (pd_of (pp_var (i := 3) rfl (vis_l rfl))) (pd_of (pp_var (i := 1) rfl (vis_l rfl)))) (pb_one (ps_st (i := 2) sc_count_falls_at.nd rfl (.inr rfl) (pp_lc (own := [("lesser", 4)]) rfl sc_count_falls_at.nd (pir_range1 (by rfl) Bn.range (par_cons (pd_of (pp_bin op_add' GOp.gg (pd_of (pp_call1O (i := 2) (bk_len Bn (by rfl)) cd_len rfl (vis_c rfl))) pd_int)) par_nil)) (blkOk_by (N := ["many", "places", "counts", "place", "lesser"]) (sc := defScope s_count_falls_at) (by decide +kernel)) (fun _ _ _ _ _ => (pg_name (i := 4) sc_count_falls_at.nd rfl (.inl rfl))) tg_nm (by decide) (fun _ _ _ _ _ => ptr_nil) (fun _ _ _ _ _ => (pd_of (pp_call1 (bk_sum Bn (by rfl)) (cd_sum rfl) (pd_of (pp_sl (pd_of (pp_var (i := 2) rfl (by first | exact .inr (.inr rfl) | exact .inl rfl | exact .inr (.inl rfl)))) (por_some (pd_of (pp_var (i := 4) rfl (by first | exact .inr (.inr rfl) | exact .inl rfl | exact .inr (.inl rfl))))) por_none)))))))) (pb_one (ps_st (i := 2) sc_count_falls_at.nd rfl (.inr rfl) (pp_lc (own := [("lesser", 4)]) rfl sc_count_falls_at.nd (pir_range1 (by rfl) Bn.range (par_cons (pd_of (pp_bin op_add' GOp.gg (pd_of (pp_call1O (i := 2) (bk_len Bn (by rfl)) cd_len rfl (vis_c rfl))) pd_int)) par_nil)) (blkOk_by (N := ["many", "places", "counts", "place", "lesser"]) (sc := defScope s_count_falls_at) (by decide +kernel)) (fun _ _ _ _ _ => (pg_name (i := 4) sc_count_falls_at.nd rfl (.inl rfl))) tg_nm (by decide) (fun _ _ _ _ _ => ptr_nil) (fun _ _ _ _ _ => (pd_of (pp_call1 (bk_sum Bn (by rfl)) (cd_sum rfl) (pd_of (pp_sl (pd_of (pp_var (i := 2) rfl (by first | exact .inr (.inr rfl) | exact .inl rfl | exact .inr (.inl rfl)))) por_none (por_some (pd_of (pp_var (i := 4) rfl (by first | exact .inr (.inr rfl) | exact .inl rfl | exact .inr (.inl rfl)))))))))))))))) (pb_one (ps_rt (pp_call1O (i := 2) (bk_sum Bn (by rfl)) (cd_sum rfl) rfl (vis_c rfl))))))))
abbrev s__law_drum : Stmt := topS 22
theorem sc__law_drum : FnScope ["_law_cell", "_law_turn", "_law_great"] ["_law_cell", "_law_turn"] (defScope s__law_drum) := ⟨rfl, rfl, rfl, by decide +kernel, rfl, by decide +kernel, by decide +kernel⟩
noncomputable def g__law_drum : Ev → SR := fSeq (fSet 2 (fIf (fT (fBin geD (fD (fVar 0)) (fD (fBin powD (fC (.int 10)) (fC (.int 18)))))) (fBin addD (fD (fBin fdivD (fD (fVar 0)) (fC (.int 7)))) (fD (fBin mulD (fC (.int 61)) (fD (fVar 1))))) (fP (fC (.int 0))))) (fRet (fLst (fCons (fD (fVar 2)) (fCons (fD (fBin addD (fD (fBin modD (fD (fUn intD (fD (fBin addD (fD (fBin mulD (fD (fVar 0)) (fC (.int 97)))) (fD (fBin mulD (fC (.int 1087)) (fD (fVar 1)))))))) (fC (.int 2077504273)))) (fC (.int 71)))) (fNil)))))
noncomputable def F__law_drum : List SV → FR := runD 3 g__law_drum
theorem ok__law_drum (Bn : BI mg) (hD : Df K mg "_law_drum" s__law_drum ["_law_cell", "_law_turn"])  : CalD P w K mg base "_law_drum" 2 1 F__law_drum :=
  mkD (N := ["_law_cell", "_law_turn", "_law_great"]) (ps := ["_law_cell", "_law_turn"]) (k := 0) (n := 2) (m := 3) (g := g__law_drum) hD sc__law_drum rfl rfl (by decide) fun f cdv A outer s H E hr => (pb_cons (ps_st (i := 2) sc__law_drum.nd rfl (.inl rfl) (pp_if (ptt_cmp (op_ge' (hu64 hr)) g_ge (pd_of (pp_var (i := 0) rfl (vis_l rfl))) (pd_of (pp_bin op_pow g_pow pd_int pd_int))) (pp_bin op_add' GOp.gg (pd_of (pp_bin op_fdivW g_fdiv (pd_of (pp_var (i := 0) rfl (vis_l rfl))) pd_int)) (pd_of (pp_bin op_mul' GOp.gg pd_int (pd_of (pp_var (i := 1) rfl (vis_l rfl)))))) (pp_of pd_int))) (pb_one (ps_rt (pp_lst (par_cons (pd_of (pp_var (i := 2) rfl (vis_l rfl))) (par_cons (pd_of (pp_bin op_add' GOp.gg (pd_of (pp_bin op_mod g_mod (pd_of (pp_call1 (bk_int Bn (by rfl)) cd_int (pd_of (pp_bin op_add' GOp.gg (pd_of (pp_bin op_mul' GOp.gg (pd_of (pp_var (i := 0) rfl (vis_l rfl))) pd_int)) (pd_of (pp_bin op_mul' GOp.gg pd_int (pd_of (pp_var (i := 1) rfl (vis_l rfl))))))))) pd_int)) pd_int)) par_nil))))))
abbrev s__law_roll : Stmt := topS 23
theorem sc__law_roll : FnScope ["_law_keg", "_law_many", "_law_found", "_law_deep"] ["_law_keg", "_law_many"] (defScope s__law_roll) := ⟨rfl, rfl, rfl, by decide +kernel, rfl, by decide +kernel, by decide +kernel⟩
noncomputable def g__law_roll : Ev → SR := fSeq (fIfS (fT (fBin gtD (fD (fIxO 0 (fC (.int 0)))) (fC (.int 0)))) (fSeq (fSet 2 (fBin modD (fD (fUn intD (fD (fIxO 0 (fC (.int 0)))))) (fD (fVar 1)))) (fSeq (fSto 0 (fC (.int 0)) (fD (fBin fdivD (fD (fIxO 0 (fC (.int 0)))) (fD (fVar 1))))) (fRet (fMove 2)))) (fNx)) (fSeq (fSto 0 (fC (.int 1)) (fD (fBin modD (fD (fUn intD (fD (fBin addD (fD (fBin mulD (fD (fIxO 0 (fC (.int 1)))) (fC (.int 30671)))) (fC (.int 8807)))))) (fC (.int 2147483549))))) (fSeq (fSet 3 (fBin modD (fD (fUn intD (fD (fBin mulD (fD (fIxO 0 (fC (.int 1)))) (fD (fBin addD (fD (fIxO 0 (fC (.int 1)))) (fC (.int 101)))))))) (fC (.int 2147483587)))) (fRet (fBin modD (fD (fUn intD (fD (fBin fdivD (fD (fVar 3)) (fC (.int 613)))))) (fD (fVar 1))))))
noncomputable def F__law_roll : OB → List SV → FR := runO 4 g__law_roll
theorem ok__law_roll (Bn : BI mg) (hD : Df K mg "_law_roll" s__law_roll ["_law_keg", "_law_many"])  : CalO P w K mg base "_law_roll" 2 1 F__law_roll :=
  mkO (N := ["_law_keg", "_law_many", "_law_found", "_law_deep"]) (ps := ["_law_keg", "_law_many"]) (k := 0) (n := 2) (m := 4) (g := g__law_roll) hD sc__law_roll rfl rfl (by decide) fun f cdv A outer s H E hr => (pb_cons (ps_iff (ptt_cmp (op_gt' (hu64 hr)) g_gt (pd_of (pp_ixO (i := 0) rfl (vis_l rfl) pd_int)) pd_int) (pb_cons (ps_st (i := 2) sc__law_roll.nd rfl (.inl rfl) (pp_bin op_mod g_mod (pd_of (pp_call1 (bk_int Bn (by rfl)) cd_int (pd_of (pp_ixO (i := 0) rfl (vis_l rfl) pd_int)))) (pd_of (pp_var (i := 1) rfl (vis_l rfl))))) (pb_cons (ps_sto (i := 0) rfl (vis_l rfl) pd_int (pd_of (pp_bin op_fdivW g_fdiv (pd_of (pp_ixO (i := 0) rfl (vis_l rfl) pd_int)) (pd_of (pp_var (i := 1) rfl (vis_l rfl)))))) (pb_one (ps_rt (pp_move (i := 2) rfl (vis_l rfl)))))) pb_nil) (pb_cons (ps_sto (i := 0) rfl (vis_l rfl) pd_int (pd_of (pp_bin op_mod g_mod (pd_of (pp_call1 (bk_int Bn (by rfl)) cd_int (pd_of (pp_bin op_add' GOp.gg (pd_of (pp_bin op_mul' GOp.gg (pd_of (pp_ixO (i := 0) rfl (vis_l rfl) pd_int)) pd_int)) pd_int)))) pd_int))) (pb_cons (ps_st (i := 3) sc__law_roll.nd rfl (.inl rfl) (pp_bin op_mod g_mod (pd_of (pp_call1 (bk_int Bn (by rfl)) cd_int (pd_of (pp_bin op_mul' GOp.gg (pd_of (pp_ixO (i := 0) rfl (vis_l rfl) pd_int)) (pd_of (pp_bin op_add' GOp.gg (pd_of (pp_ixO (i := 0) rfl (vis_l rfl) pd_int)) pd_int)))))) pd_int)) (pb_one (ps_rt (pp_bin op_mod g_mod (pd_of (pp_call1 (bk_int Bn (by rfl)) cd_int (pd_of (pp_bin op_fdivW g_fdiv (pd_of (pp_var (i := 3) rfl (vis_l rfl))) pd_int)))) (pd_of (pp_var (i := 1) rfl (vis_l rfl)))))))))
abbrev s__law_some : Stmt := topS 24
theorem sc__law_some : FnScope ["_law_keg", "_law_things"] ["_law_keg", "_law_things"] (defScope s__law_some) := ⟨rfl, rfl, rfl, by decide +kernel, rfl, by decide +kernel, by decide +kernel⟩
noncomputable def g__law_some : Ev → SR := fRet (fIxO 1 (fD (fCallO F__law_roll 0 (fConsX (fP (fD (fUnO lenD 1))) (fNilX)))))
noncomputable def F__law_some : OB → List SV → FR := runO 2 g__law_some
theorem ok__law_some (Bn : BI mg) (hD : Df K mg "_law_some" s__law_some ["_law_keg", "_law_things"]) (C__law_roll : CalO P w K mg base "_law_roll" 2 1 F__law_roll) : CalO P w K mg base "_law_some" 2 2 F__law_some :=
  mkO (N := ["_law_keg", "_law_things"]) (ps := ["_law_keg", "_law_things"]) (k := 1) (n := 2) (m := 2) (g := g__law_some) hD sc__law_some rfl rfl (by decide) fun f cdv A outer s H E hr => (pb_one (ps_rt (pp_ixO (i := 1) rfl (vis_l rfl) (pd_of (ppcO (i := 0) C__law_roll (hr.mono (by decide)) (by rfl) (passX (L2N.takes_of rfl rfl rfl rfl)) rfl (vis_l rfl) (pax_d (pd_of (pp_call1O (i := 1) (bk_len Bn (by rfl)) cd_len rfl (vis_l rfl))) pax_nil) (len_consX len_nilX))))))
abbrev s__law_all : Stmt := topS 25
theorem sc__law_all : FnScope ["_law_many", "_law_found", "_law_turn", "_law_longer", "_law_head", "_law_thing"] ["_law_many"] (defScope s__law_all) := ⟨rfl, rfl, rfl, by decide +kernel, rfl, by decide +kernel, by decide +kernel⟩
noncomputable def g__law_all : Ev → SR := fSeq (fSet 1 (fLst (fCons (fD (fTup (fNil))) (fNil)))) (fSeq (fFor (fArgs rng1D (fCons (fD (fVar 0)) (fNil))) (bNm 2) (fSeq (fSet 3 (fLst (fNil))) (fSeq (fFor (fIt (fD (fVar 1))) (bNm 4) (fSet 3 (fBin addD (fD (fVar 3)) (fD (fLc (fArgs rng1D (fCons (fD (fVar 0)) (fNil))) (bNm 5) (fT (fBin notInD (fD (fVar 5)) (fD (fVar 4)))) (fD (fBin addD (fD (fVar 4)) (fD (fTup (fCons (fD (fVar 5)) (fNil)))))) [5]))))) (fSet 1 (fVar 3))))) (fRet (fMove 1)))
noncomputable def F__law_all : List SV → FR := runD 6 g__law_all
theorem ok__law_all (Bn : BI mg) (hD : Df K mg "_law_all" s__law_all ["_law_many"])  : CalD P w K mg base "_law_all" 1 1 F__law_all :=
  mkD (N := ["_law_many", "_law_found", "_law_turn", "_law_longer", "_law_head", "_law_thing"]) (ps := ["_law_many"]) (k := 0) (n := 1) (m := 6) (g := g__law_all) hD sc__law_all rfl rfl (by decide) fun f cdv A outer s H E hr => (pb_cons (ps_st (i := 1) sc__law_all.nd rfl (.inl rfl) (pp_lst (par_cons (pd_of (pp_tup par_nil)) par_nil))) (pb_cons (ps_forr (passes_of rfl) rfl (pir_range1 (by rfl) Bn.range (par_cons (pd_of (pp_var (i := 0) rfl (vis_l rfl))) par_nil)) (pg_name (i := 2) sc__law_all.nd rfl (.inl rfl)) tg_nm (pb_cons (ps_st (i := 3) sc__law_all.nd rfl (.inl rfl) (pp_lst par_nil)) (pb_cons (ps_forr (passes_of rfl) rfl (pir_seq (pd_of (pp_var (i := 1) rfl (vis_l rfl)))) (pg_name (i := 4) sc__law_all.nd rfl (.inr rfl)) tg_nm (pb_one (ps_st (i := 3) sc__law_all.nd rfl (.inl rfl) (pp_bin op_add' GOp.gg (pd_of (pp_var (i := 3) rfl (vis_l rfl))) (pd_of (pp_lc (own := [("_law_thing", 5)]) rfl sc__law_all.nd (pir_range1 (by rfl) Bn.range (par_cons (pd_of (pp_var (i := 0) rfl (vis_l rfl))) par_nil)) (blkOk_by (N := ["_law_many", "_law_found", "_law_turn", "_law_longer", "_law_head", "_law_thing"]) (sc := defScope s__law_all) (by decide +kernel)) (fun _ _ _ _ _ => (pg_name (i := 5) sc__law_all.nd rfl (.inl rfl))) tg_nm (by decide) (fun _ _ _ _ _ => (ptr_one (ptt_cmp (op_notIn' (hu64 hr)) g_notIn (pd_of (pp_var (i := 5) rfl (by first | exact .inr (.inr rfl) | exact .inl rfl | exact .inr (.inl rfl)))) (pd_of (pp_var (i := 4) rfl (by first | exact .inr (.inr rfl) | exact .inl rfl | exact .inr (.inl rfl))))))) (fun _ _ _ _ _ => (pd_of (pp_bin op_add' GOp.gg (pd_of (pp_var (i := 4) rfl (by first | exact .inr (.inr rfl) | exact .inl rfl | exact .inr (.inl rfl)))) (pd_of (pp_tup (par_cons (pd_of (pp_var (i := 5) rfl (by first | exact .inr (.inr rfl) | exact .inl rfl | exact .inr (.inl rfl)))) par_nil)))))))))))) (pb_one (ps_st (i := 1) sc__law_all.nd rfl (.inl rfl) (pp_var (i := 3) rfl (vis_l rfl))))))) (pb_one (ps_rt (pp_move (i := 1) rfl (vis_l rfl))))))
abbrev s__law_falls : Stmt := topS 26
theorem sc__law_falls : FnScope ["_law_row", "_law_at"] ["_law_row"] (defScope s__law_falls) := ⟨rfl, rfl, rfl, by decide +kernel, rfl, by decide +kernel, by decide +kernel⟩
noncomputable def g__law_falls : Ev → SR := fRet (fLc (fArgs rng1D (fCons (fD (fBin subD (fD (fUnO lenD 0)) (fC (.int 1)))) (fNil))) (bNm 1) (fT (fBin gtD (fD (fIxO 0 (fD (fVar 1)))) (fD (fIxO 0 (fD (fBin addD (fD (fVar 1)) (fC (.int 1)))))))) (fD (fVar 1)) [1])
noncomputable def F__law_falls : List SV → FR := runD 2 g__law_falls
theorem ok__law_falls (Bn : BI mg) (hD : Df K mg "_law_falls" s__law_falls ["_law_row"])  : CalD P w K mg base "_law_falls" 1 1 F__law_falls :=
  mkD (N := ["_law_row", "_law_at"]) (ps := ["_law_row"]) (k := 0) (n := 1) (m := 2) (g := g__law_falls) hD sc__law_falls rfl rfl (by decide) fun f cdv A outer s H E hr => (pb_one (ps_rt (pp_lc (own := [("_law_at", 1)]) rfl sc__law_falls.nd (pir_range1 (by rfl) Bn.range (par_cons (pd_of (pp_bin op_sub g_sub (pd_of (pp_call1O (i := 0) (bk_len Bn (by rfl)) cd_len rfl (vis_c rfl))) pd_int)) par_nil)) (blkOk_by (N := ["_law_row", "_law_at"]) (sc := defScope s__law_falls) (by decide +kernel)) (fun _ _ _ _ _ => (pg_name (i := 1) sc__law_falls.nd rfl (.inl rfl))) tg_nm (by decide) (fun _ _ _ _ _ => (ptr_one (ptt_cmp (op_gt' (hu64 hr)) g_gt (pd_of (pp_ixO (i := 0) rfl (by first | exact .inr (.inr rfl) | exact .inl rfl | exact .inr (.inl rfl)) (pd_of (pp_var (i := 1) rfl (by first | exact .inr (.inr rfl) | exact .inl rfl | exact .inr (.inl rfl)))))) (pd_of (pp_ixO (i := 0) rfl (by first | exact .inr (.inr rfl) | exact .inl rfl | exact .inr (.inl rfl)) (pd_of (pp_bin op_add' GOp.gg (pd_of (pp_var (i := 1) rfl (by first | exact .inr (.inr rfl) | exact .inl rfl | exact .inr (.inl rfl)))) pd_int))))))) (fun _ _ _ _ _ => (pd_of (pp_var (i := 1) rfl (by first | exact .inr (.inr rfl) | exact .inl rfl | exact .inr (.inl rfl))))))))
abbrev s__law_factorial : Stmt := topS 27
theorem sc__law_factorial : FnScope ["_law_many", "_law_found", "_law_one"] ["_law_many"] (defScope s__law_factorial) := ⟨rfl, rfl, rfl, by decide +kernel, rfl, by decide +kernel, by decide +kernel⟩
noncomputable def g__law_factorial : Ev → SR := fSeq (fSet 1 (fP (fC (.int 1)))) (fSeq (fFor (fArgs rng1D (fCons (fD (fVar 0)) (fNil))) (bNm 2) (fSet 1 (fBin mulD (fD (fVar 1)) (fD (fBin addD (fD (fVar 2)) (fC (.int 1))))))) (fRet (fMove 1)))
noncomputable def F__law_factorial : List SV → FR := runD 3 g__law_factorial
theorem ok__law_factorial (Bn : BI mg) (hD : Df K mg "_law_factorial" s__law_factorial ["_law_many"])  : CalD P w K mg base "_law_factorial" 1 1 F__law_factorial :=
  mkD (N := ["_law_many", "_law_found", "_law_one"]) (ps := ["_law_many"]) (k := 0) (n := 1) (m := 3) (g := g__law_factorial) hD sc__law_factorial rfl rfl (by decide) fun f cdv A outer s H E hr => (pb_cons (ps_st (i := 1) sc__law_factorial.nd rfl (.inl rfl) (pp_of pd_int)) (pb_cons (ps_forr (passes_of rfl) rfl (pir_range1 (by rfl) Bn.range (par_cons (pd_of (pp_var (i := 0) rfl (vis_l rfl))) par_nil)) (pg_name (i := 2) sc__law_factorial.nd rfl (.inl rfl)) tg_nm (pb_one (ps_st (i := 1) sc__law_factorial.nd rfl (.inl rfl) (pp_bin op_mul' GOp.gg (pd_of (pp_var (i := 1) rfl (vis_l rfl))) (pd_of (pp_bin op_add' GOp.gg (pd_of (pp_var (i := 2) rfl (vis_l rfl))) pd_int)))))) (pb_one (ps_rt (pp_move (i := 1) rfl (vis_l rfl))))))
abbrev s__law_places : Stmt := topS 30
theorem sc__law_places : FnScope ["_law_keg", "_law_many", "_law_part", "_law_place"] ["_law_keg", "_law_many", "_law_part"] (defScope s__law_places) := ⟨rfl, rfl, rfl, by decide +kernel, rfl, by decide +kernel, by decide +kernel⟩
noncomputable def g__law_places : Ev → SR := fRet (fUn tupleD (fD (fLc (fArgs rng1D (fCons (fD (fBin subD (fD (fVar 1)) (fC (.int 1)))) (fNil))) (bNm 3) (fT (fBin eqD (fD (fCallO F__law_roll 0 (fConsX (fP (fD (fVar 2))) (fNilX)))) (fC (.int 0)))) (fD (fVar 3)) [3])))
noncomputable def F__law_places : OB → List SV → FR := runO 4 g__law_places
theorem ok__law_places (Bn : BI mg) (hD : Df K mg "_law_places" s__law_places ["_law_keg", "_law_many", "_law_part"]) (C__law_roll : CalO P w K mg base "_law_roll" 2 1 F__law_roll) : CalO P w K mg base "_law_places" 3 2 F__law_places :=
  mkO (N := ["_law_keg", "_law_many", "_law_part", "_law_place"]) (ps := ["_law_keg", "_law_many", "_law_part"]) (k := 1) (n := 3) (m := 4) (g := g__law_places) hD sc__law_places rfl rfl (by decide) fun f cdv A outer s H E hr => (pb_one (ps_rt (pp_call1 (bk_tuple Bn (by rfl)) cd_tuple (pd_of (pp_lc (own := [("_law_place", 3)]) rfl sc__law_places.nd (pir_range1 (by rfl) Bn.range (par_cons (pd_of (pp_bin op_sub g_sub (pd_of (pp_var (i := 1) rfl (vis_l rfl))) pd_int)) par_nil)) (blkOk_by (N := ["_law_keg", "_law_many", "_law_part", "_law_place"]) (sc := defScope s__law_places) (by decide +kernel)) (fun _ _ _ _ _ => (pg_name (i := 3) sc__law_places.nd rfl (.inl rfl))) tg_nm (by decide) (fun _ _ _ _ _ => (ptr_one (ptt_cmp (op_eq' (hu64 hr)) g_eq (pd_of (ppcO (i := 0) C__law_roll (hr.mono (by decide)) (by rfl) passN rfl (by first | exact .inr (.inr rfl) | exact .inl rfl | exact .inr (.inl rfl)) (pax_d (pd_of (pp_var (i := 2) rfl (by first | exact .inr (.inr rfl) | exact .inl rfl | exact .inr (.inl rfl)))) pax_nil) (len_consX len_nilX))) pd_int))) (fun _ _ _ _ _ => (pd_of (pp_var (i := 3) rfl (by first | exact .inr (.inr rfl) | exact .inl rfl | exact .inr (.inl rfl))))))))))
abbrev s__law_parts : Stmt := topS 31
theorem sc__law_parts : FnScope ["_law_places_so", "_law_found", "_law_place", "_law_head"] ["_law_places_so"] (defScope s__law_parts) := ⟨rfl, rfl, rfl, by decide +kernel, rfl, by decide +kernel, by decide +kernel⟩
noncomputable def g__law_parts : Ev → SR := fSeq (fSet 1 (fLst (fCons (fD (fTup (fNil))) (fNil)))) (fSeq (fFor (fIt (fD (fVar 0))) (bNm 2) (fSet 1 (fBin addD (fD (fVar 1)) (fD (fLc (fIt (fD (fVar 1))) (bNm 3) (fYes) (fD (fBin addD (fD (fVar 3)) (fD (fTup (fCons (fD (fVar 2)) (fNil)))))) [3]))))) (fRet (fMove 1)))
noncomputable def F__law_parts : List SV → FR := runD 4 g__law_parts
theorem ok__law_parts (Bn : BI mg) (hD : Df K mg "_law_parts" s__law_parts ["_law_places_so"])  : CalD P w K mg base "_law_parts" 1 1 F__law_parts :=
  mkD (N := ["_law_places_so", "_law_found", "_law_place", "_law_head"]) (ps := ["_law_places_so"]) (k := 0) (n := 1) (m := 4) (g := g__law_parts) hD sc__law_parts rfl rfl (by decide) fun f cdv A outer s H E hr => (pb_cons (ps_st (i := 1) sc__law_parts.nd rfl (.inl rfl) (pp_lst (par_cons (pd_of (pp_tup par_nil)) par_nil))) (pb_cons (ps_forr (passes_of rfl) rfl (pir_seq (pd_of (pp_var (i := 0) rfl (vis_l rfl)))) (pg_name (i := 2) sc__law_parts.nd rfl (.inr rfl)) tg_nm (pb_one (ps_st (i := 1) sc__law_parts.nd rfl (.inl rfl) (pp_bin op_add' GOp.gg (pd_of (pp_var (i := 1) rfl (vis_l rfl))) (pd_of (pp_lc (own := [("_law_head", 3)]) rfl sc__law_parts.nd (pir_seq (pd_of (pp_var (i := 1) rfl (vis_l rfl)))) (blkOk_by (N := ["_law_places_so", "_law_found", "_law_place", "_law_head"]) (sc := defScope s__law_parts) (by decide +kernel)) (fun _ _ _ _ _ => (pg_name (i := 3) sc__law_parts.nd rfl (.inl rfl))) tg_nm (by decide) (fun _ _ _ _ _ => ptr_nil) (fun _ _ _ _ _ => (pd_of (pp_bin op_add' GOp.gg (pd_of (pp_var (i := 3) rfl (by first | exact .inr (.inr rfl) | exact .inl rfl | exact .inr (.inl rfl)))) (pd_of (pp_tup (par_cons (pd_of (pp_var (i := 2) rfl (by first | exact .inr (.inr rfl) | exact .inl rfl | exact .inr (.inl rfl)))) par_nil)))))))))))) (pb_one (ps_rt (pp_move (i := 1) rfl (vis_l rfl))))))
abbrev s__law_within : Stmt := topS 32
theorem sc__law_within : FnScope ["_law_many", "_law_places_so", "_law_found", "_law_start", "_law_place"] ["_law_many", "_law_places_so"] (defScope s__law_within) := ⟨rfl, rfl, rfl, by decide +kernel, rfl, by decide +kernel, by decide +kernel⟩
noncomputable def g__law_within : Ev → SR := fSeq (fPar [2, 3] (fConsS (fCallD F__law_factorial (fConsX (fP (fD (fVar 0))) (fNilX))) (fConsS (fP (fC (.int 0))) (fNilS)))) (fSeq (fFor (fIt (fD (fBin addD (fD (fUnO listD 1)) (fD (fLst (fCons (fD (fBin subD (fD (fVar 0)) (fC (.int 1)))) (fNil))))))) (bNm 4) (fSeq (fSet 2 (fBin fdivD (fD (fVar 2)) (fD (fCallD F__law_factorial (fConsX (fP (fD (fBin subD (fD (fBin addD (fD (fVar 4)) (fC (.int 1)))) (fD (fVar 3))))) (fNilX)))))) (fSet 3 (fBin addD (fD (fVar 4)) (fC (.int 1)))))) (fRet (fMove 2)))
noncomputable def F__law_within : List SV → FR := runD 5 g__law_within
theorem ok__law_within (Bn : BI mg) (hD : Df K mg "_law_within" s__law_within ["_law_many", "_law_places_so"]) (C__law_factorial : CalD P w K mg base "_law_factorial" 1 1 F__law_factorial) : CalD P w K mg base "_law_within" 2 2 F__law_within :=
  mkD (N := ["_law_many", "_law_places_so", "_law_found", "_law_start", "_law_place"]) (ps := ["_law_many", "_law_places_so"]) (k := 1) (n := 2) (m := 5) (g := g__law_within) hD sc__law_within rfl rfl (by decide) fun f cdv A outer s H E hr => (pb_cons (ps_par2 (i := 2) (j := 3) rfl sc__law_within.nd rfl rfl (by decide) rfl rfl (pas_cons (ppc C__law_factorial (hr.mono (by decide)) (by rfl) (passX (L2N.takes_of rfl rfl rfl rfl)) (pax_d (pd_of (pp_var (i := 0) rfl (vis_l rfl))) pax_nil) (len_consX len_nilX)) (pas_cons (pp_of pd_int) pas_nil))) (pb_cons (ps_forr (passes_of rfl) rfl (pir_seq (pd_of (pp_bin op_add' GOp.gg (pd_of (pp_call1O (i := 1) (bk_list Bn (by rfl)) cd_list rfl (vis_l rfl))) (pd_of (pp_lst (par_cons (pd_of (pp_bin op_sub g_sub (pd_of (pp_var (i := 0) rfl (vis_l rfl))) pd_int)) par_nil)))))) (pg_name (i := 4) sc__law_within.nd rfl (.inl rfl)) tg_nm (pb_cons (ps_st (i := 2) sc__law_within.nd rfl (.inl rfl) (pp_bin op_fdivW g_fdiv (pd_of (pp_var (i := 2) rfl (vis_l rfl))) (pd_of (ppc C__law_factorial (hr.mono (by decide)) (by rfl) (passX (L2N.takes_of rfl rfl rfl rfl)) (pax_d (pd_of (pp_bin op_sub g_sub (pd_of (pp_bin op_add' GOp.gg (pd_of (pp_var (i := 4) rfl (vis_l rfl))) pd_int)) (pd_of (pp_var (i := 3) rfl (vis_l rfl))))) pax_nil) (len_consX len_nilX))))) (pb_one (ps_st (i := 3) sc__law_within.nd rfl (.inl rfl) (pp_bin op_add' GOp.gg (pd_of (pp_var (i := 4) rfl (vis_l rfl))) pd_int))))) (pb_one (ps_rt (pp_move (i := 2) rfl (vis_l rfl))))))
abbrev s_law : Stmt := topS 33
theorem sc_law : FnScope ["_law_script", "_law_cell", "_law_keg", "_law_few", "_law_places_so", "_law_many", "_law_due", "_law_rest", "_law_odd", "_law_row", "_law_part", "_law_place"] ["_law_script"] (defScope s_law) := ⟨rfl, rfl, rfl, by decide +kernel, rfl, by decide +kernel, by decide +kernel⟩
noncomputable def g_lawB (lab : Str → Option Str) : Ev → SR := fSeq (fSet 2 (fCallD F__law_drum (fConsX (fP (fD (fVar 1))) (fConsX (fP (fC (.int 7))) (fNilX))))) (fSeq (fSet 3 (fBin addD (fC (.int 1)) (fD (fCallO F__law_roll 2 (fConsX (fP (fC (.int 5))) (fNilX)))))) (fSeq (fSet 4 (fCallO F__law_places 2 (fConsX (fP (fD (fVar 3))) (fConsX (fP (fC (.int 2))) (fNilX))))) (fSeq (fIfS (fT (fBin neD (fD (fCallD F_count_falls_at (fConsX (fP (fD (fVar 3))) (fConsX (fP (fD (fVar 4))) (fNilX))))) (fD (fUn lenD (fD (fLc (fIt (fD (fCallD F__law_all (fConsX (fP (fD (fVar 3))) (fNilX))))) (bNm 9) (fT (fBin eqD (fD (fUn tupleD (fD (fCallD F__law_falls (fConsX (fP (fD (fVar 9))) (fNilX)))))) (fD (fVar 4)))) (fD (fVar 9)) [9])))))) (fRet (fP (fC (.bool false)))) (fNx)) (fSeq (fSet 5 (fCallO F__law_some 2 (fConsX (fP (fD (fLst (fCons (fC (.int 5)) (fCons (fC (.int 8)) (fCons (fC (.int 13)) (fCons (fC (.int 30)) (fNil)))))))) (fNilX)))) (fSeq (fSet 4 (fSl (fD (fCallO F__law_places 2 (fConsX (fP (fD (fVar 5))) (fConsX (fP (fC (.int 3))) (fNilX))))) (fNoPart) (fPart (fC (.int 6))))) (fSeq (fIfS (fT (fBin neD (fD (fUn sumD (fD (fLc (fIt (fD (fCallD F__law_parts (fConsX (fP (fD (fVar 4))) (fNilX))))) (bNm 10) (fYes) (fD (fCallD F_count_falls_at (fConsX (fP (fD (fVar 5))) (fConsX (fP (fD (fVar 10))) (fNilX))))) [10])))) (fD (fCallD F__law_within (fConsX (fP (fD (fVar 5))) (fConsX (fP (fD (fVar 4))) (fNilX))))))) (fRet (fP (fC (.bool false)))) (fNx)) (fSeq (fSet 6 (fCallD F_count_falls_at (fConsX (fP (fD (fVar 5))) (fConsX (fP (fD (fVar 4))) (fNilX))))) (fSeq (fIfS (fT (fBin neD (fD (fCallD F_count_falls_at (fConsX (fP (fD (fVar 5))) (fConsX (fP (fD (fUn tupleD (fD (fLc (fIt (fD (fUn revD (fD (fVar 4))))) (bNm 11) (fYes) (fD (fBin subD (fD (fBin subD (fD (fVar 5)) (fC (.int 2)))) (fD (fVar 11)))) [11]))))) (fNilX))))) (fD (fVar 6)))) (fRet (fP (fC (.bool false)))) (fNx)) (fSeq (fSet 7 (fUn tupleD (fD (fLc (fArgs rng1D (fCons (fD (fBin subD (fD (fVar 5)) (fC (.int 1)))) (fNil))) (bNm 11) (fT (fBin notInD (fD (fVar 11)) (fD (fVar 4)))) (fD (fVar 11)) [11])))) (fSeq (fIfS (fOrT (fT (fBin neD (fD (fCallD F_count_falls_at (fConsX (fP (fD (fVar 5))) (fConsX (fP (fD (fVar 7))) (fNilX))))) (fD (fVar 6)))) (fT (fBin ltD (fD (fVar 6)) (fC (.int 1))))) (fRet (fP (fC (.bool false)))) (fNx)) (fSeq (fFor (fIt (fD (fTup (fCons (fC .none) (fCons (fD (fLst (fCons (fC (.int 0)) (fNil)))) (fCons (fD (fTup (fCons (fC (.int 1)) (fCons (fC (.int 0)) (fNil))))) (fCons (fD (fTup (fCons (fC (.int 0)) (fCons (fC (.int 0)) (fNil))))) (fCons (fD (fTup (fCons (fD (fBin subD (fD (fVar 5)) (fC (.int 1)))) (fNil)))) (fCons (fD (fTup (fCons (fD (fUn negD (fC (.int 1)))) (fNil)))) (fCons (fD (fTup (fCons (fC (.bool true)) (fNil)))) (fCons (fD (fTup (fCons (fC (.str "0")) (fNil)))) (fNil)))))))))))) (bNm 8) (fIfS (fT (fBin neD (fD (fErr lab (fCallD F_count_falls_at (fConsX (fP (fD (fVar 5))) (fConsX (fP (fD (fVar 8))) (fNilX)))))) (fC (.str "places value")))) (fRet (fP (fC (.bool false)))) (fNx))) (fFor (fIt (fD (fTup (fCons (fC .none) (fCons (fC (.int 0)) (fCons (fC (.int 31)) (fCons (fC (.bool true)) (fNil)))))))) (bNm 8) (fIfS (fT (fBin neD (fD (fErr lab (fCallD F_count_falls_at (fConsX (fP (fD (fVar 8))) (fConsX (fP (fC .none)) (fNilX)))))) (fC (.str "things value")))) (fRet (fP (fC (.bool false)))) (fNx))))))))))))))
noncomputable def g_lawR (lab : Str → Option Str) : Ev → SR := fSeq (fIfS (fT (fBin neD (fD (fLst (fCons (fD (fCallD F_count_falls_at (fConsX (fP (fC (.int 3))) (fConsX (fP (fD (fTup (fNil)))) (fNilX))))) (fCons (fD (fCallD F_count_falls_at (fConsX (fP (fC (.int 3))) (fConsX (fP (fD (fTup (fCons (fC (.int 1)) (fNil))))) (fNilX))))) (fCons (fD (fCallD F_count_falls_at (fConsX (fP (fC (.int 4))) (fConsX (fP (fD (fTup (fCons (fC (.int 1)) (fNil))))) (fNilX))))) (fNil)))))) (fD (fLst (fCons (fC (.int 1)) (fCons (fC (.int 2)) (fCons (fC (.int 5)) (fNil)))))))) (fRet (fP (fC (.bool false)))) (fNx)) (fSeq (fIfS (fT (fBin neD (fD (fCallD F_count_falls_at (fConsX (fP (fC (.int 5))) (fConsX (fP (fD (fTup (fCons (fC (.int 1)) (fCons (fC (.int 3)) (fNil)))))) (fNilX))))) (fC (.int 16)))) (fRet (fP (fC (.bool false)))) (fNx)) (fRet (fAndV (fBin eqD (fD (fCallD F_count_falls_at (fConsX (fP (fC (.int 1))) (fConsX (fP (fD (fTup (fNil)))) (fNilX))))) (fC (.int 1))) (fBin eqD (fD (fCallD F_count_falls_at (fConsX (fP (fC (.int 30))) (fConsX (fP (fD (fRg (fun xs => .d (.tuple xs)) (fCons (fC (.int 29)) fNil)))) (fNilX))))) (fC (.int 1))))))
noncomputable def g_law (lab : Str → Option Str) (ns : List Int) : Ev → SR := fSeq (forL ((bNm 1)) (g_lawB lab) (cellsD ns)) (g_lawR lab)
abbrev st_law : Stmt := (defBody s_law).headD (.Pass ⟨0, 0, 0, 0⟩)
theorem ok_lawB {T : List (Addr × Str)} {c f : Addr} {lab : Str → Option Str} {A : Around} {outer : List Env} {s : Shared} {H : Hp} {E : XK} (Bn : BI mg) (C__law_all : CalD P w K mg base "_law_all" 1 1 F__law_all) (C__law_drum : CalD P w K mg base "_law_drum" 2 1 F__law_drum) (C__law_falls : CalD P w K mg base "_law_falls" 1 1 F__law_falls) (C__law_parts : CalD P w K mg base "_law_parts" 1 1 F__law_parts) (C__law_places : CalO P w K mg base "_law_places" 3 2 F__law_places) (C__law_roll : CalO P w K mg base "_law_roll" 2 1 F__law_roll) (C__law_some : CalO P w K mg base "_law_some" 2 2 F__law_some) (C__law_within : CalD P w K mg base "_law_within" 2 2 F__law_within) (C_count_falls_at : CalD P w K mg base "count_falls_at" 2 5 F_count_falls_at) (WB : WdZ P w K mg base lab) (TB : TbZ mg base T c ((("law" : Str) ++ ".<locals>.") ++ "<lambda>")) (hr : Room 7 (A.deeper (envOfC "law" (defScope s_law) s.heap.objs.size f (.ref c)))) : PS (CxL P w K mg base ["_law_script", "_law_cell", "_law_keg", "_law_few", "_law_places_so", "_law_many", "_law_due", "_law_rest", "_law_odd", "_law_row", "_law_part", "_law_place"] s_law f (.ref c) A outer s H E) st_law (tForS (CxL P w K mg base ["_law_script", "_law_cell", "_law_keg", "_law_few", "_law_places_so", "_law_many", "_law_due", "_law_rest", "_law_odd", "_law_row", "_law_part", "_law_place"] s_law f (.ref c) A outer s H E) T E0 ((bNm 1)) (g_lawB lab)) :=
  ps_forS PassesOwn.never rfl (pi_scr rfl (vis_l rfl)) (pg_name (i := 1) sc_law.nd rfl (.inl rfl)) tg_nm (pb_cons (ps_st (i := 2) sc_law.nd rfl (.inl rfl) (ppc C__law_drum (hr.mono (by decide)) (by rfl) passN (pax_d (pd_of (pp_var (i := 1) rfl (vis_l rfl))) (pax_d pd_int pax_nil)) (len_consX (len_consX len_nilX)))) (pb_cons (ps_st (i := 3) sc_law.nd rfl (.inl rfl) (pp_bin op_add' GOp.gg pd_int (pd_of (ppcO (i := 2) C__law_roll (hr.mono (by decide)) (by rfl) passN rfl (vis_l rfl) (pax_d pd_int pax_nil) (len_consX len_nilX))))) (pb_cons (ps_st (i := 4) sc_law.nd rfl (.inr rfl) (ppcO (i := 2) C__law_places (hr.mono (by decide)) (by rfl) passN rfl (vis_l rfl) (pax_d (pd_of (pp_var (i := 3) rfl (vis_l rfl))) (pax_d pd_int pax_nil)) (len_consX (len_consX len_nilX)))) (pb_cons (ps_iff (ptt_cmp (op_ne' (hu64 hr)) g_ne (pd_of (ppc C_count_falls_at (hr.mono (by decide)) (by rfl) passN (pax_d (pd_of (pp_var (i := 3) rfl (vis_l rfl))) (pax_d (pd_of (pp_var (i := 4) rfl (vis_c rfl))) pax_nil)) (len_consX (len_consX len_nilX)))) (pd_of (pp_call1 (bk_len Bn (by rfl)) cd_len (pd_of (pp_lc (own := [("_law_row", 9)]) rfl sc_law.nd (pir_seq (pd_of (ppc C__law_all (hr.mono (by decide)) (by rfl) passN (pax_d (pd_of (pp_var (i := 3) rfl (vis_l rfl))) pax_nil) (len_consX len_nilX)))) (blkOk_by (N := ["_law_script", "_law_cell", "_law_keg", "_law_few", "_law_places_so", "_law_many", "_law_due", "_law_rest", "_law_odd", "_law_row", "_law_part", "_law_place"]) (sc := defScope s_law) (by decide +kernel)) (fun _ _ _ _ _ => (pg_name (i := 9) sc_law.nd rfl (.inl rfl))) tg_nm (by decide) (fun _ _ _ _ _ => (ptr_one (ptt_cmp (op_eq' (hu64 hr)) g_eq (pd_of (pp_call1 (bk_tuple Bn (by rfl)) cd_tuple (pd_of (ppc C__law_falls (hr.mono (by decide)) (by rfl) passN (pax_d (pd_of (pp_var (i := 9) rfl (by first | exact .inr (.inr rfl) | exact .inl rfl | exact .inr (.inl rfl)))) pax_nil) (len_consX len_nilX))))) (pd_of (pp_var (i := 4) rfl (by first | exact .inr (.inr rfl) | exact .inl rfl | exact .inr (.inl rfl))))))) (fun _ _ _ _ _ => (pd_of (pp_var (i := 9) rfl (by first | exact .inr (.inr rfl) | exact .inl rfl | exact .inr (.inl rfl)))))))))) (pb_one (ps_rt (pp_of pd_bl))) pb_nil) (pb_cons (ps_st (i := 5) sc_law.nd rfl (.inr rfl) (ppcO (i := 2) C__law_some (hr.mono (by decide)) (by rfl) passN rfl (vis_l rfl) (pax_d (pd_of (pp_lst (par_cons pd_int (par_cons pd_int (par_cons pd_int (par_cons pd_int par_nil)))))) pax_nil) (len_consX len_nilX))) (pb_cons (ps_st (i := 4) sc_law.nd rfl (.inr rfl) (pp_sl (pd_of (ppcO (i := 2) C__law_places (hr.mono (by decide)) (by rfl) passN rfl (vis_l rfl) (pax_d (pd_of (pp_var (i := 5) rfl (vis_c rfl))) (pax_d pd_int pax_nil)) (len_consX (len_consX len_nilX)))) por_none (por_some pd_int))) (pb_cons (ps_iff (ptt_cmp (op_ne' (hu64 hr)) g_ne (pd_of (pp_call1 (bk_sum Bn (by rfl)) (cd_sum rfl) (pd_of (pp_lc (own := [("_law_part", 10)]) rfl sc_law.nd (pir_seq (pd_of (ppc C__law_parts (hr.mono (by decide)) (by rfl) passN (pax_d (pd_of (pp_var (i := 4) rfl (vis_c rfl))) pax_nil) (len_consX len_nilX)))) (blkOk_by (N := ["_law_script", "_law_cell", "_law_keg", "_law_few", "_law_places_so", "_law_many", "_law_due", "_law_rest", "_law_odd", "_law_row", "_law_part", "_law_place"]) (sc := defScope s_law) (by decide +kernel)) (fun _ _ _ _ _ => (pg_name (i := 10) sc_law.nd rfl (.inl rfl))) tg_nm (by decide) (fun _ _ _ _ _ => ptr_nil) (fun _ _ _ _ _ => (pd_of (ppc C_count_falls_at (hr.mono (by decide)) (by rfl) passN (pax_d (pd_of (pp_var (i := 5) rfl (by first | exact .inr (.inr rfl) | exact .inl rfl | exact .inr (.inl rfl)))) (pax_d (pd_of (pp_var (i := 10) rfl (by first | exact .inr (.inr rfl) | exact .inl rfl | exact .inr (.inl rfl)))) pax_nil)) (len_consX (len_consX len_nilX))))))))) (pd_of (ppc C__law_within (hr.mono (by decide)) (by rfl) passN (pax_d (pd_of (pp_var (i := 5) rfl (vis_c rfl))) (pax_d (pd_of (pp_var (i := 4) rfl (vis_c rfl))) pax_nil)) (len_consX (len_consX len_nilX))))) (pb_one (ps_rt (pp_of pd_bl))) pb_nil) (pb_cons (ps_st (i := 6) sc_law.nd rfl (.inl rfl) (ppc C_count_falls_at (hr.mono (by decide)) (by rfl) passN (pax_d (pd_of (pp_var (i := 5) rfl (vis_c rfl))) (pax_d (pd_of (pp_var (i := 4) rfl (vis_c rfl))) pax_nil)) (len_consX (len_consX len_nilX)))) (pb_cons (ps_iff (ptt_cmp (op_ne' (hu64 hr)) g_ne (pd_of (ppc C_count_falls_at (hr.mono (by decide)) (by rfl) passN (pax_d (pd_of (pp_var (i := 5) rfl (vis_c rfl))) (pax_d (pd_of (pp_call1 (bk_tuple Bn (by rfl)) cd_tuple (pd_of (pp_lc (own := [("_law_place", 11)]) rfl sc_law.nd (pir_seq (pd_of (pp_rev (pd_of (pp_var (i := 4) rfl (vis_c rfl)))))) (blkOk_by (N := ["_law_script", "_law_cell", "_law_keg", "_law_few", "_law_places_so", "_law_many", "_law_due", "_law_rest", "_law_odd", "_law_row", "_law_part", "_law_place"]) (sc := defScope s_law) (by decide +kernel)) (fun _ _ _ _ _ => (pg_name (i := 11) sc_law.nd rfl (.inl rfl))) tg_nm (by decide) (fun _ _ _ _ _ => ptr_nil) (fun _ _ _ _ _ => (pd_of (pp_bin op_sub g_sub (pd_of (pp_bin op_sub g_sub (pd_of (pp_var (i := 5) rfl (by first | exact .inr (.inr rfl) | exact .inl rfl | exact .inr (.inl rfl)))) pd_int)) (pd_of (pp_var (i := 11) rfl (by first | exact .inr (.inr rfl) | exact .inl rfl | exact .inr (.inl rfl))))))))))) pax_nil)) (len_consX (len_consX len_nilX)))) (pd_of (pp_var (i := 6) rfl (vis_l rfl)))) (pb_one (ps_rt (pp_of pd_bl))) pb_nil) (pb_cons (ps_st (i := 7) sc_law.nd rfl (.inl rfl) (pp_call1 (bk_tuple Bn (by rfl)) cd_tuple (pd_of (pp_lc (own := [("_law_place", 11)]) rfl sc_law.nd (pir_range1 (by rfl) Bn.range (par_cons (pd_of (pp_bin op_sub g_sub (pd_of (pp_var (i := 5) rfl (vis_c rfl))) pd_int)) par_nil)) (blkOk_by (N := ["_law_script", "_law_cell", "_law_keg", "_law_few", "_law_places_so", "_law_many", "_law_due", "_law_rest", "_law_odd", "_law_row", "_law_part", "_law_place"]) (sc := defScope s_law) (by decide +kernel)) (fun _ _ _ _ _ => (pg_name (i := 11) sc_law.nd rfl (.inl rfl))) tg_nm (by decide) (fun _ _ _ _ _ => (ptr_one (ptt_cmp (op_notIn' (hu64 hr)) g_notIn (pd_of (pp_var (i := 11) rfl (by first | exact .inr (.inr rfl) | exact .inl rfl | exact .inr (.inl rfl)))) (pd_of (pp_var (i := 4) rfl (by first | exact .inr (.inr rfl) | exact .inl rfl | exact .inr (.inl rfl))))))) (fun _ _ _ _ _ => (pd_of (pp_var (i := 11) rfl (by first | exact .inr (.inr rfl) | exact .inl rfl | exact .inr (.inl rfl))))))))) (pb_cons (ps_iff (PW.pt (pwt_or (ptt_cmp (op_ne' (hu64 hr)) g_ne (pd_of (ppc C_count_falls_at (hr.mono (by decide)) (by rfl) passN (pax_d (pd_of (pp_var (i := 5) rfl (vis_c rfl))) (pax_d (pd_of (pp_var (i := 7) rfl (vis_l rfl))) pax_nil)) (len_consX (len_consX len_nilX)))) (pd_of (pp_var (i := 6) rfl (vis_l rfl)))) (pwt_or1 (ptt_cmp (op_lt' (hu64 hr)) g_lt (pd_of (pp_var (i := 6) rfl (vis_l rfl))) pd_int)))) (pb_one (ps_rt (pp_of pd_bl))) pb_nil) (pb_cons (ps_forr PassesOwn.never rfl (pir_seq (pd_of (pp_tup (par_cons pd_non (par_cons (pd_of (pp_lst (par_cons pd_int par_nil))) (par_cons (pd_of (pp_tup (par_cons pd_int (par_cons pd_int par_nil)))) (par_cons (pd_of (pp_tup (par_cons pd_int (par_cons pd_int par_nil)))) (par_cons (pd_of (pp_tup (par_cons (pd_of (pp_bin op_sub g_sub (pd_of (pp_var (i := 5) rfl (vis_c rfl))) pd_int)) par_nil))) (par_cons (pd_of (pp_tup (par_cons (pd_of (pp_neg pd_int)) par_nil))) (par_cons (pd_of (pp_tup (par_cons pd_bl par_nil))) (par_cons (pd_of (pp_tup (par_cons pd_str par_nil))) par_nil))))))))))) (pg_name (i := 8) sc_law.nd rfl (.inr rfl)) tg_nm (pb_one (ps_iff (ptt_cmp (op_ne' (hu64 hr)) g_ne (pd_of (ppe0 (T := T) (k := 5) WB TB (by rfl) rfl rfl rfl hr (lam0_by (by rfl)) (by rfl) (fun _ _ _ _ _ => rfl) (fun A outer s H E f c' hr2 => (ppc C_count_falls_at (hr2.mono (by decide)) (by rfl) (passX (L2N.takes_of rfl rfl rfl rfl)) (pax_d (pd_of (pp_var (i := 5) rfl (by first | exact .inr (.inr rfl) | exact .inl rfl | exact .inr (.inl rfl)))) (pax_d (pd_of (pp_var (i := 8) rfl (by first | exact .inr (.inr rfl) | exact .inl rfl | exact .inr (.inl rfl)))) pax_nil)) (len_consX (len_consX len_nilX)))))) pd_str) (pb_one (ps_rt (pp_of pd_bl))) pb_nil))) (pb_one (ps_forr PassesOwn.never rfl (pir_seq (pd_of (pp_tup (par_cons pd_non (par_cons pd_int (par_cons pd_int (par_cons pd_bl par_nil))))))) (pg_name (i := 8) sc_law.nd rfl (.inr rfl)) tg_nm (pb_one (ps_iff (ptt_cmp (op_ne' (hu64 hr)) g_ne (pd_of (ppe0 (T := T) (k := 5) WB TB (by rfl) rfl rfl rfl hr (lam0_by (by rfl)) (by rfl) (fun _ _ _ _ _ => rfl) (fun A outer s H E f c' hr2 => (ppc C_count_falls_at (hr2.mono (by decide)) (by rfl) (passX (L2N.takes_of rfl rfl rfl rfl)) (pax_d (pd_of (pp_var (i := 8) rfl (by first | exact .inr (.inr rfl) | exact .inl rfl | exact .inr (.inl rfl)))) (pax_d pd_non pax_nil)) (len_consX (len_consX len_nilX)))))) pd_str) (pb_one (ps_rt (pp_of pd_bl))) pb_nil))))))))))))))))
theorem ok_lawR {T : List (Addr × Str)} {c f : Addr} {lab : Str → Option Str} {A : Around} {outer : List Env} {s : Shared} {H : Hp} {E : XK} (Bn : BI mg) (C__law_all : CalD P w K mg base "_law_all" 1 1 F__law_all) (C__law_drum : CalD P w K mg base "_law_drum" 2 1 F__law_drum) (C__law_falls : CalD P w K mg base "_law_falls" 1 1 F__law_falls) (C__law_parts : CalD P w K mg base "_law_parts" 1 1 F__law_parts) (C__law_places : CalO P w K mg base "_law_places" 3 2 F__law_places) (C__law_roll : CalO P w K mg base "_law_roll" 2 1 F__law_roll) (C__law_some : CalO P w K mg base "_law_some" 2 2 F__law_some) (C__law_within : CalD P w K mg base "_law_within" 2 2 F__law_within) (C_count_falls_at : CalD P w K mg base "count_falls_at" 2 5 F_count_falls_at) (WB : WdZ P w K mg base lab) (TB : TbZ mg base T c ((("law" : Str) ++ ".<locals>.") ++ "<lambda>")) (hr : Room 7 (A.deeper (envOfC "law" (defScope s_law) s.heap.objs.size f (.ref c)))) : PBp (CxL P w K mg base ["_law_script", "_law_cell", "_law_keg", "_law_few", "_law_places_so", "_law_many", "_law_due", "_law_rest", "_law_odd", "_law_row", "_law_part", "_law_place"] s_law f (.ref c) A outer s H E) T E0 (defBody s_law).tail (g_lawR lab) :=
  (pb_cons (ps_iff (ptt_cmp (op_ne' (hu64 hr)) g_ne (pd_of (pp_lst (par_cons (pd_of (ppc C_count_falls_at (hr.mono (by decide)) (by rfl) passN (pax_d pd_int (pax_d (pd_of (pp_tup par_nil)) pax_nil)) (len_consX (len_consX len_nilX)))) (par_cons (pd_of (ppc C_count_falls_at (hr.mono (by decide)) (by rfl) passN (pax_d pd_int (pax_d (pd_of (pp_tup (par_cons pd_int par_nil))) pax_nil)) (len_consX (len_consX len_nilX)))) (par_cons (pd_of (ppc C_count_falls_at (hr.mono (by decide)) (by rfl) passN (pax_d pd_int (pax_d (pd_of (pp_tup (par_cons pd_int par_nil))) pax_nil)) (len_consX (len_consX len_nilX)))) par_nil))))) (pd_of (pp_lst (par_cons pd_int (par_cons pd_int (par_cons pd_int par_nil)))))) (pb_one (ps_rt (pp_of pd_bl))) pb_nil) (pb_cons (ps_iff (ptt_cmp (op_ne' (hu64 hr)) g_ne (pd_of (ppc C_count_falls_at (hr.mono (by decide)) (by rfl) passN (pax_d pd_int (pax_d (pd_of (pp_tup (par_cons pd_int (par_cons pd_int par_nil)))) pax_nil)) (len_consX (len_consX len_nilX)))) pd_int) (pb_one (ps_rt (pp_of pd_bl))) pb_nil) (pb_one (ps_rt (pp_and (pp_cmp (op_eq' (hu64 hr)) g_eq (pd_of (ppc C_count_falls_at (hr.mono (by decide)) (by rfl) passN (pax_d pd_int (pax_d (pd_of (pp_tup par_nil)) pax_nil)) (len_consX (len_consX len_nilX)))) pd_int) (pp_one (pp_cmp (op_eq' (hu64 hr)) g_eq (pd_of (ppc C_count_falls_at (hr.mono (by decide)) (by rfl) passN (pax_d pd_int (pax_d (pd_of (pp_tupRg Bn rfl (by rfl) (prg_data1 Bn (by rfl) pd_int))) pax_nil)) (len_consX (len_consX len_nilX)))) pd_int)))))))
end
end Lw
/-! Lk67 -/
set_option maxRecDepth 100000
namespace Lw
open PySem PySem.Spec PyProof.Rows L2 WoK LamX Pu
/-- the law's words for the classes that are raised -/
def lab (x : Str) : Option Str := if x = "InvalidMany" then some "things value" else if x = "InvalidPlaces" then some "places value" else none
/-- what is left: the law as a function -/
def LawIs : Prop := ∀ (ns : List Int), ns.length ≤ 63 → LawRt (g_law lab ns (initE 12 [.un]))
end Lw
/-! JkB -/
set_option maxRecDepth 10000
namespace Lw
open PySem PySem.Spec PyProof.Rows L2 LamX Pu
def Pot (xs : List D) : Prop := ∃ g r : Int, xs = [.int g, .int r] ∧ 0 ≤ g ∧ 0 ≤ r
theorem dip_is {xs : List D} {m : Int} (hp : Pot xs) (hm : 0 < m) (hm2 : m < 2 ^ 64) : ∃ ys k, F__law_roll (.lst xs) [.d (.int m)] = .ok (.d (.int k)) (some (.lst ys)) ∧ Pot ys ∧ 0 ≤ k ∧ k < m := by
  obtain ⟨g, r, rfl, hg, hr⟩ := hp
  unfold F__law_roll runO g__law_roll
  by_cases hc : 0 < g
  · simp (config := { decide := true }) only [Pu.fSeq, Pu.fSet, Pu.fRet, Pu.fDrop, Pu.fIfS, Pu.fNx, Pu.fRetN, Pu.fIf, Pu.fD, Pu.fP, Pu.fT, Pu.fC, Pu.fBin, Pu.fUn, Pu.fUnO, Pu.fLst, Pu.fTup, Pu.fCons, Pu.fNil, Pu.fVar, Pu.fMove, Pu.fIxO, Pu.fSto, Pu.ownL, Pu.peekAt, SV.peek, OB.lockd, SV.toD, SV.toB, Pu.fAndT, Pu.fOrT, Pu.fNotT, Pu.fAndV, Pu.fOrV, Pu.fNotV, Pu.fChn, Pu.fTru, Pu.fTruV, Pu.fIsi, Pu.ok_bind, Pu.er_bind, Pu.no_bind, Pu.ok_toS, Pu.er_toS, Pu.no_toS, Pu.opt_s, Pu.opt_n, Pu.asD_d, Pu.asD_l, Pu.asD_e, Pu.asD_n, Pu.asB_b, Pu.asB_e, Pu.asB_n, List.getElem?_cons_zero, List.getElem?_cons_succ, List.set_cons_zero, List.set_cons_succ, Option.bind_some, Option.bind_none, List.cons_append, List.nil_append, List.replicate, List.length_cons, List.length_nil, if_true, if_false, Bool.false_eq_true, if_pos, Pu.initE, Pu.B, Pu.I, Pu.add_i, Pu.sub_i, Pu.mul_i, Pu.mulC_l, Pu.mulC_r, Pu.mod_i, Pu.fdiv_s, Pu.lt_i, Pu.gt_i, Pu.le_i, Pu.ge_i, Pu.int_i, Pu.neg_i, Pu.pow_i, Pu.len_l, Pu.len_t, Pu.ix_l, Pu.ix_t, Pu.at_0, Pu.at_1, Pu.ixN_0, Pu.ixN_1, Option.map_some, Pu.outO, Bool.or_self, Bool.or_true, Bool.true_or, and_self, and_true, true_and, hc, hm, hm2, decide_true, Bool.not_true]
    exact ⟨_, _, rfl, ⟨_, _, rfl, Int.ediv_nonneg hg (by omega), hr⟩, Int.emod_nonneg _ (by omega), Int.emod_lt_of_pos _ hm⟩
  · have hmul : mulC ((r * 30671 + 8807) % 2147483549) ((r * 30671 + 8807) % 2147483549 + 101) = true := mulC_l ⟨by omega, by omega⟩
    simp (config := { decide := true }) only [Pu.fSeq, Pu.fSet, Pu.fRet, Pu.fDrop, Pu.fIfS, Pu.fNx, Pu.fRetN, Pu.fIf, Pu.fD, Pu.fP, Pu.fT, Pu.fC, Pu.fBin, Pu.fUn, Pu.fUnO, Pu.fLst, Pu.fTup, Pu.fCons, Pu.fNil, Pu.fVar, Pu.fMove, Pu.fIxO, Pu.fSto, Pu.ownL, Pu.peekAt, SV.peek, OB.lockd, SV.toD, SV.toB, Pu.fAndT, Pu.fOrT, Pu.fNotT, Pu.fAndV, Pu.fOrV, Pu.fNotV, Pu.fChn, Pu.fTru, Pu.fTruV, Pu.fIsi, Pu.ok_bind, Pu.er_bind, Pu.no_bind, Pu.ok_toS, Pu.er_toS, Pu.no_toS, Pu.opt_s, Pu.opt_n, Pu.asD_d, Pu.asD_l, Pu.asD_e, Pu.asD_n, Pu.asB_b, Pu.asB_e, Pu.asB_n, List.getElem?_cons_zero, List.getElem?_cons_succ, List.set_cons_zero, List.set_cons_succ, Option.bind_some, Option.bind_none, List.cons_append, List.nil_append, List.replicate, List.length_cons, List.length_nil, if_true, if_false, Bool.false_eq_true, if_pos, Pu.initE, Pu.B, Pu.I, Pu.add_i, Pu.sub_i, Pu.mul_i, Pu.mulC_l, Pu.mulC_r, Pu.mod_i, Pu.fdiv_s, Pu.lt_i, Pu.gt_i, Pu.le_i, Pu.ge_i, Pu.int_i, Pu.neg_i, Pu.pow_i, Pu.len_l, Pu.len_t, Pu.ix_l, Pu.ix_t, Pu.at_0, Pu.at_1, Pu.ixN_0, Pu.ixN_1, Option.map_some, Pu.outO, Bool.or_self, Bool.or_true, Bool.true_or, and_self, and_true, true_and, hc, hm, hm2, hmul, decide_false, Bool.not_false]
    exact ⟨_, _, rfl, ⟨_, _, rfl, hg, by omega⟩, Int.emod_nonneg _ (by omega), Int.emod_lt_of_pos _ hm⟩
theorem one_is {xs ds : List D} (hp : Pot xs) (hd : ds ≠ []) (hz : ds.length < 2 ^ 63) : ∃ ys d, F__law_some (.lst xs) [.d (.list ds)] = .ok (.d d) (some (.lst ys)) ∧ Pot ys ∧ d ∈ ds := by
  have hl : 0 < ds.length := List.length_pos_iff.mpr hd
  obtain ⟨ys, k, e, hy, h1, h2⟩ := dip_is (m := (ds.length : Int)) hp (by omega) (by omega)
  have hk : k.toNat <
      ds.length := by omega
  have ha : atI ds k = some ds[k.toNat] := by
    unfold atI ixN
    rw [if_pos h1, if_pos h2]
    exact List.getElem?_eq_getElem hk
  unfold F__law_some runO g__law_some
  simp (config := { decide := true }) only [Pu.fSeq, Pu.fSet, Pu.fRet, Pu.fDrop, Pu.fIfS, Pu.fNx, Pu.fRetN, Pu.fIf, Pu.fD, Pu.fP, Pu.fT, Pu.fC, Pu.fBin, Pu.fUn, Pu.fUnO, Pu.fLst, Pu.fTup, Pu.fCons, Pu.fNil, Pu.fVar, Pu.fMove, Pu.fIxO, Pu.fSto, Pu.ownL, Pu.peekAt, SV.peek, OB.lockd, SV.toD, SV.toB, Pu.fAndT, Pu.fOrT, Pu.fNotT, Pu.fAndV, Pu.fOrV, Pu.fNotV, Pu.fChn, Pu.fTru, Pu.fTruV, Pu.fIsi, Pu.ok_bind, Pu.er_bind, Pu.no_bind, Pu.ok_toS, Pu.er_toS, Pu.no_toS, Pu.opt_s, Pu.opt_n, Pu.asD_d, Pu.asD_l, Pu.asD_e, Pu.asD_n, Pu.asB_b, Pu.asB_e, Pu.asB_n, List.getElem?_cons_zero, List.getElem?_cons_succ, List.set_cons_zero, List.set_cons_succ, Option.bind_some, Option.bind_none, List.cons_append, List.nil_append, List.replicate, List.length_cons, List.length_nil, if_true, if_false, Bool.false_eq_true, if_pos, Pu.initE, Pu.B, Pu.I, Pu.add_i, Pu.sub_i, Pu.mul_i, Pu.mulC_l, Pu.mulC_r, Pu.mod_i, Pu.fdiv_s, Pu.lt_i, Pu.gt_i, Pu.le_i, Pu.ge_i, Pu.int_i, Pu.neg_i, Pu.pow_i, Pu.len_l, Pu.len_t, Pu.ix_l, Pu.ix_t, Pu.at_0, Pu.at_1, Pu.ixN_0, Pu.ixN_1, Option.map_some, Pu.outO, Bool.or_self, Bool.or_true, Bool.true_or, and_self, and_true, true_and, fCallO, fConsX, fNilX, SV.isArg, e, ha]
  exact ⟨_, _, rfl, hy, List.getElem_mem hk⟩
def nD (l : List Nat) : List D := l.map fun (n : Nat) => .int (n : Int)
theorem rgD_nD (m : Nat) : rgD 0 (m : Int) = nD (List.range m) := by
  unfold rgD nD
  rw [Int.sub_zero, Int.toNat_natCast]
  exact List.map_congr_left fun (i : Nat) _ => by rw [Int.zero_add]
theorem eqv_i {a b : Int} : PyData.eqv (.int a) (.int b) = decide (a = b) := by
  first
  | rfl
  | (unfold PyData.eqv; rfl)
  | (rw [PyData.eqv]; rfl)
theorem ne_i {a b : Int} : neD (.int a) (.int b) = some (.d (.bool (!decide (a = b)))) := by
  unfold neD eqC
  rw [eqv_i]
  rfl
theorem eq_i {a b : Int} : eqD (.int a) (.int b) = some (.d (.bool (decide (a = b)))) := by
  unfold eqD eqC
  rw [eqv_i]
  rfl
theorem add_t {xs ys : List D} (h : xs.length + ys.length ≤ LIM) : addD (.tuple xs) (.tuple ys) = some (.d (.tuple (xs ++ ys))) := if_pos h
structure IsOrd (m : Nat) (l : List Nat) : Prop where
  pm : l.Perm (List.range m)
theorem IsOrd.len {m : Nat} {l : List Nat} (o : IsOrd m l) : l.length = m := by rw [o.pm.length_eq, List.length_range]
theorem IsOrd.nd {m : Nat} {l : List Nat} (o : IsOrd m l) : l.Nodup := o.pm.nodup_iff.mpr List.nodup_range
theorem IsOrd.lt {m : Nat} {l : List Nat} (o : IsOrd m l) : ∀ x ∈ l, x < m := fun x hx => List.mem_range.mp (o.pm.mem_iff.mp hx)
theorem nD_ne {l : List Nat} (h : l ≠ []) : nD l ≠ [] := fun z => h (List.map_eq_nil_iff.mp z)
theorem rng1_i {m : Nat} (h : m ≤ 1000) : rng1D [.int (m : Int)] = some (rngL 0 1 m) := by
  have : inR62 (m : Int) = true := inR62_nat (by omega)
  show (if inR62 (m : Int) = true then some (rngL 0 1 (m : Int).toNat) else none) = _
  rw [if_pos this, Int.toNat_natCast]
theorem lrg_i {m : Nat} {k : List D → SV} (h : m ≤ 1000) : lrgD k [.int (m : Int)] = some (k (nD (List.range m))) := by
  have : rgC 0 (m : Int) = true := by
    unfold rgC
    rw [inR62_nat (show m < 4611686018427387904 by omega), decide_eq_true (show ((m : Int) - 0).toNat ≤ 100000 by omega)]
    rfl
  show (if rgC 0 (m : Int) = true then some (k (rgD 0 (m : Int))) else none) = _
  rw [if_pos this, rgD_nD]
theorem isInt_i {i : Int} : F_is_integer [.d (.int i)] = .ok (.d (.bool true)) none := by
  refine runD_rt (ρ := [.d (.int i)]) ?_
  show g_is_integer [.d (.int i)] = _
  unfold g_is_integer
  simp (config := { decide := true }) only [Pu.fSeq, Pu.fSet, Pu.fRet, Pu.fDrop, Pu.fIfS, Pu.fNx, Pu.fRetN, Pu.fIf, Pu.fD, Pu.fP, Pu.fT, Pu.fC, Pu.fBin, Pu.fUn, Pu.fUnO, Pu.fLst, Pu.fTup, Pu.fCons, Pu.fNil, Pu.fVar, Pu.fMove, Pu.fIxO, Pu.fSto, Pu.ownL, Pu.peekAt, SV.peek, OB.lockd, SV.toD, SV.toB, Pu.fAndT, Pu.fOrT, Pu.fNotT, Pu.fAndV, Pu.fOrV, Pu.fNotV, Pu.fChn, Pu.fTru, Pu.fTruV, Pu.fIsi, Pu.ok_bind, Pu.er_bind, Pu.no_bind, Pu.ok_toS, Pu.er_toS, Pu.no_toS, Pu.opt_s, Pu.opt_n, Pu.asD_d, Pu.asD_l, Pu.asD_e, Pu.asD_n, Pu.asB_b, Pu.asB_e, Pu.asB_n, List.getElem?_cons_zero, List.getElem?_cons_succ, List.set_cons_zero, List.set_cons_succ, Option.bind_some, Option.bind_none, List.cons_append, List.nil_append, List.replicate, List.length_cons, List.length_nil, if_true, if_false, Bool.false_eq_true, if_pos, Pu.initE, Pu.B, Pu.I, Pu.add_i, Pu.sub_i, Pu.mul_i, Pu.mulC_l, Pu.mulC_r, Pu.mod_i, Pu.fdiv_s, Pu.lt_i, Pu.gt_i, Pu.le_i, Pu.ge_i, Pu.int_i, Pu.neg_i, Pu.pow_i, Pu.len_l, Pu.len_t, Pu.ix_l, Pu.ix_t, Pu.at_0, Pu.at_1, Pu.ixN_0, Pu.ixN_1, Option.map_some, Pu.outO, Bool.or_self, Bool.or_true, Bool.true_or, and_self, and_true, true_and, Ty5.is, PyData.isInt, PyData.isBool, Bool.not_false]
theorem within_i {i a b : Int} : F_is_within [.d (.int i), .d (.int a), .d (.int b)] = .ok (.d (.bool (decide (a ≤ i) && decide (i ≤ b)))) none := by
  refine runD_rt (ρ := [.d (.int i), .d (.int a), .d (.int b)]) ?_
  show g_is_within [.d (.int i), .d (.int a), .d (.int b)] = _
  unfold g_is_within
  have h1 : decide (a ≤ i) = !decide (i < a) := by
    by_cases h : i < a
    · rw [decide_eq_true h, decide_eq_false (by omega)]; rfl
    · rw [decide_eq_false h, decide_eq_true (by omega)]; rfl
  have h2 : decide (i ≤ b) = !decide (b < i) := by
    by_cases h : b < i
    · rw [decide_eq_true h, decide_eq_false (by omega)]; rfl
    · rw [decide_eq_false h, decide_eq_true (by omega)]; rfl
  rw [h1, h2]
  by_cases h : i < a
  · simp (config := { decide := true }) only [Pu.fSeq, Pu.fSet, Pu.fRet, Pu.fDrop, Pu.fIfS, Pu.fNx, Pu.fRetN, Pu.fIf, Pu.fD, Pu.fP, Pu.fT, Pu.fC, Pu.fBin, Pu.fUn, Pu.fUnO, Pu.fLst, Pu.fTup, Pu.fCons, Pu.fNil, Pu.fVar, Pu.fMove, Pu.fIxO, Pu.fSto, Pu.ownL, Pu.peekAt, SV.peek, OB.lockd, SV.toD, SV.toB, Pu.fAndT, Pu.fOrT, Pu.fNotT, Pu.fAndV, Pu.fOrV, Pu.fNotV, Pu.fChn, Pu.fTru, Pu.fTruV, Pu.fIsi, Pu.ok_bind, Pu.er_bind, Pu.no_bind, Pu.ok_toS, Pu.er_toS, Pu.no_toS, Pu.opt_s, Pu.opt_n, Pu.asD_d, Pu.asD_l, Pu.asD_e, Pu.asD_n, Pu.asB_b, Pu.asB_e, Pu.asB_n, List.getElem?_cons_zero, List.getElem?_cons_succ, List.set_cons_zero, List.set_cons_succ, Option.bind_some, Option.bind_none, List.cons_append, List.nil_append, List.replicate, List.length_cons, List.length_nil, if_true, if_false, Bool.false_eq_true, if_pos, Pu.initE, Pu.B, Pu.I, Pu.add_i, Pu.sub_i, Pu.mul_i, Pu.mulC_l, Pu.mulC_r, Pu.mod_i, Pu.fdiv_s, Pu.lt_i, Pu.gt_i, Pu.le_i, Pu.ge_i, Pu.int_i, Pu.neg_i, Pu.pow_i, Pu.len_l, Pu.len_t, Pu.ix_l, Pu.ix_t, Pu.at_0, Pu.at_1, Pu.ixN_0, Pu.ixN_1, Option.map_some, Pu.outO, Bool.or_self, Bool.or_true, Bool.true_or, and_self, and_true, true_and, fCallD, fConsX, fNilX, SV.isArg, isInt_i, decide_eq_true h, Bool.not_true, Bool.false_and]
  · simp (config := { decide := true }) only [Pu.fSeq, Pu.fSet, Pu.fRet, Pu.fDrop, Pu.fIfS, Pu.fNx, Pu.fRetN, Pu.fIf, Pu.fD, Pu.fP, Pu.fT, Pu.fC, Pu.fBin, Pu.fUn, Pu.fUnO, Pu.fLst, Pu.fTup, Pu.fCons, Pu.fNil, Pu.fVar, Pu.fMove, Pu.fIxO, Pu.fSto, Pu.ownL, Pu.peekAt, SV.peek, OB.lockd, SV.toD, SV.toB, Pu.fAndT, Pu.fOrT, Pu.fNotT, Pu.fAndV, Pu.fOrV, Pu.fNotV, Pu.fChn, Pu.fTru, Pu.fTruV, Pu.fIsi, Pu.ok_bind, Pu.er_bind, Pu.no_bind, Pu.ok_toS, Pu.er_toS, Pu.no_toS, Pu.opt_s, Pu.opt_n, Pu.asD_d, Pu.asD_l, Pu.asD_e, Pu.asD_n, Pu.asB_b, Pu.asB_e, Pu.asB_n, List.getElem?_cons_zero, List.getElem?_cons_succ, List.set_cons_zero, List.set_cons_succ, Option.bind_some, Option.bind_none, List.cons_append, List.nil_append, List.replicate, List.length_cons, List.length_nil, if_true, if_false, Bool.false_eq_true, if_pos, Pu.initE, Pu.B, Pu.I, Pu.add_i, Pu.sub_i, Pu.mul_i, Pu.mulC_l, Pu.mulC_r, Pu.mod_i, Pu.fdiv_s, Pu.lt_i, Pu.gt_i, Pu.le_i, Pu.ge_i, Pu.int_i, Pu.neg_i, Pu.pow_i, Pu.len_l, Pu.len_t, Pu.ix_l, Pu.ix_t, Pu.at_0, Pu.at_1, Pu.ixN_0, Pu.ixN_1, Option.map_some, Pu.outO, Bool.or_self, Bool.or_true, Bool.true_or, and_self, and_true, true_and, fCallD, fConsX, fNilX, SV.isArg, isInt_i, decide_eq_false h, Bool.not_false, Bool.true_and]
abbrev NP := Nat × Nat
def pD (p : NP) : D := .tuple [.int (p.1 : Int), .int (p.2 : Int)]
def psD (ps : List NP) : List D := ps.map pD
abbrev iD (n : Nat) : D := .int (n : Int)
theorem nD_len (l : List Nat) : (nD l).length = l.length := List.length_map _
theorem plain_i : ∀ l : List Nat, PyData.plainAll (nD l) = true
  | [] => by simp [nD, PyData.plainAll]
  | x :: l => by
    have := plain_i l
    unfold nD at this ⊢
    rw [List.map_cons, PyData.plainAll, this]
    simp [PyData.plain]
theorem plain_p : ∀ l : List NP, PyData.plainAll (psD l) = true
  | [] => by simp [psD, PyData.plainAll]
  | x :: l => by
    have := plain_p l
    unfold psD at this ⊢
    rw [List.map_cons, PyData.plainAll, this]
    simp [PyData.plain, PyData.plainAll, pD]
theorem depth_n : ∀ l : List Nat, PyData.depthAll (nD l) ≤ 1
  | [] => by simp [nD, PyData.depthAll]
  | x :: l => by
    have := depth_n l
    unfold nD at this ⊢
    rw [List.map_cons,
        PyData.depthAll]
    simp [PyData.depth]
    omega
theorem depth_p : ∀ l : List NP, PyData.depthAll (psD l) ≤ 3
  | [] => by simp [psD, PyData.depthAll]
  | x :: l => by
    have := depth_p l
    unfold psD at this ⊢
    rw [List.map_cons,
        PyData.depthAll]
    simp [PyData.depth, PyData.depthAll, pD]
    omega
theorem eq_of {d e : D} (h : d = e) (hp : d.plain = true) (hd : d.depth ≤ 50) : eqD d e = some (.d (.bool true)) := by
  subst h
  unfold eqD
  have h1 : eqC d d = true := by
    unfold eqC
    split <;> first | rfl | exact decide_eq_true (by omega)
  rw [if_pos h1, PySem.SeqAt.eqv_refl_plain d hp]
  rfl
theorem ne_of {d e : D} (h : d = e) (hp : d.plain = true) (hd : d.depth ≤ 50) : neD d e = some (.d (.bool false)) := by
  subst h
  unfold neD
  have h1 : eqC d d = true := by
    unfold eqC
    split <;> first | rfl | exact decide_eq_true (by omega)
  rw [if_pos h1, PySem.SeqAt.eqv_refl_plain d hp]
  rfl
theorem pl_t {l : List Nat} : (PyData.tuple (nD l)).plain = true := by rw [PyData.plain]; exact plain_i l
theorem pl_l {l : List Nat} : (PyData.list (nD l)).plain = true := by rw [PyData.plain]; exact plain_i l
theorem pl_ps {l : List NP} : (PyData.list (psD l)).plain = true := by rw [PyData.plain]; exact plain_p l
theorem dp_t {l : List Nat} : (PyData.tuple (nD l)).depth ≤ 50 := by rw [PyData.depth]; have := depth_n l; omega
theorem dp_l {l : List Nat} : (PyData.list (nD l)).depth ≤ 50 := by rw [PyData.depth]; have := depth_n l; omega
theorem dp_ps {l : List NP} : (PyData.list (psD l)).depth ≤ 50 := by rw [PyData.depth]; have := depth_p l; omega
theorem lim_of {n : Nat} (h : n ≤ 1000) : n ≤ LIM := by unfold LIM; omega
theorem all_of {α : Type} {xs : List α} {f : α → Bool} (h : ∀ x ∈ xs, f x = true) : allD (.list ((xs.filter fun _ => true).map fun x => .bool (f x))) = some (.d (.bool true)) := by
  rw [filter_yes]
  have e : (xs.map fun x => PyData.bool (f x)) = (xs.map f).map PyData.bool := by rw [List.map_map]; rfl
  show (boolsOf _).map _ = _
  rw [e, boolsOf_map]
  have : (xs.map f).all id = true := by
    rw [List.all_map]
    exact List.all_eq_true.mpr h
  show some (B ((xs.map f).all id)) = _
  rw [this]
  rfl
theorem within_all {l : List Nat} {b : Nat} (h : l.length ≤ 1000) (hb : ∀ x ∈ l, x ≤ b) : F_are_within [.d (.tuple (nD l)), .d (.int 0), .d (.int (b : Int))] = .ok (.d (.bool true)) none := by
  refine runD_rt (ρ := [.d (.tuple (nD l)), .d (.int 0), .d (.int (b : Int)), .un]) ?_
  show g_are_within [.d (.tuple (nD l)), .d (.int 0), .d (.int (b : Int)), .un] = _
  unfold g_are_within
  simp only [Pu.fSeq, Pu.fSet, Pu.fRet, Pu.fDrop, Pu.fIfS, Pu.fNx, Pu.fRetN, Pu.fIf, Pu.fD, Pu.fP, Pu.fT, Pu.fC, Pu.fBin, Pu.fUn, Pu.fUnO, Pu.fLst, Pu.fTup, Pu.fCons, Pu.fNil, Pu.fVar, Pu.fMove, Pu.fIxO, Pu.fSto, Pu.ownL, Pu.peekAt, SV.peek, OB.lockd, SV.toD, SV.toB, Pu.fAndT, Pu.fOrT, Pu.fNotT, Pu.fAndV, Pu.fOrV, Pu.fNotV, Pu.fChn, Pu.fTru, Pu.fTruV, Pu.fIsi, Pu.ok_bind, Pu.er_bind, Pu.no_bind, Pu.ok_toS, Pu.er_toS, Pu.no_toS, Pu.opt_s, Pu.opt_n, Pu.asD_d, Pu.asD_l, Pu.asD_e, Pu.asD_n, Pu.asB_b, Pu.asB_e, Pu.asB_n, List.getElem?_cons_zero, List.getElem?_cons_succ, List.set_cons_zero, List.set_cons_succ, Option.bind_some, Option.bind_none, List.cons_append, List.nil_append, List.replicate, List.length_cons, List.length_nil, if_true, if_false, Bool.false_eq_true, if_pos, Pu.initE, Pu.B, Pu.I, Pu.add_i, Pu.sub_i, Pu.mul_i, Pu.mulC_l, Pu.mulC_r, Pu.mod_i, Pu.fdiv_s, Pu.lt_i, Pu.gt_i, Pu.le_i, Pu.ge_i, Pu.int_i, Pu.neg_i, Pu.pow_i, Pu.len_l, Pu.len_t, Pu.ix_l, Pu.ix_t, Pu.at_0, Pu.at_1, Pu.ixN_0, Pu.ixN_1, Option.map_some, Pu.outO, Bool.or_self, Bool.or_true, Bool.true_or, and_self, and_true, true_and, Pu.tru_b, Pu.tru_t, Pu.isi_tt, Pu.isi_tl, Pu.arg_d, Pu.seq_t, Pu.seq_l, Pu.list_t, Pu.list_l, Pu.tup_l, Pu.tup_t, Pu.fCallD, Pu.fConsX, Pu.fNilX, Pu.fArgs, Pu.fIt, Pu.fYes, Bool.not_true, Bool.not_false, ↓reduceIte]
  rw [fLc_t (xs := l) (e := iD) (fun _ => true) (fun x => .bool (decide ((0 : Int) ≤ x) && decide ((x : Int) ≤ b))) (fun x => [.d (.tuple (nD l)), .d (.int 0), .d (.int (b : Int)), .d (iD x)]) ?_ ?_ ?_ (lim_of h)]
  · simp only [Pu.fSeq, Pu.fSet, Pu.fRet, Pu.fDrop, Pu.fIfS, Pu.fNx, Pu.fRetN, Pu.fIf, Pu.fD, Pu.fP, Pu.fT, Pu.fC, Pu.fBin, Pu.fUn, Pu.fUnO, Pu.fLst, Pu.fTup, Pu.fCons, Pu.fNil, Pu.fVar, Pu.fMove, Pu.fIxO, Pu.fSto, Pu.ownL, Pu.peekAt, SV.peek, OB.lockd, SV.toD, SV.toB, Pu.fAndT, Pu.fOrT, Pu.fNotT, Pu.fAndV, Pu.fOrV, Pu.fNotV, Pu.fChn, Pu.fTru, Pu.fTruV, Pu.fIsi, Pu.ok_bind, Pu.er_bind, Pu.no_bind, Pu.ok_toS, Pu.er_toS, Pu.no_toS, Pu.opt_s, Pu.opt_n, Pu.asD_d, Pu.asD_l, Pu.asD_e, Pu.asD_n, Pu.asB_b, Pu.asB_e, Pu.asB_n, List.getElem?_cons_zero, List.getElem?_cons_succ, List.set_cons_zero, List.set_cons_succ, Option.bind_some, Option.bind_none, List.cons_append, List.nil_append, List.replicate, List.length_cons, List.length_nil, if_true, if_false, Bool.false_eq_true, if_pos, Pu.initE, Pu.B, Pu.I, Pu.add_i, Pu.sub_i, Pu.mul_i, Pu.mulC_l, Pu.mulC_r, Pu.mod_i, Pu.fdiv_s, Pu.lt_i, Pu.gt_i, Pu.le_i, Pu.ge_i, Pu.int_i, Pu.neg_i, Pu.pow_i, Pu.len_l, Pu.len_t, Pu.ix_l, Pu.ix_t, Pu.at_0, Pu.at_1, Pu.ixN_0, Pu.ixN_1, Option.map_some, Pu.outO, Bool.or_self, Bool.or_true, Bool.true_or, and_self, and_true, true_and, Pu.tru_b, Pu.tru_t, Pu.isi_tt, Pu.isi_tl, Pu.arg_d, Pu.seq_t, Pu.seq_l, Pu.list_t, Pu.list_l, Pu.tup_l, Pu.tup_t, Pu.fCallD, Pu.fConsX, Pu.fNilX, Pu.fArgs, Pu.fIt, Pu.fYes, Bool.not_true, Bool.not_false, ↓reduceIte, all_of (xs := l) (f := fun x => decide ((0 : Int) ≤ x) && decide ((x : Int) ≤ b)) (fun x hx => by
      have := hb x hx
      rw [decide_eq_true (show (0 : Int) ≤ x by omega), decide_eq_true (show (x : Int) ≤ b by omega)]
      rfl)]
  · rfl
  · rfl
  · intro x hx
    refine ⟨rfl, rfl, fun _ => ?_, rfl⟩
    simp only [Pu.fSeq, Pu.fSet, Pu.fRet, Pu.fDrop, Pu.fIfS, Pu.fNx, Pu.fRetN, Pu.fIf, Pu.fD, Pu.fP, Pu.fT, Pu.fC, Pu.fBin, Pu.fUn, Pu.fUnO, Pu.fLst, Pu.fTup, Pu.fCons, Pu.fNil, Pu.fVar, Pu.fMove, Pu.fIxO, Pu.fSto, Pu.ownL, Pu.peekAt, SV.peek, OB.lockd, SV.toD, SV.toB, Pu.fAndT, Pu.fOrT, Pu.fNotT, Pu.fAndV, Pu.fOrV, Pu.fNotV, Pu.fChn, Pu.fTru, Pu.fTruV, Pu.fIsi, Pu.ok_bind, Pu.er_bind, Pu.no_bind, Pu.ok_toS, Pu.er_toS, Pu.no_toS, Pu.opt_s, Pu.opt_n, Pu.asD_d, Pu.asD_l, Pu.asD_e, Pu.asD_n, Pu.asB_b, Pu.asB_e, Pu.asB_n, List.getElem?_cons_zero, List.getElem?_cons_succ, List.set_cons_zero, List.set_cons_succ, Option.bind_some, Option.bind_none, List.cons_append, List.nil_append, List.replicate, List.length_cons, List.length_nil, if_true, if_false, Bool.false_eq_true, if_pos, Pu.initE, Pu.B, Pu.I, Pu.add_i, Pu.sub_i, Pu.mul_i, Pu.mulC_l, Pu.mulC_r, Pu.mod_i, Pu.fdiv_s, Pu.lt_i, Pu.gt_i, Pu.le_i, Pu.ge_i, Pu.int_i, Pu.neg_i, Pu.pow_i, Pu.len_l, Pu.len_t, Pu.ix_l, Pu.ix_t, Pu.at_0, Pu.at_1, Pu.ixN_0, Pu.ixN_1, Option.map_some, Pu.outO, Bool.or_self, Bool.or_true, Bool.true_or, and_self, and_true, true_and, Pu.tru_b, Pu.tru_t, Pu.isi_tt, Pu.isi_tl, Pu.arg_d, Pu.seq_t, Pu.seq_l, Pu.list_t, Pu.list_l, Pu.tup_l, Pu.tup_t, Pu.fCallD, Pu.fConsX, Pu.fNilX, Pu.fArgs, Pu.fIt, Pu.fYes, Bool.not_true, Bool.not_false, ↓reduceIte, within_i]
section
variable {m : Nat} {l : List Nat}
theorem many_i (h1 : 1 ≤ m) (h2 : m ≤ 30) : F_check_many [.d (.int (m : Int))] = .ok (.d .none) none := by
  refine runD_nx (ρ := [.d (.int (m : Int))]) ?_
  show g_check_many [.d (.int (m : Int))] = _
  unfold g_check_many
  simp only [Pu.fSeq, Pu.fSet, Pu.fRet, Pu.fDrop, Pu.fIfS, Pu.fNx, Pu.fRetN, Pu.fIf, Pu.fD, Pu.fP, Pu.fT, Pu.fC, Pu.fBin, Pu.fUn, Pu.fUnO, Pu.fLst, Pu.fTup, Pu.fCons, Pu.fNil, Pu.fVar, Pu.fMove, Pu.fIxO, Pu.fSto, Pu.ownL, Pu.peekAt, SV.peek, OB.lockd, SV.toD, SV.toB, Pu.fAndT, Pu.fOrT, Pu.fNotT, Pu.fAndV, Pu.fOrV, Pu.fNotV, Pu.fChn, Pu.fTru, Pu.fTruV, Pu.fIsi, Pu.ok_bind, Pu.er_bind, Pu.no_bind, Pu.ok_toS, Pu.er_toS, Pu.no_toS, Pu.opt_s, Pu.opt_n, Pu.asD_d, Pu.asD_l, Pu.asD_e, Pu.asD_n, Pu.asB_b, Pu.asB_e, Pu.asB_n, List.getElem?_cons_zero, List.getElem?_cons_succ, List.set_cons_zero, List.set_cons_succ, Option.bind_some, Option.bind_none, List.cons_append, List.nil_append, List.replicate, List.length_cons, List.length_nil, if_true, if_false, Bool.false_eq_true, if_pos, Pu.initE, Pu.B, Pu.I, Pu.add_i, Pu.sub_i, Pu.mul_i, Pu.mulC_l, Pu.mulC_r, Pu.mod_i, Pu.fdiv_s, Pu.lt_i, Pu.gt_i, Pu.le_i, Pu.ge_i, Pu.int_i, Pu.neg_i, Pu.pow_i, Pu.len_l, Pu.len_t, Pu.ix_l, Pu.ix_t, Pu.at_0, Pu.at_1, Pu.ixN_0, Pu.ixN_1, Option.map_some, Pu.outO, Bool.or_self, Bool.or_true, Bool.true_or, and_self, and_true, true_and, Pu.tru_b, Pu.tru_t, Pu.isi_tt, Pu.isi_tl, Pu.arg_d, Pu.seq_t, Pu.seq_l, Pu.list_t, Pu.list_l, Pu.tup_l, Pu.tup_t, Pu.fCallD, Pu.fConsX, Pu.fNilX, Pu.fArgs, Pu.fIt, Pu.fYes, Bool.not_true, Bool.not_false, ↓reduceIte, within_i, decide_eq_true (show (1 : Int) ≤ (m : Int) by omega), decide_eq_true (show (m : Int) ≤ 30 by omega), Bool.and_self]
theorem rng1_n (h : m ≤ 1000) : rng1D [.int (m : Int)] = some ((List.range m).map iD) := by
  rw [rng1_i h]
  unfold rngL
  congr 1
  exact List.map_congr_left fun (i : Nat) _ => by
    show PyData.int _ = _
    rw [Int.mul_one, Int.zero_add]
theorem rng2_n {a : Nat} (ha : a ≤ 1000) (h : m ≤ 1000) : rng2D [.int (a : Int), .int (m : Int)] = some ((List.range' a (m - a)).map iD) := by
  show (if inR62 (a : Int) = true ∧ inR62 (m : Int) = true then some (rngL (a : Int) 1 ((m : Int) - (a : Int)).toNat) else none) = _
  rw [if_pos ⟨inR62_nat (by omega), inR62_nat (by omega)⟩]
  unfold rngL
  congr 1
  rw [show ((m : Int) - (a : Int)).toNat = m - a by omega, List.range'_eq_map_range, List.map_map]
  exact List.map_congr_left fun (i : Nat) _ => by
    show PyData.int _ = PyData.int _
    congr 1
    rw [Int.mul_one]
    exact (Int.natCast_add a i).symm
theorem getD_lt {l : List Nat} {i : Nat} (h : i < l.length) : l.getD i 0 = l[i] := by
  rw [List.getD_eq_getElem?_getD, List.getElem?_eq_getElem h]
  rfl
theorem at_n {j : Nat} (h : j < l.length) : atI (nD l) (j : Int) = some (iD (l.getD j 0)) := by
  unfold atI ixN
  rw [if_pos (by omega), if_pos (by rw [nD_len]; omega), Int.toNat_natCast, getD_lt h]
  show (nD l)[j]? = _
  unfold nD
  rw [List.getElem?_map, List.getElem?_eq_getElem h]
  rfl
end
theorem lim_1 : 0 + 1 ≤ LIM := by unfold LIM; omega
theorem lim_2 : 0 + 1 + 1 ≤ LIM := by unfold LIM; omega
section
variable {m : Nat} {l : List Nat}
theorem ixN_n {n j : Nat} (h : j < n) : ixN n (j : Int) = some j := by
  unfold ixN
  rw [if_pos (by omega), if_pos (by omega), Int.toNat_natCast]
theorem at_n1 {l : List Nat} {j : Nat} (h : j + 1 < l.length) : atI (nD l) ((j : Int) + 1) = some (iD (l.getD (j + 1) 0)) := at_n (l := l) (j := j + 1) h
theorem ixN_n1 {n j : Nat} (h : j + 1 < n) : ixN n ((j : Int) + 1) = some (j + 1) := ixN_n (j := j + 1) h
theorem sub_1 (h : 1 ≤ m) : (m : Int) - 1 = ((m - 1 : Nat) : Int) := by omega
theorem sub_2 (h : 2 ≤ m) : (m : Int) - 2 = ((m - 2 : Nat) : Int) := by omega
theorem rng1_m1 {n : Nat} (h : n ≤ 1000) : rng1D [.int ((n : Int) - 1)] = some ((List.range (n - 1)).map iD) := by
  cases n with
  | zero => rfl
  | succ k =>
    rw [sub_1 (m := k + 1) (by omega)]
    exact rng1_n (by omega)
theorem asc_of {xs : List D} (hl : xs.length ≤ 1000) (h : ∀ i, i + 1 < xs.length → ltD (xs.getD i .none) (xs.getD (i + 1) .none) = some (.d (.bool true))) : F_are_ascending [.d (.tuple xs)] = .ok (.d (.bool true)) none := by
  have at_x : ∀ j, j < xs.length → atI xs (j : Int) = some (xs.getD j .none) := fun j hj => by
    unfold atI
    rw [ixN_n hj, List.getD_eq_getElem?_getD, List.getElem?_eq_getElem hj]
    show xs[j]? = _
    rw [List.getElem?_eq_getElem hj]
    rfl
  refine runD_rt (ρ := [.d (.tuple xs), .un]) ?_
  show g_are_ascending [.d (.tuple xs), .un] = _
  unfold g_are_ascending
  simp only [Pu.fSeq, Pu.fSet, Pu.fRet, Pu.fDrop, Pu.fIfS, Pu.fNx, Pu.fRetN, Pu.fIf, Pu.fD, Pu.fP, Pu.fT, Pu.fC, Pu.fBin, Pu.fUn, Pu.fUnO, Pu.fLst, Pu.fTup, Pu.fCons, Pu.fNil, Pu.fVar, Pu.fMove, Pu.fIxO, Pu.fSto, Pu.ownL, Pu.peekAt, SV.peek, OB.lockd, SV.toD, SV.toB, Pu.fAndT, Pu.fOrT, Pu.fNotT, Pu.fAndV, Pu.fOrV, Pu.fNotV, Pu.fChn, Pu.fTru, Pu.fTruV, Pu.fIsi, Pu.ok_bind, Pu.er_bind, Pu.no_bind, Pu.ok_toS, Pu.er_toS, Pu.no_toS, Pu.opt_s, Pu.opt_n, Pu.asD_d, Pu.asD_l, Pu.asD_e, Pu.asD_n, Pu.asB_b, Pu.asB_e, Pu.asB_n, List.getElem?_cons_zero, List.getElem?_cons_succ, List.set_cons_zero, List.set_cons_succ, Option.bind_some, Option.bind_none, List.cons_append, List.nil_append, List.replicate, List.length_cons, List.length_nil, if_true, if_false, Bool.false_eq_true, if_pos, Pu.initE, Pu.B, Pu.I, Pu.add_i, Pu.sub_i, Pu.mul_i, Pu.mulC_l, Pu.mulC_r, Pu.mod_i, Pu.fdiv_s, Pu.lt_i, Pu.gt_i, Pu.le_i, Pu.ge_i, Pu.int_i, Pu.neg_i, Pu.pow_i, Pu.len_l, Pu.len_t, Pu.ix_l, Pu.ix_t, Pu.at_0, Pu.at_1, Pu.ixN_0, Pu.ixN_1, Option.map_some, Pu.outO, Bool.or_self, Bool.or_true, Bool.true_or, and_self, and_true, true_and, Pu.tru_b, Pu.tru_t, Pu.isi_tt, Pu.isi_tl, Pu.arg_d, Pu.seq_t, Pu.seq_l, Pu.list_t, Pu.list_l, Pu.tup_l, Pu.tup_t, Pu.fCallD, Pu.fConsX, Pu.fNilX, Pu.fArgs, Pu.fIt, Pu.fYes, Bool.not_true, Bool.not_false, ↓reduceIte]
  rw [fLc_t (xs := List.range (xs.length - 1)) (e := iD) (fun _ => true) (fun i => .bool true) (fun i => [.d (.tuple xs), .d (iD i)]) ?_ ?_ ?_ ?_]
  · simp only [Pu.fSeq, Pu.fSet, Pu.fRet, Pu.fDrop, Pu.fIfS, Pu.fNx, Pu.fRetN, Pu.fIf, Pu.fD, Pu.fP, Pu.fT, Pu.fC, Pu.fBin, Pu.fUn, Pu.fUnO, Pu.fLst, Pu.fTup, Pu.fCons, Pu.fNil, Pu.fVar, Pu.fMove, Pu.fIxO, Pu.fSto, Pu.ownL, Pu.peekAt, SV.peek, OB.lockd, SV.toD, SV.toB, Pu.fAndT, Pu.fOrT, Pu.fNotT, Pu.fAndV, Pu.fOrV, Pu.fNotV, Pu.fChn, Pu.fTru, Pu.fTruV, Pu.fIsi, Pu.ok_bind, Pu.er_bind, Pu.no_bind, Pu.ok_toS, Pu.er_toS, Pu.no_toS, Pu.opt_s, Pu.opt_n, Pu.asD_d, Pu.asD_l, Pu.asD_e, Pu.asD_n, Pu.asB_b, Pu.asB_e, Pu.asB_n, List.getElem?_cons_zero, List.getElem?_cons_succ, List.set_cons_zero, List.set_cons_succ, Option.bind_some, Option.bind_none, List.cons_append, List.nil_append, List.replicate, List.length_cons, List.length_nil, if_true, if_false, Bool.false_eq_true, if_pos, Pu.initE, Pu.B, Pu.I, Pu.add_i, Pu.sub_i, Pu.mul_i, Pu.mulC_l, Pu.mulC_r, Pu.mod_i, Pu.fdiv_s, Pu.lt_i, Pu.gt_i, Pu.le_i, Pu.ge_i, Pu.int_i, Pu.neg_i, Pu.pow_i, Pu.len_l, Pu.len_t, Pu.ix_l, Pu.ix_t, Pu.at_0, Pu.at_1, Pu.ixN_0, Pu.ixN_1, Option.map_some, Pu.outO, Bool.or_self, Bool.or_true, Bool.true_or, and_self, and_true, true_and, Pu.tru_b, Pu.tru_t, Pu.isi_tt, Pu.isi_tl, Pu.arg_d, Pu.seq_t, Pu.seq_l, Pu.list_t, Pu.list_l, Pu.tup_l, Pu.tup_t, Pu.fCallD, Pu.fConsX, Pu.fNilX, Pu.fArgs, Pu.fIt, Pu.fYes, Bool.not_true, Bool.not_false, ↓reduceIte, all_of (xs := List.range (xs.length - 1)) (f := fun i => true) (fun i hi => rfl)]
  · simp only [Pu.fSeq, Pu.fSet, Pu.fRet, Pu.fDrop, Pu.fIfS, Pu.fNx, Pu.fRetN, Pu.fIf, Pu.fD, Pu.fP, Pu.fT, Pu.fC, Pu.fBin, Pu.fUn, Pu.fUnO, Pu.fLst, Pu.fTup, Pu.fCons, Pu.fNil, Pu.fVar, Pu.fMove, Pu.fIxO, Pu.fSto, Pu.ownL, Pu.peekAt, SV.peek, OB.lockd, SV.toD, SV.toB, Pu.fAndT, Pu.fOrT, Pu.fNotT, Pu.fAndV, Pu.fOrV, Pu.fNotV, Pu.fChn, Pu.fTru, Pu.fTruV, Pu.fIsi, Pu.ok_bind, Pu.er_bind, Pu.no_bind, Pu.ok_toS, Pu.er_toS, Pu.no_toS, Pu.opt_s, Pu.opt_n, Pu.asD_d, Pu.asD_l, Pu.asD_e, Pu.asD_n, Pu.asB_b, Pu.asB_e, Pu.asB_n, List.getElem?_cons_zero, List.getElem?_cons_succ, List.set_cons_zero, List.set_cons_succ, Option.bind_some, Option.bind_none, List.cons_append, List.nil_append, List.replicate, List.length_cons, List.length_nil, if_true, if_false, Bool.false_eq_true, if_pos, Pu.initE, Pu.B, Pu.I, Pu.add_i, Pu.sub_i, Pu.mul_i, Pu.mulC_l, Pu.mulC_r, Pu.mod_i, Pu.fdiv_s, Pu.lt_i, Pu.gt_i, Pu.le_i, Pu.ge_i, Pu.int_i, Pu.neg_i, Pu.pow_i, Pu.len_l, Pu.len_t, Pu.ix_l, Pu.ix_t, Pu.at_0, Pu.at_1, Pu.ixN_0, Pu.ixN_1, Option.map_some, Pu.outO, Bool.or_self, Bool.or_true, Bool.true_or, and_self, and_true, true_and, Pu.tru_b, Pu.tru_t, Pu.isi_tt, Pu.isi_tl, Pu.arg_d, Pu.seq_t, Pu.seq_l, Pu.list_t, Pu.list_l, Pu.tup_l, Pu.tup_t, Pu.fCallD, Pu.fConsX, Pu.fNilX, Pu.fArgs, Pu.fIt, Pu.fYes, Bool.not_true, Bool.not_false, ↓reduceIte, rng1_m1 hl]
  · rfl
  · intro i hi
    have hi := List.mem_range.mp hi
    have e2 : atI xs ((i : Int) + 1) = some (xs.getD (i + 1) .none) := at_x (i + 1) (by omega)
    exact ⟨rfl, rfl, fun _ => by simp only [Pu.fSeq, Pu.fSet, Pu.fRet, Pu.fDrop, Pu.fIfS, Pu.fNx, Pu.fRetN, Pu.fIf, Pu.fD, Pu.fP, Pu.fT, Pu.fC, Pu.fBin, Pu.fUn, Pu.fUnO, Pu.fLst, Pu.fTup, Pu.fCons, Pu.fNil, Pu.fVar, Pu.fMove, Pu.fIxO, Pu.fSto, Pu.ownL, Pu.peekAt, SV.peek, OB.lockd, SV.toD, SV.toB, Pu.fAndT, Pu.fOrT, Pu.fNotT, Pu.fAndV, Pu.fOrV, Pu.fNotV, Pu.fChn, Pu.fTru, Pu.fTruV, Pu.fIsi, Pu.ok_bind, Pu.er_bind, Pu.no_bind, Pu.ok_toS, Pu.er_toS, Pu.no_toS, Pu.opt_s, Pu.opt_n, Pu.asD_d, Pu.asD_l, Pu.asD_e, Pu.asD_n, Pu.asB_b, Pu.asB_e, Pu.asB_n, List.getElem?_cons_zero, List.getElem?_cons_succ, List.set_cons_zero, List.set_cons_succ, Option.bind_some, Option.bind_none, List.cons_append, List.nil_append, List.replicate, List.length_cons, List.length_nil, if_true, if_false, Bool.false_eq_true, if_pos, Pu.initE, Pu.B, Pu.I, Pu.add_i, Pu.sub_i, Pu.mul_i, Pu.mulC_l, Pu.mulC_r, Pu.mod_i, Pu.fdiv_s, Pu.lt_i, Pu.gt_i, Pu.le_i, Pu.ge_i, Pu.int_i, Pu.neg_i, Pu.pow_i, Pu.len_l, Pu.len_t, Pu.ix_l, Pu.ix_t, Pu.at_0, Pu.at_1, Pu.ixN_0, Pu.ixN_1, Option.map_some, Pu.outO, Bool.or_self, Bool.or_true, Bool.true_or, and_self, and_true, true_and, Pu.tru_b, Pu.tru_t, Pu.isi_tt, Pu.isi_tl, Pu.arg_d, Pu.seq_t, Pu.seq_l, Pu.list_t, Pu.list_l, Pu.tup_l, Pu.tup_t, Pu.fCallD, Pu.fConsX, Pu.fNilX, Pu.fArgs, Pu.fIt, Pu.fYes, Bool.not_true, Bool.not_false, ↓reduceIte, at_x i (by omega), e2, h i (by omega)], rfl⟩
  · rw [List.length_range]
    exact lim_of (by omega)
theorem lt_ii {a b : Nat} (h : a < b) : ltD (iD a) (iD b) = some (.d (.bool true)) := by
  show some (SV.d (.bool (decide ((a : Int) < (b : Int))))) = _
  rw [decide_eq_true
      (by omega)]
theorem eqvA_n : ∀ a b : List Nat, PyData.eqvAll (nD a) (nD b) = decide (a = b)
  | [], [] => by simp [nD, PyData.eqvAll]
  | [], y :: b => by simp [nD, PyData.eqvAll]
  | x :: a, [] => by simp [nD, PyData.eqvAll]
  | x :: a, y :: b => by
    have ih := eqvA_n a b
    unfold nD at ih ⊢
    rw [List.map_cons, List.map_cons, PyData.eqvAll, ih, eqv_i]
    by_cases h : x = y
    · subst h
      by_cases h2 : a = b
      · subst h2
        simp
      · simp [h2]
    · have : ¬ (x : Int) = (y : Int) := by omega
      simp [h, this]
theorem eq_tt {a b : List Nat} : eqD (.tuple (nD a)) (.tuple (nD b)) = some (.d (.bool (decide (a = b)))) := by
  have h : eqC (.tuple (nD a)) (.tuple (nD b)) = true := by
    have := dp_t (l := a)
    exact decide_eq_true
        (by omega)
  unfold eqD
  rw [if_pos h, PyData.eqv, eqvA_n]
  rfl
theorem neq_tt {a b : List Nat} : neD (.tuple (nD a)) (.tuple (nD b)) = some (.d (.bool (!decide (a = b)))) := by
  have h : eqC (.tuple (nD a)) (.tuple (nD b)) = true := by
    have := dp_t (l := a)
    exact decide_eq_true
        (by omega)
  unfold neD
  rw [if_pos h, PyData.eqv, eqvA_n]
  rfl
end
end Lw
/-! JkC -/
set_option maxRecDepth 10000
namespace Lw
open PySem PySem.Spec PyProof.Rows L2 WoK LamX Pu
section
variable {m : Nat} {l ps : List Nat}
theorem within_allI {b : Int} (h : l.length ≤ 1000) (hb : ∀ x ∈ l, (x : Int) ≤ b) : F_are_within [.d (.tuple (nD l)), .d (.int 0), .d (.int b)] = .ok (.d (.bool true)) none := by
  refine runD_rt (ρ := [.d (.tuple (nD l)), .d (.int 0), .d (.int b), .un]) ?_
  show g_are_within [.d (.tuple (nD l)), .d (.int 0), .d (.int b), .un] = _
  unfold g_are_within
  simp only [Pu.fSeq, Pu.fSet, Pu.fRet, Pu.fDrop, Pu.fIfS, Pu.fNx, Pu.fRetN, Pu.fIf, Pu.fD, Pu.fP, Pu.fT, Pu.fC, Pu.fBin, Pu.fUn, Pu.fUnO, Pu.fLst, Pu.fTup, Pu.fCons, Pu.fNil, Pu.fVar, Pu.fMove, Pu.fIxO, Pu.fSto, Pu.ownL, Pu.peekAt, SV.peek, OB.lockd, SV.toD, SV.toB, Pu.fAndT, Pu.fOrT, Pu.fNotT, Pu.fAndV, Pu.fOrV, Pu.fNotV, Pu.fChn, Pu.fTru, Pu.fTruV, Pu.fIsi, Pu.ok_bind, Pu.er_bind, Pu.no_bind, Pu.ok_toS, Pu.er_toS, Pu.no_toS, Pu.opt_s, Pu.opt_n, Pu.asD_d, Pu.asD_l, Pu.asD_e, Pu.asD_n, Pu.asB_b, Pu.asB_e, Pu.asB_n, List.getElem?_cons_zero, List.getElem?_cons_succ, List.set_cons_zero, List.set_cons_succ, Option.bind_some, Option.bind_none, List.cons_append, List.nil_append, List.replicate, List.length_cons, List.length_nil, if_true, if_false, Bool.false_eq_true, if_pos, Pu.initE, Pu.B, Pu.I, Pu.add_i, Pu.sub_i, Pu.mul_i, Pu.mulC_l, Pu.mulC_r, Pu.mod_i, Pu.fdiv_s, Pu.lt_i, Pu.gt_i, Pu.le_i, Pu.ge_i, Pu.int_i, Pu.neg_i, Pu.pow_i, Pu.len_l, Pu.len_t, Pu.ix_l, Pu.ix_t, Pu.at_0, Pu.at_1, Pu.ixN_0, Pu.ixN_1, Option.map_some, Pu.outO, Bool.or_self, Bool.or_true, Bool.true_or, and_self, and_true, true_and, Pu.tru_b, Pu.tru_t, Pu.isi_tt, Pu.isi_tl, Pu.arg_d, Pu.seq_t, Pu.seq_l, Pu.list_t, Pu.list_l, Pu.tup_l, Pu.tup_t, Pu.fCallD, Pu.fConsX, Pu.fNilX, Pu.fArgs, Pu.fIt, Pu.fYes, Bool.not_true, Bool.not_false, ↓reduceIte]
  rw [fLc_t (xs := l) (e := iD) (fun _ => true) (fun x => .bool (decide ((0 : Int) ≤ x) && decide ((x : Int) ≤ b))) (fun x => [.d (.tuple (nD l)), .d (.int 0), .d (.int b), .d (iD x)]) ?_ ?_ ?_ (lim_of h)]
  · simp only [Pu.fSeq, Pu.fSet, Pu.fRet, Pu.fDrop, Pu.fIfS, Pu.fNx, Pu.fRetN, Pu.fIf, Pu.fD, Pu.fP, Pu.fT, Pu.fC, Pu.fBin, Pu.fUn, Pu.fUnO, Pu.fLst, Pu.fTup, Pu.fCons, Pu.fNil, Pu.fVar, Pu.fMove, Pu.fIxO, Pu.fSto, Pu.ownL, Pu.peekAt, SV.peek, OB.lockd, SV.toD, SV.toB, Pu.fAndT, Pu.fOrT, Pu.fNotT, Pu.fAndV, Pu.fOrV, Pu.fNotV, Pu.fChn, Pu.fTru, Pu.fTruV, Pu.fIsi, Pu.ok_bind, Pu.er_bind, Pu.no_bind, Pu.ok_toS, Pu.er_toS, Pu.no_toS, Pu.opt_s, Pu.opt_n, Pu.asD_d, Pu.asD_l, Pu.asD_e, Pu.asD_n, Pu.asB_b, Pu.asB_e, Pu.asB_n, List.getElem?_cons_zero, List.getElem?_cons_succ, List.set_cons_zero, List.set_cons_succ, Option.bind_some, Option.bind_none, List.cons_append, List.nil_append, List.replicate, List.length_cons, List.length_nil, if_true, if_false, Bool.false_eq_true, if_pos, Pu.initE, Pu.B, Pu.I, Pu.add_i, Pu.sub_i, Pu.mul_i, Pu.mulC_l, Pu.mulC_r, Pu.mod_i, Pu.fdiv_s, Pu.lt_i, Pu.gt_i, Pu.le_i, Pu.ge_i, Pu.int_i, Pu.neg_i, Pu.pow_i, Pu.len_l, Pu.len_t, Pu.ix_l, Pu.ix_t, Pu.at_0, Pu.at_1, Pu.ixN_0, Pu.ixN_1, Option.map_some, Pu.outO, Bool.or_self, Bool.or_true, Bool.true_or, and_self, and_true, true_and, Pu.tru_b, Pu.tru_t, Pu.isi_tt, Pu.isi_tl, Pu.arg_d, Pu.seq_t, Pu.seq_l, Pu.list_t, Pu.list_l, Pu.tup_l, Pu.tup_t, Pu.fCallD, Pu.fConsX, Pu.fNilX, Pu.fArgs, Pu.fIt, Pu.fYes, Bool.not_true, Bool.not_false, ↓reduceIte, all_of (xs := l) (f := fun x => decide ((0 : Int) ≤ x) && decide ((x : Int) ≤ b)) (fun x hx => by
      have := hb x hx
      rw [decide_eq_true (show (0 : Int) ≤ x by omega), decide_eq_true (show (x : Int) ≤ b by omega)]
      rfl)]
  · rfl
  · rfl
  · intro x hx
    refine ⟨rfl, rfl, fun _ => ?_, rfl⟩
    simp only [Pu.fSeq, Pu.fSet, Pu.fRet, Pu.fDrop, Pu.fIfS, Pu.fNx, Pu.fRetN, Pu.fIf, Pu.fD, Pu.fP, Pu.fT, Pu.fC, Pu.fBin, Pu.fUn, Pu.fUnO, Pu.fLst, Pu.fTup, Pu.fCons, Pu.fNil, Pu.fVar, Pu.fMove, Pu.fIxO, Pu.fSto, Pu.ownL, Pu.peekAt, SV.peek, OB.lockd, SV.toD, SV.toB, Pu.fAndT, Pu.fOrT, Pu.fNotT, Pu.fAndV, Pu.fOrV, Pu.fNotV, Pu.fChn, Pu.fTru, Pu.fTruV, Pu.fIsi, Pu.ok_bind, Pu.er_bind, Pu.no_bind, Pu.ok_toS, Pu.er_toS, Pu.no_toS, Pu.opt_s, Pu.opt_n, Pu.asD_d, Pu.asD_l, Pu.asD_e, Pu.asD_n, Pu.asB_b, Pu.asB_e, Pu.asB_n, List.getElem?_cons_zero, List.getElem?_cons_succ, List.set_cons_zero, List.set_cons_succ, Option.bind_some, Option.bind_none, List.cons_append, List.nil_append, List.replicate, List.length_cons, List.length_nil, if_true, if_false, Bool.false_eq_true, if_pos, Pu.initE, Pu.B, Pu.I, Pu.add_i, Pu.sub_i, Pu.mul_i, Pu.mulC_l, Pu.mulC_r, Pu.mod_i, Pu.fdiv_s, Pu.lt_i, Pu.gt_i, Pu.le_i, Pu.ge_i, Pu.int_i, Pu.neg_i, Pu.pow_i, Pu.len_l, Pu.len_t, Pu.ix_l, Pu.ix_t, Pu.at_0, Pu.at_1, Pu.ixN_0, Pu.ixN_1, Option.map_some, Pu.outO, Bool.or_self, Bool.or_true, Bool.true_or, and_self, and_true, true_and, Pu.tru_b, Pu.tru_t, Pu.isi_tt, Pu.isi_tl, Pu.arg_d, Pu.seq_t, Pu.seq_l, Pu.list_t, Pu.list_l, Pu.tup_l, Pu.tup_t, Pu.fCallD, Pu.fConsX, Pu.fNilX, Pu.fArgs, Pu.fIt, Pu.fYes, Bool.not_true, Bool.not_false, ↓reduceIte, within_i]
theorem asc_n (hl : l.length ≤ 1000) (h : l.Pairwise (· < ·)) : F_are_ascending [.d (.tuple (nD l))] = .ok (.d (.bool true)) none := by
  refine asc_of (by rw [nD_len]; exact hl) fun i hi => ?_
  rw [nD_len] at hi
  have g : ∀ j, j < l.length → (nD l).getD j .none = iD (l.getD j 0) := fun j hj => by
    unfold nD
    rw [List.getD_eq_getElem?_getD, List.getElem?_map, List.getD_eq_getElem?_getD, List.getElem?_eq_getElem hj]
    rfl
  rw [g i (by omega), g (i + 1) hi, getD_lt (show i < l.length by omega), getD_lt hi]
  exact lt_ii (List.pairwise_iff_getElem.mp h i (i + 1) (by omega) hi (by omega))
theorem group_n {b : Int} (hl : l.length ≤ 1000) (h : l.Pairwise (· < ·)) (hb : ∀ x ∈ l, (x : Int) ≤ b) : F_is_group [.d (.tuple (nD l)), .d (.int (l.length : Int)), .d (.int b)] = .ok (.d (.bool true)) none := by
  refine runD_rt (ρ := [.d (.tuple (nD l)), .d (.int (l.length : Int)), .d (.int b)]) ?_
  show g_is_group [.d (.tuple (nD l)), .d (.int (l.length : Int)), .d (.int b)] = _
  unfold g_is_group
  simp only [Pu.fSeq, Pu.fSet, Pu.fRet, Pu.fDrop, Pu.fIfS, Pu.fNx, Pu.fRetN, Pu.fIf, Pu.fD, Pu.fP, Pu.fT, Pu.fC, Pu.fBin, Pu.fUn, Pu.fUnO, Pu.fLst, Pu.fTup, Pu.fCons, Pu.fNil, Pu.fVar, Pu.fMove, Pu.fIxO, Pu.fSto, Pu.ownL, Pu.peekAt, SV.peek, OB.lockd, SV.toD, SV.toB, Pu.fAndT, Pu.fOrT, Pu.fNotT, Pu.fAndV, Pu.fOrV, Pu.fNotV, Pu.fChn, Pu.fTru, Pu.fTruV, Pu.fIsi, Pu.ok_bind, Pu.er_bind, Pu.no_bind, Pu.ok_toS, Pu.er_toS, Pu.no_toS, Pu.opt_s, Pu.opt_n, Pu.asD_d, Pu.asD_l, Pu.asD_e, Pu.asD_n, Pu.asB_b, Pu.asB_e, Pu.asB_n, List.getElem?_cons_zero, List.getElem?_cons_succ, List.set_cons_zero, List.set_cons_succ, Option.bind_some, Option.bind_none, List.cons_append, List.nil_append, List.replicate, List.length_cons, List.length_nil, if_true, if_false, Bool.false_eq_true, if_pos, Pu.initE, Pu.B, Pu.I, Pu.add_i, Pu.sub_i, Pu.mul_i, Pu.mulC_l, Pu.mulC_r, Pu.mod_i, Pu.fdiv_s, Pu.lt_i, Pu.gt_i, Pu.le_i, Pu.ge_i, Pu.int_i, Pu.neg_i, Pu.pow_i, Pu.len_l, Pu.len_t, Pu.ix_l, Pu.ix_t, Pu.at_0, Pu.at_1, Pu.ixN_0, Pu.ixN_1, Option.map_some, Pu.outO, Bool.or_self, Bool.or_true, Bool.true_or, and_self, and_true, true_and, Pu.tru_b, Pu.tru_t, Pu.isi_tt, Pu.isi_tl, Pu.arg_d, Pu.seq_t, Pu.seq_l, Pu.list_t, Pu.list_l, Pu.tup_l, Pu.tup_t, Pu.fCallD, Pu.fConsX, Pu.fNilX, Pu.fArgs, Pu.fIt, Pu.fYes, Bool.not_true, Bool.not_false, ↓reduceIte, within_allI hl hb, asc_n hl h, nD_len, eq_i, decide_true]
theorem inB_n {p : Nat} : ∀ l : List Nat, ((nD l).any fun y => PyData.eqv y (iD p)) = decide (p ∈ l)
  | [] => rfl
  | x :: l => by
    have ih := inB_n (p := p) l
    unfold nD at ih ⊢
    rw [List.map_cons, List.any_cons, ih, eqv_i]
    by_cases h : x = p
    · subst h
      simp
    · have h1 : ¬ (x : Int) = (p : Int) := by omega
      have h2 : ¬ p = x := fun z => h z.symm
      simp [h1, h2]
theorem in_n {p : Nat} : inD (iD p) (.tuple (nD l)) = some (.d (.bool (decide (p ∈ l)))) := by
  have h : inC (iD p) (.tuple (nD l)) = true := rfl
  unfold inD
  rw [if_pos h]
  show some (B ((nD l).any fun y => PyData.eqv y (iD p))) = _
  rw [inB_n]
  rfl
theorem nin_n {p : Nat} : notInD (iD p) (.tuple (nD l)) = some (.d (.bool (!decide (p ∈ l)))) := by
  have h : inC (iD p) (.tuple (nD l)) = true := rfl
  unfold notInD
  rw [if_pos h]
  show some (B (!(nD l).any fun y => PyData.eqv y (iD p))) = _
  rw [inB_n]
  rfl
/-! sums -/
theorem ints_n : ∀ l : List Nat, intsOf (nD l) = some (l.map fun (n : Nat) => (n : Int))
  | [] => rfl
  | x :: l => by
    have ih := ints_n l
    unfold nD at ih ⊢
    rw [List.map_cons]
    show (intsOf (l.map fun (n : Nat) => PyData.int (n : Int))).map (_ :: ·) = _
    rw [ih]
    rfl
theorem sum_c : ∀ l : List Nat, (l.map fun (n : Nat) => (n : Int)).sum = ((l.sum : Nat) : Int)
  | [] => rfl
  | x :: l => by
    rw [List.map_cons, List.sum_cons, sum_c l, List.sum_cons]
    exact (Int.natCast_add x l.sum).symm
theorem sumD_n : sumD (.list (nD l)) = some (.d (iD l.sum)) := by
  show (intsOf (nD l)).map _ = _
  rw [ints_n]
  show some (Pu.I (l.map fun (n : Nat) => (n : Int)).sum) = _
  rw [sum_c]
  rfl
theorem sl_lfrom {j : Nat} (h : j ≤ l.length) : slD (.list (nD l)) (some (j : Int)) none = some (.own none (.lst (nD (l.drop j)))) := by
  show some (SV.own none (.lst (cutL (nD l) (some (j : Int)) none))) = _
  unfold cutL
  rw [HT.sIx_nat, HT.sIx_none, nD_len, Nat.min_eq_left h]
  unfold nD
  rw [← List.map_drop, ← List.map_take, List.take_of_length_le]
  rw [List.length_drop]
  exact Nat.le_refl _
theorem sl_lto {j : Nat} (h : j ≤ l.length) : slD (.list (nD l)) none (some (j : Int)) = some (.own none (.lst (nD (l.take j)))) := by
  show some (SV.own none (.lst (cutL (nD l) none (some (j : Int))))) = _
  unfold cutL
  rw [HT.sIx_nat, HT.sIx_none, nD_len, Nat.min_eq_left h, List.drop_zero, Nat.sub_zero]
  unfold nD
  rw [← List.map_take]
def fL (n : Nat) (f : Nat → Nat) : List Nat := (List.range n).map f
theorem fL_len {n : Nat} {f : Nat → Nat} : (fL n f).length = n := by
  unfold fL
  rw [List.length_map,
      List.length_range]
theorem fL_sum (f : Nat → Nat) : ∀ n, (fL n f).sum = sm f n
  | 0 => rfl
  | n + 1 => by
    have ih := fL_sum f n
    unfold fL at ih ⊢
    rw [List.range_succ, List.map_append, List.sum_append, ih]
    show sm f n + (f n + 0) = sm f n + f n
    rw [Nat.add_zero]
theorem fL_take {n j : Nat} {f : Nat → Nat} (h : j ≤ n) : ((fL n f).take j).sum = sm f j := by
  rw [← fL_sum f j]
  unfold fL
  rw [← List.map_take, List.take_range, Nat.min_eq_left h]
theorem fL_drop {n j : Nat} {f : Nat → Nat} (h : j ≤ n) : ((fL n f).drop j).sum = sm f n - sm f j := by
  have h1 : ((fL n f).take j).sum + ((fL n f).drop j).sum = (fL n f).sum := by rw [← List.sum_append, List.take_append_drop]
  rw [fL_take h, fL_sum] at h1
  omega
abbrev envC (m : Nat) (ps : List Nat) (s2 s3 s4 : SV) : Ev := [.d (.int (m : Int)), .d (.tuple (nD ps)), s2, s3, s4]
theorem lcL_tE {α : Type} {bd : D → Ev → Option Ev} {fc : Ev → R Bool} {fe : Ev → R D} {vs : List Nat} {e : α → D} {ρ ρ2 : Ev} {d : α} {y : D} {ds : List α} {ρ1 ρ3 : Ev} (h1 : bd (e d) ρ = some ρ1) (h2 : fc ρ1 = .ok true ρ1) (h3 : fe ρ1 = .ok y ρ3) (h4 : wipeE ρ3 vs = ρ2) {ys : List D} {ρ4 : Ev} (h5 : lcL bd fc fe vs (ds.map e) ρ2 = .ok ys ρ4) : lcL bd fc fe vs ((d :: ds).map e) ρ = .ok (y :: ys) ρ4 := by
  rw [List.map_cons, lcL, h1]
  dsimp only
  rw [h2]
  show (noE (fe ρ1)).bind _ = _
  rw [h3]
  show (lcL bd fc fe vs (ds.map e) (wipeE ρ3 vs)).bind _ = _
  rw [h4, h5]
  rfl
/-- a row of sums over a list that is the def's own -/
theorem comp_i {n : Nat} {f g : Nat → Nat} {s3 : SV} {fe : Ev → R D} (hn : n ≤ 900)
    (h1 : ∀ j, j ≤ n → ∀ s, (s = .own none (.lst (nD (fL n f))) ∨ s = .d (.list (nD (fL n f)))) → fe (envC m ps s s3 (.d (iD j))) = .ok (iD (g j)) (envC m ps (.d (.list (nD (fL n f)))) s3 (.d (iD j)))) :
    fLc (fArgs rng1D (fCons (fD (fBin addD (fD (fUnO lenD 2)) (fC (.int 1)))) (fNil))) (bNm 4) (fYes) fe [4] (envC m ps (.own none (.lst (nD (fL n f)))) s3 .un) = .ok (.own none (.lst (nD (fL (n + 1) g)))) (envC m ps (.d (.list (nD (fL n f)))) s3 .un) := by
  have hfi : fArgs rng1D (fCons (fD (fBin addD (fD (fUnO lenD 2)) (fC (.int 1)))) (fNil)) (envC m ps (.own none (.lst (nD (fL n f)))) s3 .un) = .ok ((List.range (n + 1)).map iD) (envC m ps (.own none (.lst (nD (fL n f)))) s3 .un) := by
    have e : rng1D [.int ((n : Int) + 1)] = some ((List.range (n + 1)).map iD) := rng1_n (m := n + 1) (by omega)
    simp only [Pu.fSeq, Pu.fSet, Pu.fRet, Pu.fDrop, Pu.fIfS, Pu.fNx, Pu.fRetN, Pu.fIf, Pu.fD, Pu.fP, Pu.fT, Pu.fC, Pu.fBin, Pu.fUn, Pu.fUnO, Pu.fLst, Pu.fTup, Pu.fCons, Pu.fNil, Pu.fVar, Pu.fMove, Pu.fIxO, Pu.fSto, Pu.ownL, Pu.peekAt, SV.peek, OB.lockd, SV.toD, SV.toB, Pu.fAndT, Pu.fOrT, Pu.fNotT, Pu.fAndV, Pu.fOrV, Pu.fNotV, Pu.fChn, Pu.fTru, Pu.fTruV, Pu.fIsi, Pu.ok_bind, Pu.er_bind, Pu.no_bind, Pu.ok_toS, Pu.er_toS, Pu.no_toS, Pu.opt_s, Pu.opt_n, Pu.asD_d, Pu.asD_l, Pu.asD_e, Pu.asD_n, Pu.asB_b, Pu.asB_e, Pu.asB_n, List.getElem?_cons_zero, List.getElem?_cons_succ, List.set_cons_zero, List.set_cons_succ, Option.bind_some, Option.bind_none, List.cons_append, List.nil_append, List.replicate, List.length_cons, List.length_nil, if_true, if_false, Bool.false_eq_true, if_pos, Pu.initE, Pu.B, Pu.I, Pu.add_i, Pu.sub_i, Pu.mul_i, Pu.mulC_l, Pu.mulC_r, Pu.mod_i, Pu.fdiv_s, Pu.lt_i, Pu.gt_i, Pu.le_i, Pu.ge_i, Pu.int_i, Pu.neg_i, Pu.pow_i, Pu.len_l, Pu.len_t, Pu.ix_l, Pu.ix_t, Pu.at_0, Pu.at_1, Pu.ixN_0, Pu.ixN_1, Option.map_some, Pu.outO, Bool.or_self, Bool.or_true, Bool.true_or, and_self, and_true, true_and, Pu.tru_b, Pu.tru_t, Pu.isi_tt, Pu.isi_tl, Pu.arg_d, Pu.seq_t, Pu.seq_l, Pu.list_t, Pu.list_l, Pu.tup_l, Pu.tup_t, Pu.fCallD, Pu.fConsX, Pu.fNilX, Pu.fArgs, Pu.fIt, Pu.fYes, Bool.not_true, Bool.not_false, ↓reduceIte, nD_len, fL_len, e]
  have hr := lcL_t (bd := bNm 4) (fc := fYes) (fe := fe) (vs := [4]) (ρ := envC m ps (.d (.list (nD (fL n f)))) s3 .un) (e := iD) (fun _ => true) (fun j => iD (g j)) (fun j => envC m ps (.d (.list (nD (fL n f)))) s3 (.d (iD j))) ((List.range n).map Nat.succ) (fun j hj => by
    obtain ⟨i, hi, rfl⟩ := List.mem_map.mp hj
    have := List.mem_range.mp hi
    exact ⟨rfl, rfl, fun _ => h1 (i + 1) (by omega) _ (.inr rfl), rfl⟩)
  have hl := lcL_tE (bd := bNm 4) (fc := fYes) (fe := fe) (vs := [4]) (e := iD) (ρ := envC m ps (.own none (.lst (nD (fL n f)))) s3 .un) (ρ1 := envC m ps (.own none (.lst (nD (fL n f)))) s3 (.d (iD 0))) (ρ3 := envC m ps (.d (.list (nD (fL n f)))) s3 (.d (iD 0))) (d := 0) rfl rfl (h1 0 (Nat.zero_le n) _ (.inl rfl)) rfl hr
  rw [← List.range_succ_eq_map] at hl
  unfold fLc
  rw [hfi]
  show (lcL _ _ _ _ _ (envC m ps (.own none (.lst (nD (fL n f)))) s3 .un)).bind _ = _
  rw [hl]
  rw [filter_yes]
  have e : iD (g 0) :: ((List.range n).map Nat.succ).map (fun j => iD (g j)) = nD (fL (n + 1) g) := by
    unfold fL nD
    rw [List.range_succ_eq_map]
    simp only [List.map_map, List.map_cons]
    rfl
  rw [e]
  show (if (nD (fL (n + 1) g)).length ≤ LIM then _ else _) = _
  rw [if_pos (by rw [nD_len, fL_len]; exact lim_of (by omega))]
def wdN (m : Nat) (ps : List Nat) : List Bool := (List.range (m - 1)).map fun p => decide (p ∈ ps)
structure IsPl (m : Nat) (ps : List Nat) : Prop where
  asc : ps.Pairwise (· < ·)
  lt : ∀ x ∈ ps, x + 1 < m
theorem pl_len : ∀ {ps : List Nat} {a m : Nat}, ps.Pairwise (· < ·) → (∀ x ∈ ps, a ≤ x ∧ x < m) → ps.length ≤ m - a
  | [], _, _, _, _ => Nat.zero_le _
  | x :: ps, a, m, h, hx => by
    obtain ⟨h1, h2⟩ :=
        List.pairwise_cons.mp h
    obtain ⟨h3, h4⟩ := hx x List.mem_cons_self
    have := pl_len (a := x + 1) (m := m) h2 fun y hy => ⟨h1 y hy, (hx y (List.mem_cons_of_mem _ hy)).2⟩
    rw [List.length_cons]
    omega
theorem IsPl.len (h : IsPl m ps) : ps.length ≤ m := by
  have := pl_len (a := 0) (m := m) h.asc fun x hx => ⟨Nat.zero_le _, by have := h.lt x hx; omega⟩
  omega
theorem many_n (h1 : 1 ≤ m) (h2 : m ≤ 30) : F_check_many [.d (.int (m : Int))] = .ok (.d .none) none := many_i h1 h2
theorem count_i (h1 : 1 ≤ m) (h2 : m ≤ 30) (hp : IsPl m ps) : F_count_falls_at [.d (.int (m : Int)), .d (.tuple (nD ps))] = .ok (.d (iD (beN (wdN m ps)))) none := by
  have hlen := hp.len
  let P : List Nat → Ev → Prop := fun rest ρ => ∃ n f y, ρ = envC m ps (.own none (.lst (nD (fL n f)))) y .un ∧ n + rest.length = m ∧ run n f (rest.map fun p => decide (p ∈ ps)) = beN (wdN m ps)
  obtain ⟨ρ', e, n, f, y, rfl, hn, hf⟩ := forL_t (bd := bNm 3) (fb := fIfS (fT (fBin inD (fD (fVar 3)) (fD (fVar 1)))) (fSet 2 (fLc (fArgs rng1D (fCons (fD (fBin addD (fD (fUnO lenD 2)) (fC (.int 1)))) (fNil))) (bNm 4) (fYes) (fD (fUn sumD (fD (fSl (fD (fVar 2)) (fPart (fD (fVar 4))) (fNoPart))))) [4])) (fSet 2 (fLc (fArgs rng1D (fCons (fD (fBin addD (fD (fUnO lenD 2)) (fC (.int 1)))) (fNil))) (bNm 4) (fYes) (fD (fUn sumD (fD (fSl (fD (fVar 2)) (fNoPart) (fPart (fD (fVar 4))))))) [4]))) (e := iD) P (by
    rintro p rest ρ ⟨n, f, y, rfl, hn, hf⟩
    rw [List.length_cons] at hn
    have ht : fT (fBin inD (fD (fVar 3)) (fD (fVar 1))) (envC m ps (.own none (.lst (nD (fL n f)))) (.d (iD p)) .un) = .ok (decide (p ∈ ps)) (envC m ps (.own none (.lst (nD (fL n f)))) (.d (iD p)) .un) := by
      simp only [Pu.fSeq, Pu.fSet, Pu.fRet, Pu.fDrop, Pu.fIfS, Pu.fNx, Pu.fRetN, Pu.fIf, Pu.fD, Pu.fP, Pu.fT, Pu.fC, Pu.fBin, Pu.fUn, Pu.fUnO, Pu.fLst, Pu.fTup, Pu.fCons, Pu.fNil, Pu.fVar, Pu.fMove, Pu.fIxO, Pu.fSto, Pu.ownL, Pu.peekAt, SV.peek, OB.lockd, SV.toD, SV.toB, Pu.fAndT, Pu.fOrT, Pu.fNotT, Pu.fAndV, Pu.fOrV, Pu.fNotV, Pu.fChn, Pu.fTru, Pu.fTruV, Pu.fIsi, Pu.ok_bind, Pu.er_bind, Pu.no_bind, Pu.ok_toS, Pu.er_toS, Pu.no_toS, Pu.opt_s, Pu.opt_n, Pu.asD_d, Pu.asD_l, Pu.asD_e, Pu.asD_n, Pu.asB_b, Pu.asB_e, Pu.asB_n, List.getElem?_cons_zero, List.getElem?_cons_succ, List.set_cons_zero, List.set_cons_succ, Option.bind_some, Option.bind_none, List.cons_append, List.nil_append, List.replicate, List.length_cons, List.length_nil, if_true, if_false, Bool.false_eq_true, if_pos, Pu.initE, Pu.B, Pu.I, Pu.add_i, Pu.sub_i, Pu.mul_i, Pu.mulC_l, Pu.mulC_r, Pu.mod_i, Pu.fdiv_s, Pu.lt_i, Pu.gt_i, Pu.le_i, Pu.ge_i, Pu.int_i, Pu.neg_i, Pu.pow_i, Pu.len_l, Pu.len_t, Pu.ix_l, Pu.ix_t, Pu.at_0, Pu.at_1, Pu.ixN_0, Pu.ixN_1, Option.map_some, Pu.outO, Bool.or_self, Bool.or_true, Bool.true_or, and_self, and_true, true_and, Pu.tru_b, Pu.tru_t, Pu.isi_tt, Pu.isi_tl, Pu.arg_d, Pu.seq_t, Pu.seq_l, Pu.list_t, Pu.list_l, Pu.tup_l, Pu.tup_t, Pu.fCallD, Pu.fConsX, Pu.fNilX, Pu.fArgs, Pu.fIt, Pu.fYes, Bool.not_true, Bool.not_false, ↓reduceIte, in_n]
    by_cases hin : p ∈ ps
    · refine ⟨envC m ps (.own none (.lst (nD (fL n f)))) (.d (iD p)) .un, envC m ps (.own none (.lst (nD (fL (n + 1) (dS n f))))) (.d (iD p)) .un, rfl, ?_, n + 1, dS n f, _, rfl, by omega, ?_⟩
      · unfold fIfS
        rw [ht, decide_eq_true hin]
        refine st_nx (comp_i (by omega) fun j hj s hs => ?_)
        have hs2 := sl_lfrom (l := fL n f) (j := j) (by rw [fL_len]; exact hj)
        have hs3 := fL_drop (f := f) hj
        rcases hs with rfl | rfl
        · simp only [Pu.fSeq, Pu.fSet, Pu.fRet, Pu.fDrop, Pu.fIfS, Pu.fNx, Pu.fRetN, Pu.fIf, Pu.fD, Pu.fP, Pu.fT, Pu.fC, Pu.fBin, Pu.fUn, Pu.fUnO, Pu.fLst, Pu.fTup, Pu.fCons, Pu.fNil, Pu.fVar, Pu.fMove, Pu.fIxO, Pu.fSto, Pu.ownL, Pu.peekAt, SV.peek, OB.lockd, SV.toD, SV.toB, Pu.fAndT, Pu.fOrT, Pu.fNotT, Pu.fAndV, Pu.fOrV, Pu.fNotV, Pu.fChn, Pu.fTru, Pu.fTruV, Pu.fIsi, Pu.ok_bind, Pu.er_bind, Pu.no_bind, Pu.ok_toS, Pu.er_toS, Pu.no_toS, Pu.opt_s, Pu.opt_n, Pu.asD_d, Pu.asD_l, Pu.asD_e, Pu.asD_n, Pu.asB_b, Pu.asB_e, Pu.asB_n, List.getElem?_cons_zero, List.getElem?_cons_succ, List.set_cons_zero, List.set_cons_succ, Option.bind_some, Option.bind_none, List.cons_append, List.nil_append, List.replicate, List.length_cons, List.length_nil, if_true, if_false, Bool.false_eq_true, if_pos, Pu.initE, Pu.B, Pu.I, Pu.add_i, Pu.sub_i, Pu.mul_i, Pu.mulC_l, Pu.mulC_r, Pu.mod_i, Pu.fdiv_s, Pu.lt_i, Pu.gt_i, Pu.le_i, Pu.ge_i, Pu.int_i, Pu.neg_i, Pu.pow_i, Pu.len_l, Pu.len_t, Pu.ix_l, Pu.ix_t, Pu.at_0, Pu.at_1, Pu.ixN_0, Pu.ixN_1, Option.map_some, Pu.outO, Bool.or_self, Bool.or_true, Bool.true_or, and_self, and_true, true_and, Pu.tru_b, Pu.tru_t, Pu.isi_tt, Pu.isi_tl, Pu.arg_d, Pu.seq_t, Pu.seq_l, Pu.list_t, Pu.list_l, Pu.tup_l, Pu.tup_t, Pu.fCallD, Pu.fConsX, Pu.fNilX, Pu.fArgs, Pu.fIt, Pu.fYes, Bool.not_true, Bool.not_false, ↓reduceIte, fSl, fPart, fNoPart, D.toI, hs2, sumD_n, hs3]
          rfl
        · simp only [Pu.fSeq, Pu.fSet, Pu.fRet, Pu.fDrop, Pu.fIfS, Pu.fNx, Pu.fRetN, Pu.fIf, Pu.fD, Pu.fP, Pu.fT, Pu.fC, Pu.fBin, Pu.fUn, Pu.fUnO, Pu.fLst, Pu.fTup, Pu.fCons, Pu.fNil, Pu.fVar, Pu.fMove, Pu.fIxO, Pu.fSto, Pu.ownL, Pu.peekAt, SV.peek, OB.lockd, SV.toD, SV.toB, Pu.fAndT, Pu.fOrT, Pu.fNotT, Pu.fAndV, Pu.fOrV, Pu.fNotV, Pu.fChn, Pu.fTru, Pu.fTruV, Pu.fIsi, Pu.ok_bind, Pu.er_bind, Pu.no_bind, Pu.ok_toS, Pu.er_toS, Pu.no_toS, Pu.opt_s, Pu.opt_n, Pu.asD_d, Pu.asD_l, Pu.asD_e, Pu.asD_n, Pu.asB_b, Pu.asB_e, Pu.asB_n, List.getElem?_cons_zero, List.getElem?_cons_succ, List.set_cons_zero, List.set_cons_succ, Option.bind_some, Option.bind_none, List.cons_append, List.nil_append, List.replicate, List.length_cons, List.length_nil, if_true, if_false, Bool.false_eq_true, if_pos, Pu.initE, Pu.B, Pu.I, Pu.add_i, Pu.sub_i, Pu.mul_i, Pu.mulC_l, Pu.mulC_r, Pu.mod_i, Pu.fdiv_s, Pu.lt_i, Pu.gt_i, Pu.le_i, Pu.ge_i, Pu.int_i, Pu.neg_i, Pu.pow_i, Pu.len_l, Pu.len_t, Pu.ix_l, Pu.ix_t, Pu.at_0, Pu.at_1, Pu.ixN_0, Pu.ixN_1, Option.map_some, Pu.outO, Bool.or_self, Bool.or_true, Bool.true_or, and_self, and_true, true_and, Pu.tru_b, Pu.tru_t, Pu.isi_tt, Pu.isi_tl, Pu.arg_d, Pu.seq_t, Pu.seq_l, Pu.list_t, Pu.list_l, Pu.tup_l, Pu.tup_t, Pu.fCallD, Pu.fConsX, Pu.fNilX, Pu.fArgs, Pu.fIt, Pu.fYes, Bool.not_true, Bool.not_false, ↓reduceIte, fSl, fPart, fNoPart, D.toI, hs2, sumD_n, hs3]
          rfl
      · rw [← hf, List.map_cons, decide_eq_true hin]
        rfl
    · refine ⟨envC m ps (.own none (.lst (nD (fL n f)))) (.d (iD p)) .un, envC m ps (.own none (.lst (nD (fL (n + 1) (sm f))))) (.d (iD p)) .un, rfl, ?_, n + 1, sm f, _, rfl, by omega, ?_⟩
      · unfold fIfS
        rw [ht, decide_eq_false hin]
        refine st_nx (comp_i (by omega) fun j hj s hs => ?_)
        have hs2 := sl_lto (l := fL n f) (j := j) (by rw [fL_len]; exact hj)
        have hs3 := fL_take (f := f) hj
        rcases hs with rfl | rfl
        · simp only [Pu.fSeq, Pu.fSet, Pu.fRet, Pu.fDrop, Pu.fIfS, Pu.fNx, Pu.fRetN, Pu.fIf, Pu.fD, Pu.fP, Pu.fT, Pu.fC, Pu.fBin, Pu.fUn, Pu.fUnO, Pu.fLst, Pu.fTup, Pu.fCons, Pu.fNil, Pu.fVar, Pu.fMove, Pu.fIxO, Pu.fSto, Pu.ownL, Pu.peekAt, SV.peek, OB.lockd, SV.toD, SV.toB, Pu.fAndT, Pu.fOrT, Pu.fNotT, Pu.fAndV, Pu.fOrV, Pu.fNotV, Pu.fChn, Pu.fTru, Pu.fTruV, Pu.fIsi, Pu.ok_bind, Pu.er_bind, Pu.no_bind, Pu.ok_toS, Pu.er_toS, Pu.no_toS, Pu.opt_s, Pu.opt_n, Pu.asD_d, Pu.asD_l, Pu.asD_e, Pu.asD_n, Pu.asB_b, Pu.asB_e, Pu.asB_n, List.getElem?_cons_zero, List.getElem?_cons_succ, List.set_cons_zero, List.set_cons_succ, Option.bind_some, Option.bind_none, List.cons_append, List.nil_append, List.replicate, List.length_cons, List.length_nil, if_true, if_false, Bool.false_eq_true, if_pos, Pu.initE, Pu.B, Pu.I, Pu.add_i, Pu.sub_i, Pu.mul_i, Pu.mulC_l, Pu.mulC_r, Pu.mod_i, Pu.fdiv_s, Pu.lt_i, Pu.gt_i, Pu.le_i, Pu.ge_i, Pu.int_i, Pu.neg_i, Pu.pow_i, Pu.len_l, Pu.len_t, Pu.ix_l, Pu.ix_t, Pu.at_0, Pu.at_1, Pu.ixN_0, Pu.ixN_1, Option.map_some, Pu.outO, Bool.or_self, Bool.or_true, Bool.true_or, and_self, and_true, true_and, Pu.tru_b, Pu.tru_t, Pu.isi_tt, Pu.isi_tl, Pu.arg_d, Pu.seq_t, Pu.seq_l, Pu.list_t, Pu.list_l, Pu.tup_l, Pu.tup_t, Pu.fCallD, Pu.fConsX, Pu.fNilX, Pu.fArgs, Pu.fIt, Pu.fYes, Bool.not_true, Bool.not_false, ↓reduceIte, fSl, fPart, fNoPart, D.toI, hs2, sumD_n, hs3]
        · simp only [Pu.fSeq, Pu.fSet, Pu.fRet, Pu.fDrop, Pu.fIfS, Pu.fNx, Pu.fRetN, Pu.fIf, Pu.fD, Pu.fP, Pu.fT, Pu.fC, Pu.fBin, Pu.fUn, Pu.fUnO, Pu.fLst, Pu.fTup, Pu.fCons, Pu.fNil, Pu.fVar, Pu.fMove, Pu.fIxO, Pu.fSto, Pu.ownL, Pu.peekAt, SV.peek, OB.lockd, SV.toD, SV.toB, Pu.fAndT, Pu.fOrT, Pu.fNotT, Pu.fAndV, Pu.fOrV, Pu.fNotV, Pu.fChn, Pu.fTru, Pu.fTruV, Pu.fIsi, Pu.ok_bind, Pu.er_bind, Pu.no_bind, Pu.ok_toS, Pu.er_toS, Pu.no_toS, Pu.opt_s, Pu.opt_n, Pu.asD_d, Pu.asD_l, Pu.asD_e, Pu.asD_n, Pu.asB_b, Pu.asB_e, Pu.asB_n, List.getElem?_cons_zero, List.getElem?_cons_succ, List.set_cons_zero, List.set_cons_succ, Option.bind_some, Option.bind_none, List.cons_append, List.nil_append, List.replicate, List.length_cons, List.length_nil, if_true, if_false, Bool.false_eq_true, if_pos, Pu.initE, Pu.B, Pu.I, Pu.add_i, Pu.sub_i, Pu.mul_i, Pu.mulC_l, Pu.mulC_r, Pu.mod_i, Pu.fdiv_s, Pu.lt_i, Pu.gt_i, Pu.le_i, Pu.ge_i, Pu.int_i, Pu.neg_i, Pu.pow_i, Pu.len_l, Pu.len_t, Pu.ix_l, Pu.ix_t, Pu.at_0, Pu.at_1, Pu.ixN_0, Pu.ixN_1, Option.map_some, Pu.outO, Bool.or_self, Bool.or_true, Bool.true_or, and_self, and_true, true_and, Pu.tru_b, Pu.tru_t, Pu.isi_tt, Pu.isi_tl, Pu.arg_d, Pu.seq_t, Pu.seq_l, Pu.list_t, Pu.list_l, Pu.tup_l, Pu.tup_t, Pu.fCallD, Pu.fConsX, Pu.fNilX, Pu.fArgs, Pu.fIt, Pu.fYes, Bool.not_true, Bool.not_false, ↓reduceIte, fSl, fPart, fNoPart, D.toI, hs2, sumD_n, hs3]
      · rw [← hf, List.map_cons, decide_eq_false hin]
        rfl) (List.range (m - 1)) (envC m ps (.own none (.lst (nD (fL 1 fun _ => 1)))) .un .un) ⟨1, fun _ => 1, .un, rfl, by rw [List.length_range]; omega, rfl⟩
  have hf : sm f n = beN (wdN m ps) := hf
  refine runD_rt (ρ := envC m ps (.own none (.lst (nD (fL n f)))) y .un) ?_
  show g_count_falls_at (envC m ps .un .un .un) = _
  unfold g_count_falls_at
  rw [seq_nx (ρ' := envC m ps .un .un .un) (by simp only [Pu.fSeq, Pu.fSet, Pu.fRet, Pu.fDrop, Pu.fIfS, Pu.fNx, Pu.fRetN, Pu.fIf, Pu.fD, Pu.fP, Pu.fT, Pu.fC, Pu.fBin, Pu.fUn, Pu.fUnO, Pu.fLst, Pu.fTup, Pu.fCons, Pu.fNil, Pu.fVar, Pu.fMove, Pu.fIxO, Pu.fSto, Pu.ownL, Pu.peekAt, SV.peek, OB.lockd, SV.toD, SV.toB, Pu.fAndT, Pu.fOrT, Pu.fNotT, Pu.fAndV, Pu.fOrV, Pu.fNotV, Pu.fChn, Pu.fTru, Pu.fTruV, Pu.fIsi, Pu.ok_bind, Pu.er_bind, Pu.no_bind, Pu.ok_toS, Pu.er_toS, Pu.no_toS, Pu.opt_s, Pu.opt_n, Pu.asD_d, Pu.asD_l, Pu.asD_e, Pu.asD_n, Pu.asB_b, Pu.asB_e, Pu.asB_n, List.getElem?_cons_zero, List.getElem?_cons_succ, List.set_cons_zero, List.set_cons_succ, Option.bind_some, Option.bind_none, List.cons_append, List.nil_append, List.replicate, List.length_cons, List.length_nil, if_true, if_false, Bool.false_eq_true, if_pos, Pu.initE, Pu.B, Pu.I, Pu.add_i, Pu.sub_i, Pu.mul_i, Pu.mulC_l, Pu.mulC_r, Pu.mod_i, Pu.fdiv_s, Pu.lt_i, Pu.gt_i, Pu.le_i, Pu.ge_i, Pu.int_i, Pu.neg_i, Pu.pow_i, Pu.len_l, Pu.len_t, Pu.ix_l, Pu.ix_t, Pu.at_0, Pu.at_1, Pu.ixN_0, Pu.ixN_1, Option.map_some, Pu.outO, Bool.or_self, Bool.or_true, Bool.true_or, and_self, and_true, true_and, Pu.tru_b, Pu.tru_t, Pu.isi_tt, Pu.isi_tl, Pu.arg_d, Pu.seq_t, Pu.seq_l, Pu.list_t, Pu.list_l, Pu.tup_l, Pu.tup_t, Pu.fCallD, Pu.fConsX, Pu.fNilX, Pu.fArgs, Pu.fIt, Pu.fYes, Bool.not_true, Bool.not_false, ↓reduceIte, many_n h1 h2])]
  have hg := group_n (l := ps) (b := (m : Int) - 2) (by omega) hp.asc fun x hx => by
    have := hp.lt x hx
    omega
  rw [seq_nx (ρ' := envC m ps .un .un .un) (by simp only [Pu.fSeq, Pu.fSet, Pu.fRet, Pu.fDrop, Pu.fIfS, Pu.fNx, Pu.fRetN, Pu.fIf, Pu.fD, Pu.fP, Pu.fT, Pu.fC, Pu.fBin, Pu.fUn, Pu.fUnO, Pu.fLst, Pu.fTup, Pu.fCons, Pu.fNil, Pu.fVar, Pu.fMove, Pu.fIxO, Pu.fSto, Pu.ownL, Pu.peekAt, SV.peek, OB.lockd, SV.toD, SV.toB, Pu.fAndT, Pu.fOrT, Pu.fNotT, Pu.fAndV, Pu.fOrV, Pu.fNotV, Pu.fChn, Pu.fTru, Pu.fTruV, Pu.fIsi, Pu.ok_bind, Pu.er_bind, Pu.no_bind, Pu.ok_toS, Pu.er_toS, Pu.no_toS, Pu.opt_s, Pu.opt_n, Pu.asD_d, Pu.asD_l, Pu.asD_e, Pu.asD_n, Pu.asB_b, Pu.asB_e, Pu.asB_n, List.getElem?_cons_zero, List.getElem?_cons_succ, List.set_cons_zero, List.set_cons_succ, Option.bind_some, Option.bind_none, List.cons_append, List.nil_append, List.replicate, List.length_cons, List.length_nil, if_true, if_false, Bool.false_eq_true, if_pos, Pu.initE, Pu.B, Pu.I, Pu.add_i, Pu.sub_i, Pu.mul_i, Pu.mulC_l, Pu.mulC_r, Pu.mod_i, Pu.fdiv_s, Pu.lt_i, Pu.gt_i, Pu.le_i, Pu.ge_i, Pu.int_i, Pu.neg_i, Pu.pow_i, Pu.len_l, Pu.len_t, Pu.ix_l, Pu.ix_t, Pu.at_0, Pu.at_1, Pu.ixN_0, Pu.ixN_1, Option.map_some, Pu.outO, Bool.or_self, Bool.or_true, Bool.true_or, and_self, and_true, true_and, Pu.tru_b, Pu.tru_t, Pu.isi_tt, Pu.isi_tl, Pu.arg_d, Pu.seq_t, Pu.seq_l, Pu.list_t, Pu.list_l, Pu.tup_l, Pu.tup_t, Pu.fCallD, Pu.fConsX, Pu.fNilX, Pu.fArgs, Pu.fIt, Pu.fYes, Bool.not_true, Bool.not_false, ↓reduceIte, nD_len, hg])]
  rw [seq_nx (ρ' := envC m ps (.own none (.lst (nD (fL 1 fun _ => 1)))) .un .un) (by simp only [Pu.fSeq, Pu.fSet, Pu.fRet, Pu.fDrop, Pu.fIfS, Pu.fNx, Pu.fRetN, Pu.fIf, Pu.fD, Pu.fP, Pu.fT, Pu.fC, Pu.fBin, Pu.fUn, Pu.fUnO, Pu.fLst, Pu.fTup, Pu.fCons, Pu.fNil, Pu.fVar, Pu.fMove, Pu.fIxO, Pu.fSto, Pu.ownL, Pu.peekAt, SV.peek, OB.lockd, SV.toD, SV.toB, Pu.fAndT, Pu.fOrT, Pu.fNotT, Pu.fAndV, Pu.fOrV, Pu.fNotV, Pu.fChn, Pu.fTru, Pu.fTruV, Pu.fIsi, Pu.ok_bind, Pu.er_bind, Pu.no_bind, Pu.ok_toS, Pu.er_toS, Pu.no_toS, Pu.opt_s, Pu.opt_n, Pu.asD_d, Pu.asD_l, Pu.asD_e, Pu.asD_n, Pu.asB_b, Pu.asB_e, Pu.asB_n, List.getElem?_cons_zero, List.getElem?_cons_succ, List.set_cons_zero, List.set_cons_succ, Option.bind_some, Option.bind_none, List.cons_append, List.nil_append, List.replicate, List.length_cons, List.length_nil, if_true, if_false, Bool.false_eq_true, if_pos, Pu.initE, Pu.B, Pu.I, Pu.add_i, Pu.sub_i, Pu.mul_i, Pu.mulC_l, Pu.mulC_r, Pu.mod_i, Pu.fdiv_s, Pu.lt_i, Pu.gt_i, Pu.le_i, Pu.ge_i, Pu.int_i, Pu.neg_i, Pu.pow_i, Pu.len_l, Pu.len_t, Pu.ix_l, Pu.ix_t, Pu.at_0, Pu.at_1, Pu.ixN_0, Pu.ixN_1, Option.map_some, Pu.outO, Bool.or_self, Bool.or_true, Bool.true_or, and_self, and_true, true_and, Pu.tru_b, Pu.tru_t, Pu.isi_tt, Pu.isi_tl, Pu.arg_d, Pu.seq_t, Pu.seq_l, Pu.list_t, Pu.list_l, Pu.tup_l, Pu.tup_t, Pu.fCallD, Pu.fConsX, Pu.fNilX, Pu.fArgs, Pu.fIt, Pu.fYes, Bool.not_true, Bool.not_false, ↓reduceIte, lim_1]; rfl)]
  rw [seq_nx (fFor_nx (ds := (List.range (m - 1)).map iD) (by simp only [Pu.fSeq, Pu.fSet, Pu.fRet, Pu.fDrop, Pu.fIfS, Pu.fNx, Pu.fRetN, Pu.fIf, Pu.fD, Pu.fP, Pu.fT, Pu.fC, Pu.fBin, Pu.fUn, Pu.fUnO, Pu.fLst, Pu.fTup, Pu.fCons, Pu.fNil, Pu.fVar, Pu.fMove, Pu.fIxO, Pu.fSto, Pu.ownL, Pu.peekAt, SV.peek, OB.lockd, SV.toD, SV.toB, Pu.fAndT, Pu.fOrT, Pu.fNotT, Pu.fAndV, Pu.fOrV, Pu.fNotV, Pu.fChn, Pu.fTru, Pu.fTruV, Pu.fIsi, Pu.ok_bind, Pu.er_bind, Pu.no_bind, Pu.ok_toS, Pu.er_toS, Pu.no_toS, Pu.opt_s, Pu.opt_n, Pu.asD_d, Pu.asD_l, Pu.asD_e, Pu.asD_n, Pu.asB_b, Pu.asB_e, Pu.asB_n, List.getElem?_cons_zero, List.getElem?_cons_succ, List.set_cons_zero, List.set_cons_succ, Option.bind_some, Option.bind_none, List.cons_append, List.nil_append, List.replicate, List.length_cons, List.length_nil, if_true, if_false, Bool.false_eq_true, if_pos, Pu.initE, Pu.B, Pu.I, Pu.add_i, Pu.sub_i, Pu.mul_i, Pu.mulC_l, Pu.mulC_r, Pu.mod_i, Pu.fdiv_s, Pu.lt_i, Pu.gt_i, Pu.le_i, Pu.ge_i, Pu.int_i, Pu.neg_i, Pu.pow_i, Pu.len_l, Pu.len_t, Pu.ix_l, Pu.ix_t, Pu.at_0, Pu.at_1, Pu.ixN_0, Pu.ixN_1, Option.map_some, Pu.outO, Bool.or_self, Bool.or_true, Bool.true_or, and_self, and_true, true_and, Pu.tru_b, Pu.tru_t, Pu.isi_tt, Pu.isi_tl, Pu.arg_d, Pu.seq_t, Pu.seq_l, Pu.list_t, Pu.list_l, Pu.tup_l, Pu.tup_t, Pu.fCallD, Pu.fConsX, Pu.fNilX, Pu.fArgs, Pu.fIt, Pu.fYes, Bool.not_true, Bool.not_false, ↓reduceIte, rng1_m1 (n := m) (by omega)]) e)]
  have hs : sumD (.list (nD (fL n f))) = some (.d (iD (beN (wdN m ps)))) := by rw [sumD_n, fL_sum, hf]
  simp only [Pu.fSeq, Pu.fSet, Pu.fRet, Pu.fDrop, Pu.fIfS, Pu.fNx, Pu.fRetN, Pu.fIf, Pu.fD, Pu.fP, Pu.fT, Pu.fC, Pu.fBin, Pu.fUn, Pu.fUnO, Pu.fLst, Pu.fTup, Pu.fCons, Pu.fNil, Pu.fVar, Pu.fMove, Pu.fIxO, Pu.fSto, Pu.ownL, Pu.peekAt, SV.peek, OB.lockd, SV.toD, SV.toB, Pu.fAndT, Pu.fOrT, Pu.fNotT, Pu.fAndV, Pu.fOrV, Pu.fNotV, Pu.fChn, Pu.fTru, Pu.fTruV, Pu.fIsi, Pu.ok_bind, Pu.er_bind, Pu.no_bind, Pu.ok_toS, Pu.er_toS, Pu.no_toS, Pu.opt_s, Pu.opt_n, Pu.asD_d, Pu.asD_l, Pu.asD_e, Pu.asD_n, Pu.asB_b, Pu.asB_e, Pu.asB_n, List.getElem?_cons_zero, List.getElem?_cons_succ, List.set_cons_zero, List.set_cons_succ, Option.bind_some, Option.bind_none, List.cons_append, List.nil_append, List.replicate, List.length_cons, List.length_nil, if_true, if_false, Bool.false_eq_true, if_pos, Pu.initE, Pu.B, Pu.I, Pu.add_i, Pu.sub_i, Pu.mul_i, Pu.mulC_l, Pu.mulC_r, Pu.mod_i, Pu.fdiv_s, Pu.lt_i, Pu.gt_i, Pu.le_i, Pu.ge_i, Pu.int_i, Pu.neg_i, Pu.pow_i, Pu.len_l, Pu.len_t, Pu.ix_l, Pu.ix_t, Pu.at_0, Pu.at_1, Pu.ixN_0, Pu.ixN_1, Option.map_some, Pu.outO, Bool.or_self, Bool.or_true, Bool.true_or, and_self, and_true, true_and, Pu.tru_b, Pu.tru_t, Pu.isi_tt, Pu.isi_tl, Pu.arg_d, Pu.seq_t, Pu.seq_l, Pu.list_t, Pu.list_l, Pu.tup_l, Pu.tup_t, Pu.fCallD, Pu.fConsX, Pu.fNilX, Pu.fArgs, Pu.fIt, Pu.fYes, Bool.not_true, Bool.not_false, ↓reduceIte, hs]
end
end Lw
/-! JkD -/
set_option maxRecDepth 10000
namespace Lw
open PySem PySem.Spec PyProof.Rows L2 WoK LamX Pu
section
variable {m : Nat} {l ps o : List Nat}
theorem drum_is (c : Int) : ∃ xs, F__law_drum [.d (.int c), .d (.int 7)] = .ok (.own none (.lst xs)) none ∧ Pot xs := by
  have hmul : mulC c 97 = true := by
    unfold mulC
    rw [Bool.or_eq_true]
    exact .inr rfl
  by_cases hc : c < 10 ^ Int.toNat 18
  · refine ⟨[.int 0, .int ((c * 97 + 1087 * 7) % 2077504273 + 71)], runD_rt (ρ := [.d (.int c), .d (.int 7), .d (.int 0)]) ?_, _, _, rfl, by omega, by omega⟩
    show g__law_drum [.d (.int c), .d (.int 7), .un] = _
    unfold g__law_drum
    simp (config := { decide := true }) only [Pu.fSeq, Pu.fSet, Pu.fRet, Pu.fDrop, Pu.fIfS, Pu.fNx, Pu.fRetN, Pu.fIf, Pu.fD, Pu.fP, Pu.fT, Pu.fC, Pu.fBin, Pu.fUn, Pu.fUnO, Pu.fLst, Pu.fTup, Pu.fCons, Pu.fNil, Pu.fVar, Pu.fMove, Pu.fIxO, Pu.fSto, Pu.ownL, Pu.peekAt, SV.peek, OB.lockd, SV.toD, SV.toB, Pu.fAndT, Pu.fOrT, Pu.fNotT, Pu.fAndV, Pu.fOrV, Pu.fNotV, Pu.fChn, Pu.fTru, Pu.fTruV, Pu.fIsi, Pu.ok_bind, Pu.er_bind, Pu.no_bind, Pu.ok_toS, Pu.er_toS, Pu.no_toS, Pu.opt_s, Pu.opt_n, Pu.asD_d, Pu.asD_l, Pu.asD_e, Pu.asD_n, Pu.asB_b, Pu.asB_e, Pu.asB_n, List.getElem?_cons_zero, List.getElem?_cons_succ, List.set_cons_zero, List.set_cons_succ, Option.bind_some, Option.bind_none, List.cons_append, List.nil_append, List.replicate, List.length_cons, List.length_nil, if_true, if_false, Bool.false_eq_true, if_pos, Pu.initE, Pu.B, Pu.I, Pu.add_i, Pu.sub_i, Pu.mul_i, Pu.mulC_l, Pu.mulC_r, Pu.mod_i, Pu.fdiv_s, Pu.lt_i, Pu.gt_i, Pu.le_i, Pu.ge_i, Pu.int_i, Pu.neg_i, Pu.pow_i, Pu.len_l, Pu.len_t, Pu.ix_l, Pu.ix_t, Pu.at_0, Pu.at_1, Pu.ixN_0, Pu.ixN_1, Option.map_some, Pu.outO, Bool.or_self, Bool.or_true, Bool.true_or, and_self, and_true, true_and, hc, hmul, decide_true, Bool.not_true]
  · have h18 : (10 : Int) ^ Int.toNat 18 = 1000000000000000000 := by decide
    have hc2 : 1000000000000000000 ≤ c := by
      rw [h18] at hc
      omega
    refine ⟨[.int (c / 7 + 61 * 7), .int ((c * 97 + 1087 * 7) % 2077504273 + 71)], runD_rt (ρ := [.d (.int c), .d (.int 7), .d (.int (c / 7 + 61 * 7))]) ?_, _, _, rfl, by omega, by omega⟩
    show g__law_drum [.d (.int c), .d (.int 7), .un] = _
    unfold g__law_drum
    simp (config := { decide := true }) only [Pu.fSeq, Pu.fSet, Pu.fRet, Pu.fDrop, Pu.fIfS, Pu.fNx, Pu.fRetN, Pu.fIf, Pu.fD, Pu.fP, Pu.fT, Pu.fC, Pu.fBin, Pu.fUn, Pu.fUnO, Pu.fLst, Pu.fTup, Pu.fCons, Pu.fNil, Pu.fVar, Pu.fMove, Pu.fIxO, Pu.fSto, Pu.ownL, Pu.peekAt, SV.peek, OB.lockd, SV.toD, SV.toB, Pu.fAndT, Pu.fOrT, Pu.fNotT, Pu.fAndV, Pu.fOrV, Pu.fNotV, Pu.fChn, Pu.fTru, Pu.fTruV, Pu.fIsi, Pu.ok_bind, Pu.er_bind, Pu.no_bind, Pu.ok_toS, Pu.er_toS, Pu.no_toS, Pu.opt_s, Pu.opt_n, Pu.asD_d, Pu.asD_l, Pu.asD_e, Pu.asD_n, Pu.asB_b, Pu.asB_e, Pu.asB_n, List.getElem?_cons_zero, List.getElem?_cons_succ, List.set_cons_zero, List.set_cons_succ, Option.bind_some, Option.bind_none, List.cons_append, List.nil_append, List.replicate, List.length_cons, List.length_nil, if_true, if_false, Bool.false_eq_true, if_pos, Pu.initE, Pu.B, Pu.I, Pu.add_i, Pu.sub_i, Pu.mul_i, Pu.mulC_l, Pu.mulC_r, Pu.mod_i, Pu.fdiv_s, Pu.lt_i, Pu.gt_i, Pu.le_i, Pu.ge_i, Pu.int_i, Pu.neg_i, Pu.pow_i, Pu.len_l, Pu.len_t, Pu.ix_l, Pu.ix_t, Pu.at_0, Pu.at_1, Pu.ixN_0, Pu.ixN_1, Option.map_some, Pu.outO, Bool.or_self, Bool.or_true, Bool.true_or, and_self, and_true, true_and, hc, hmul, decide_false, Bool.not_false]
theorem roll_n {xs : List D} {n : Nat} (hp : Pot xs) (hn : 0 < n) (h2 : n ≤ 1000) : ∃ ys k, F__law_roll (.lst xs) [.d (.int (n : Int))] = .ok (.d (iD k)) (some (.lst ys)) ∧ Pot ys ∧ k < n := by
  obtain ⟨ys, k, e, hy, h1, h3⟩ := dip_is (m := (n : Int)) hp (by omega) (by omega)
  refine ⟨ys, k.toNat, ?_, hy, by omega⟩
  have hk : iD k.toNat = .int k := by
    show PyData.int _ = _
    rw [Int.toNat_of_nonneg h1]
  rw [e, hk]
abbrev envW (pot : List D) (m : Nat) (b : Int) (s : SV) : Ev := [.own (some 0) (.lst pot), .d (.int (m : Int)), .d (.int b), s]
theorem draw_is {b : Nat} (h1 : 0 < b) (h2 : b ≤ 1000) : ∀ (ts : List Nat) (pot : List D), Pot pot → ∃ pot' s, s.Sublist ts ∧ Pot pot' ∧
    lcL (bNm 3) (fT (fBin eqD (fD (fCallO F__law_roll 0 (fConsX (fP (fD (fVar 2))) (fNilX)))) (fC (.int 0)))) (fD (fVar 3)) [3] (ts.map iD) (envW pot m b .un) = .ok (nD s) (envW pot' m b .un)
  | [], pot, hp => ⟨pot, [], List.Sublist.slnil, hp, rfl⟩
  | p :: ts, pot, hp => by
    obtain ⟨pot1, k, e, hp1, hk⟩ := roll_n (n := b) hp h1 h2
    obtain ⟨pot2, s, hs, hp2, e2⟩ := draw_is h1 h2 ts pot1 hp1
    have hc : fT (fBin eqD (fD (fCallO F__law_roll 0 (fConsX (fP (fD (fVar 2))) (fNilX)))) (fC (.int 0))) (envW pot m b (.d (iD p))) = .ok (decide ((k : Int) = 0)) (envW pot1 m b (.d (iD p))) := by
      simp only [Pu.fSeq, Pu.fSet, Pu.fRet, Pu.fDrop, Pu.fIfS, Pu.fNx, Pu.fRetN, Pu.fIf, Pu.fD, Pu.fP, Pu.fT, Pu.fC, Pu.fBin, Pu.fUn, Pu.fUnO, Pu.fLst, Pu.fTup, Pu.fCons, Pu.fNil, Pu.fVar, Pu.fMove, Pu.fIxO, Pu.fSto, Pu.ownL, Pu.peekAt, SV.peek, OB.lockd, SV.toD, SV.toB, Pu.fAndT, Pu.fOrT, Pu.fNotT, Pu.fAndV, Pu.fOrV, Pu.fNotV, Pu.fChn, Pu.fTru, Pu.fTruV, Pu.fIsi, Pu.ok_bind, Pu.er_bind, Pu.no_bind, Pu.ok_toS, Pu.er_toS, Pu.no_toS, Pu.opt_s, Pu.opt_n, Pu.asD_d, Pu.asD_l, Pu.asD_e, Pu.asD_n, Pu.asB_b, Pu.asB_e, Pu.asB_n, List.getElem?_cons_zero, List.getElem?_cons_succ, List.set_cons_zero, List.set_cons_succ, Option.bind_some, Option.bind_none, List.cons_append, List.nil_append, List.replicate, List.length_cons, List.length_nil, if_true, if_false, Bool.false_eq_true, if_pos, Pu.initE, Pu.B, Pu.I, Pu.add_i, Pu.sub_i, Pu.mul_i, Pu.mulC_l, Pu.mulC_r, Pu.mod_i, Pu.fdiv_s, Pu.lt_i, Pu.gt_i, Pu.le_i, Pu.ge_i, Pu.int_i, Pu.neg_i, Pu.pow_i, Pu.len_l, Pu.len_t, Pu.ix_l, Pu.ix_t, Pu.at_0, Pu.at_1, Pu.ixN_0, Pu.ixN_1, Option.map_some, Pu.outO, Bool.or_self, Bool.or_true, Bool.true_or, and_self, and_true, true_and, Pu.tru_b, Pu.tru_t, Pu.isi_tt, Pu.isi_tl, Pu.arg_d, Pu.seq_t, Pu.seq_l, Pu.list_t, Pu.list_l, Pu.tup_l, Pu.tup_t, Pu.fCallD, Pu.fConsX, Pu.fNilX, Pu.fArgs, Pu.fIt, Pu.fYes, Bool.not_true, Bool.not_false, ↓reduceIte, fCallO, e, eq_i]
    have unf : lcL (bNm 3) (fT (fBin eqD (fD (fCallO F__law_roll 0 (fConsX (fP (fD (fVar 2))) (fNilX)))) (fC (.int 0)))) (fD (fVar 3)) [3] ((p :: ts).map iD) (envW pot m b .un) =
        if decide ((k : Int) = 0) = true then ((R.ok (nD s) (envW pot2 m b .un)).bind fun ys ρ4 => R.ok (iD p :: ys) ρ4) else R.ok (nD s) (envW pot2 m b .un) := by
      rw [List.map_cons, lcL, show bNm 3 (iD p) (envW pot m b .un) = some (envW pot m b (.d (iD p))) from rfl]
      dsimp only
      rw [hc]
      show (if decide ((k : Int) = 0) = true then (noE (fD (fVar 3) (envW pot1 m b (.d (iD p))))).bind _ else lcL _ _ _ _ _ (envW pot1 m b .un)) = _
      by_cases hk : decide ((k : Int) = 0) = true
      · rw [if_pos hk, if_pos hk]
        show (lcL _ _ _ _ _ (envW pot1 m b .un)).bind _ = _
        rw [e2]
      · rw [if_neg hk, if_neg hk, e2]
    by_cases hk : decide ((k : Int) = 0) = true
    · rw [if_pos hk] at unf
      exact ⟨pot2, p :: s, hs.cons₂ p, hp2, unf⟩
    · rw [if_neg hk] at unf
      exact ⟨pot2, s, hs.cons p, hp2, unf⟩
theorem pl_sub {s : List Nat} (h : s.Sublist (List.range (m - 1))) : IsPl m s := ⟨List.pairwise_lt_range.sublist h, fun x hx => by
  have := List.mem_range.mp (h.subset hx)
  omega⟩
theorem IsPl.sub {s : List Nat} (h : IsPl m ps) (hs : s.Sublist ps) : IsPl m s := ⟨h.asc.sublist hs, fun x hx => h.lt x (hs.subset hx)⟩
theorem places_is {pot : List D} {b : Nat} (hp : Pot pot) (h1 : 0 < b) (h2 : b ≤ 1000) (hm : m ≤ 30) : ∃ pot' s, F__law_places (.lst pot) [.d (.int (m : Int)), .d (.int (b : Int))] = .ok (.d (.tuple (nD s))) (some (.lst pot')) ∧ Pot pot' ∧ s.Sublist (List.range (m - 1)) := by
  obtain ⟨pot2, s, hs, hp2, e⟩ := draw_is h1 h2 (m := m) (List.range (m - 1)) pot hp
  refine ⟨pot2, s, runO_rt (ρ := [.d (.int (m : Int)), .d (.int (b : Int)), .un]) ?_, hp2, hs⟩
  show g__law_places (envW pot m b .un) = _
  unfold g__law_places
  have hl := hs.length_le
  rw [List.length_range] at hl
  have e3 : fLc (fArgs rng1D (fCons (fD (fBin subD (fD (fVar 1)) (fC (.int 1)))) (fNil))) (bNm 3) (fT (fBin eqD (fD (fCallO F__law_roll 0 (fConsX (fP (fD (fVar 2))) (fNilX)))) (fC (.int 0)))) (fD (fVar 3)) [3] (envW pot m b .un) = .ok (.own none (.lst (nD s))) (envW pot2 m b .un) := by
    have hfi : fArgs rng1D (fCons (fD (fBin subD (fD (fVar 1)) (fC (.int 1)))) (fNil)) (envW pot m b .un) = .ok ((List.range (m - 1)).map iD) (envW pot m b .un) := by
      simp only [Pu.fSeq, Pu.fSet, Pu.fRet, Pu.fDrop, Pu.fIfS, Pu.fNx, Pu.fRetN, Pu.fIf, Pu.fD, Pu.fP, Pu.fT, Pu.fC, Pu.fBin, Pu.fUn, Pu.fUnO, Pu.fLst, Pu.fTup, Pu.fCons, Pu.fNil, Pu.fVar, Pu.fMove, Pu.fIxO, Pu.fSto, Pu.ownL, Pu.peekAt, SV.peek, OB.lockd, SV.toD, SV.toB, Pu.fAndT, Pu.fOrT, Pu.fNotT, Pu.fAndV, Pu.fOrV, Pu.fNotV, Pu.fChn, Pu.fTru, Pu.fTruV, Pu.fIsi, Pu.ok_bind, Pu.er_bind, Pu.no_bind, Pu.ok_toS, Pu.er_toS, Pu.no_toS, Pu.opt_s, Pu.opt_n, Pu.asD_d, Pu.asD_l, Pu.asD_e, Pu.asD_n, Pu.asB_b, Pu.asB_e, Pu.asB_n, List.getElem?_cons_zero, List.getElem?_cons_succ, List.set_cons_zero, List.set_cons_succ, Option.bind_some, Option.bind_none, List.cons_append, List.nil_append, List.replicate, List.length_cons, List.length_nil, if_true, if_false, Bool.false_eq_true, if_pos, Pu.initE, Pu.B, Pu.I, Pu.add_i, Pu.sub_i, Pu.mul_i, Pu.mulC_l, Pu.mulC_r, Pu.mod_i, Pu.fdiv_s, Pu.lt_i, Pu.gt_i, Pu.le_i, Pu.ge_i, Pu.int_i, Pu.neg_i, Pu.pow_i, Pu.len_l, Pu.len_t, Pu.ix_l, Pu.ix_t, Pu.at_0, Pu.at_1, Pu.ixN_0, Pu.ixN_1, Option.map_some, Pu.outO, Bool.or_self, Bool.or_true, Bool.true_or, and_self, and_true, true_and, Pu.tru_b, Pu.tru_t, Pu.isi_tt, Pu.isi_tl, Pu.arg_d, Pu.seq_t, Pu.seq_l, Pu.list_t, Pu.list_l, Pu.tup_l, Pu.tup_t, Pu.fCallD, Pu.fConsX, Pu.fNilX, Pu.fArgs, Pu.fIt, Pu.fYes, Bool.not_true, Bool.not_false, ↓reduceIte, rng1_m1 (n := m) (by omega)]
    unfold fLc
    rw [hfi]
    show (lcL _ _ _ _ _ (envW pot m b .un)).bind _ = _
    rw [e]
    show (if (nD s).length ≤ LIM then _ else _) = _
    rw [if_pos (by rw [nD_len]; exact lim_of (by omega))]
  simp only [Pu.fSeq, Pu.fSet, Pu.fRet, Pu.fDrop, Pu.fIfS, Pu.fNx, Pu.fRetN, Pu.fIf, Pu.fD, Pu.fP, Pu.fT, Pu.fC, Pu.fBin, Pu.fUn, Pu.fUnO, Pu.fLst, Pu.fTup, Pu.fCons, Pu.fNil, Pu.fVar, Pu.fMove, Pu.fIxO, Pu.fSto, Pu.ownL, Pu.peekAt, SV.peek, OB.lockd, SV.toD, SV.toB, Pu.fAndT, Pu.fOrT, Pu.fNotT, Pu.fAndV, Pu.fOrV, Pu.fNotV, Pu.fChn, Pu.fTru, Pu.fTruV, Pu.fIsi, Pu.ok_bind, Pu.er_bind, Pu.no_bind, Pu.ok_toS, Pu.er_toS, Pu.no_toS, Pu.opt_s, Pu.opt_n, Pu.asD_d, Pu.asD_l, Pu.asD_e, Pu.asD_n, Pu.asB_b, Pu.asB_e, Pu.asB_n, List.getElem?_cons_zero, List.getElem?_cons_succ, List.set_cons_zero, List.set_cons_succ, Option.bind_some, Option.bind_none, List.cons_append, List.nil_append, List.replicate, List.length_cons, List.length_nil, if_true, if_false, Bool.false_eq_true, if_pos, Pu.initE, Pu.B, Pu.I, Pu.add_i, Pu.sub_i, Pu.mul_i, Pu.mulC_l, Pu.mulC_r, Pu.mod_i, Pu.fdiv_s, Pu.lt_i, Pu.gt_i, Pu.le_i, Pu.ge_i, Pu.int_i, Pu.neg_i, Pu.pow_i, Pu.len_l, Pu.len_t, Pu.ix_l, Pu.ix_t, Pu.at_0, Pu.at_1, Pu.ixN_0, Pu.ixN_1, Option.map_some, Pu.outO, Bool.or_self, Bool.or_true, Bool.true_or, and_self, and_true, true_and, Pu.tru_b, Pu.tru_t, Pu.isi_tt, Pu.isi_tl, Pu.arg_d, Pu.seq_t, Pu.seq_l, Pu.list_t, Pu.list_l, Pu.tup_l, Pu.tup_t, Pu.fCallD, Pu.fConsX, Pu.fNilX, Pu.fArgs, Pu.fIt, Pu.fYes, Bool.not_true, Bool.not_false, ↓reduceIte, e3]
/-! falls of all orders of few things -/
def fallsN (o : List Nat) : List Nat := (List.range (o.length - 1)).filter fun (e : Nat) => decide (((o.getD (e + 1) 0 : Nat) : Int) < ((o.getD e 0 : Nat) : Int))
theorem falls_i (hl : o.length ≤ 30) : F__law_falls [.d (.tuple (nD o))] = .ok (.own none (.lst (nD (fallsN o)))) none := by
  refine runD_rt (ρ := [.d (.tuple (nD o)), .un]) ?_
  show g__law_falls [.d (.tuple (nD o)), .un] = _
  unfold g__law_falls
  have e := fLc_t (fi := fArgs rng1D (fCons (fD (fBin subD (fD (fUnO lenD 0)) (fC (.int 1)))) (fNil))) (bd := bNm 1) (fc := fT (fBin gtD (fD (fIxO 0 (fD (fVar 1)))) (fD (fIxO 0 (fD (fBin addD (fD (fVar 1)) (fC (.int 1)))))))) (fe := fD (fVar 1)) (vs := [1]) (ρ := [.d (.tuple (nD o)), .un]) (xs := List.range (o.length - 1)) (e := iD) (fun (e : Nat) => decide (((o.getD (e + 1) 0 : Nat) : Int) < ((o.getD e 0 : Nat) : Int))) iD (fun e => [.d (.tuple (nD o)), .d (iD e)]) (by simp only [Pu.fSeq, Pu.fSet, Pu.fRet, Pu.fDrop, Pu.fIfS, Pu.fNx, Pu.fRetN, Pu.fIf, Pu.fD, Pu.fP, Pu.fT, Pu.fC, Pu.fBin, Pu.fUn, Pu.fUnO, Pu.fLst, Pu.fTup, Pu.fCons, Pu.fNil, Pu.fVar, Pu.fMove, Pu.fIxO, Pu.fSto, Pu.ownL, Pu.peekAt, SV.peek, OB.lockd, SV.toD, SV.toB, Pu.fAndT, Pu.fOrT, Pu.fNotT, Pu.fAndV, Pu.fOrV, Pu.fNotV, Pu.fChn, Pu.fTru, Pu.fTruV, Pu.fIsi, Pu.ok_bind, Pu.er_bind, Pu.no_bind, Pu.ok_toS, Pu.er_toS, Pu.no_toS, Pu.opt_s, Pu.opt_n, Pu.asD_d, Pu.asD_l, Pu.asD_e, Pu.asD_n, Pu.asB_b, Pu.asB_e, Pu.asB_n, List.getElem?_cons_zero, List.getElem?_cons_succ, List.set_cons_zero, List.set_cons_succ, Option.bind_some, Option.bind_none, List.cons_append, List.nil_append, List.replicate, List.length_cons, List.length_nil, if_true, if_false, Bool.false_eq_true, if_pos, Pu.initE, Pu.B, Pu.I, Pu.add_i, Pu.sub_i, Pu.mul_i, Pu.mulC_l, Pu.mulC_r, Pu.mod_i, Pu.fdiv_s, Pu.lt_i, Pu.gt_i, Pu.le_i, Pu.ge_i, Pu.int_i, Pu.neg_i, Pu.pow_i, Pu.len_l, Pu.len_t, Pu.ix_l, Pu.ix_t, Pu.at_0, Pu.at_1, Pu.ixN_0, Pu.ixN_1, Option.map_some, Pu.outO, Bool.or_self, Bool.or_true, Bool.true_or, and_self, and_true, true_and, Pu.tru_b, Pu.tru_t, Pu.isi_tt, Pu.isi_tl, Pu.arg_d, Pu.seq_t, Pu.seq_l, Pu.list_t, Pu.list_l, Pu.tup_l, Pu.tup_t, Pu.fCallD, Pu.fConsX, Pu.fNilX, Pu.fArgs, Pu.fIt, Pu.fYes, Bool.not_true, Bool.not_false, ↓reduceIte, nD_len, rng1_m1 (n := o.length) (by omega)]) rfl (fun e he => by
    have := List.mem_range.mp he
    exact ⟨rfl, by simp only [Pu.fSeq, Pu.fSet, Pu.fRet, Pu.fDrop, Pu.fIfS, Pu.fNx, Pu.fRetN, Pu.fIf, Pu.fD, Pu.fP, Pu.fT, Pu.fC, Pu.fBin, Pu.fUn, Pu.fUnO, Pu.fLst, Pu.fTup, Pu.fCons, Pu.fNil, Pu.fVar, Pu.fMove, Pu.fIxO, Pu.fSto, Pu.ownL, Pu.peekAt, SV.peek, OB.lockd, SV.toD, SV.toB, Pu.fAndT, Pu.fOrT, Pu.fNotT, Pu.fAndV, Pu.fOrV, Pu.fNotV, Pu.fChn, Pu.fTru, Pu.fTruV, Pu.fIsi, Pu.ok_bind, Pu.er_bind, Pu.no_bind, Pu.ok_toS, Pu.er_toS, Pu.no_toS, Pu.opt_s, Pu.opt_n, Pu.asD_d, Pu.asD_l, Pu.asD_e, Pu.asD_n, Pu.asB_b, Pu.asB_e, Pu.asB_n, List.getElem?_cons_zero, List.getElem?_cons_succ, List.set_cons_zero, List.set_cons_succ, Option.bind_some, Option.bind_none, List.cons_append, List.nil_append, List.replicate, List.length_cons, List.length_nil, if_true, if_false, Bool.false_eq_true, if_pos, Pu.initE, Pu.B, Pu.I, Pu.add_i, Pu.sub_i, Pu.mul_i, Pu.mulC_l, Pu.mulC_r, Pu.mod_i, Pu.fdiv_s, Pu.lt_i, Pu.gt_i, Pu.le_i, Pu.ge_i, Pu.int_i, Pu.neg_i, Pu.pow_i, Pu.len_l, Pu.len_t, Pu.ix_l, Pu.ix_t, Pu.at_0, Pu.at_1, Pu.ixN_0, Pu.ixN_1, Option.map_some, Pu.outO, Bool.or_self, Bool.or_true, Bool.true_or, and_self, and_true, true_and, Pu.tru_b, Pu.tru_t, Pu.isi_tt, Pu.isi_tl, Pu.arg_d, Pu.seq_t, Pu.seq_l, Pu.list_t, Pu.list_l, Pu.tup_l, Pu.tup_t, Pu.fCallD, Pu.fConsX, Pu.fNilX, Pu.fArgs, Pu.fIt, Pu.fYes, Bool.not_true, Bool.not_false, ↓reduceIte, at_n (l := o) (j := e) (by omega), at_n1 (l := o) (j := e) (by omega)], fun _ => rfl, rfl⟩) (by rw [List.length_range]; exact lim_of (by omega))
  simp only [Pu.fSeq, Pu.fSet, Pu.fRet, Pu.fDrop, Pu.fIfS, Pu.fNx, Pu.fRetN, Pu.fIf, Pu.fD, Pu.fP, Pu.fT, Pu.fC, Pu.fBin, Pu.fUn, Pu.fUnO, Pu.fLst, Pu.fTup, Pu.fCons, Pu.fNil, Pu.fVar, Pu.fMove, Pu.fIxO, Pu.fSto, Pu.ownL, Pu.peekAt, SV.peek, OB.lockd, SV.toD, SV.toB, Pu.fAndT, Pu.fOrT, Pu.fNotT, Pu.fAndV, Pu.fOrV, Pu.fNotV, Pu.fChn, Pu.fTru, Pu.fTruV, Pu.fIsi, Pu.ok_bind, Pu.er_bind, Pu.no_bind, Pu.ok_toS, Pu.er_toS, Pu.no_toS, Pu.opt_s, Pu.opt_n, Pu.asD_d, Pu.asD_l, Pu.asD_e, Pu.asD_n, Pu.asB_b, Pu.asB_e, Pu.asB_n, List.getElem?_cons_zero, List.getElem?_cons_succ, List.set_cons_zero, List.set_cons_succ, Option.bind_some, Option.bind_none, List.cons_append, List.nil_append, List.replicate, List.length_cons, List.length_nil, if_true, if_false, Bool.false_eq_true, if_pos, Pu.initE, Pu.B, Pu.I, Pu.add_i, Pu.sub_i, Pu.mul_i, Pu.mulC_l, Pu.mulC_r, Pu.mod_i, Pu.fdiv_s, Pu.lt_i, Pu.gt_i, Pu.le_i, Pu.ge_i, Pu.int_i, Pu.neg_i, Pu.pow_i, Pu.len_l, Pu.len_t, Pu.ix_l, Pu.ix_t, Pu.at_0, Pu.at_1, Pu.ixN_0, Pu.ixN_1, Option.map_some, Pu.outO, Bool.or_self, Bool.or_true, Bool.true_or, and_self, and_true, true_and, Pu.tru_b, Pu.tru_t, Pu.isi_tt, Pu.isi_tl, Pu.arg_d, Pu.seq_t, Pu.seq_l, Pu.list_t, Pu.list_l, Pu.tup_l, Pu.tup_t, Pu.fCallD, Pu.fConsX, Pu.fNilX, Pu.fArgs, Pu.fIt, Pu.fYes, Bool.not_true, Bool.not_false, ↓reduceIte, e]
  rfl
def allX (m : Nat) : Nat → List (List Nat)
  | 0 => [[]]
  | k + 1 => (allX m k).flatMap fun h => ((List.range m).filter fun t => !decide (t ∈ h)).map fun t => h ++ [t]
def allD (m : Nat) : List D := (allX m m).map fun o => .tuple (nD o)
theorem all_1 : F__law_all [.d (.int ((1 : Nat) : Int))] = .ok (.d (.list (Lw.allD 1))) none := by kernel_rfl
theorem all_2 : F__law_all [.d (.int ((2 : Nat) : Int))] = .ok (.d (.list (Lw.allD 2))) none := by kernel_rfl
theorem all_3 : F__law_all [.d (.int ((3 : Nat) : Int))] = .ok (.d (.list (Lw.allD 3))) none := by kernel_rfl
theorem all_4 : F__law_all [.d (.int ((4 : Nat) : Int))] = .ok (.d (.list (Lw.allD 4))) none := by kernel_rfl
theorem all_5 : F__law_all [.d (.int ((5 : Nat) : Int))] = .ok (.d (.list (Lw.allD 5))) none := by kernel_rfl
theorem few_of (h1 : 1 ≤ m) (h2 : m ≤ 5) : m = 1 ∨ m = 2 ∨ m = 3 ∨ m = 4 ∨ m = 5 := by omega
theorem all_i (h1 : 1 ≤ m) (h2 : m ≤ 5) : F__law_all [.d (.int (m : Int))] = .ok (.d (.list (Lw.allD m))) none := by
  rcases few_of h1 h2 with rfl | rfl | rfl | rfl | rfl
  · exact all_1
  · exact all_2
  · exact all_3
  · exact all_4
  · exact all_5
def subl : List Nat → List (List Nat)
  | [] => [[]]
  | x :: l => subl l ++ (subl l).map (x :: ·)
theorem mem_subl {s : List Nat} (h : s.Sublist l) : s ∈ subl l := by
  induction h with
  | slnil => exact List.mem_cons_self
  | cons x _ ih => exact List.mem_append_left _ ih
  | cons_cons x _ ih => exact List.mem_append_right _ (List.mem_map_of_mem ih)
def fewOk (m : Nat) : Bool := (allX m m).all (fun o => decide (o.length = m)) && decide ((allX m m).length ≤ 120) && (subl (List.range (m - 1))).all fun ps => decide (((allX m m).filter fun o => decide (fallsN o = ps)).length = beN (wdN m ps))
theorem few_ok : ∀ m, 1 ≤ m → m ≤ 5 → fewOk m = true := by
  intro m h1 h2
  rcases few_of h1 h2 with rfl | rfl | rfl | rfl | rfl
  · decide +kernel
  · decide +kernel
  · decide +kernel
  · decide +kernel
  · decide +kernel
theorem few_is (h1 : 1 ≤ m) (h2 : m ≤ 5) : (∀ o ∈ allX m m, o.length = m) ∧ (allX m m).length ≤ 120 ∧ ∀ ps, ps.Sublist (List.range (m - 1)) → ((allX m m).filter fun o => decide (fallsN o = ps)).length = beN (wdN m ps) := by
  have h := few_ok m h1 h2
  unfold fewOk at h
  rw [Bool.and_eq_true, Bool.and_eq_true] at h
  exact ⟨fun o ho => of_decide_eq_true (List.all_eq_true.mp h.1.1 o ho), of_decide_eq_true h.1.2, fun ps hs => of_decide_eq_true (List.all_eq_true.mp h.2 ps (mem_subl hs))⟩
end
end Lw
/-! JkE -/
set_option maxRecDepth 10000
namespace Lw
open PySem PySem.Spec PyProof.Rows L2 WoK LamX Pu
/-! all parts of a lot -/
def stepP (L : List (List Nat)) (p : Nat) : List (List Nat) := L ++ L.map (· ++ [p])
def partsN (ps : List Nat) : List (List Nat) := ps.foldl stepP [[]]
def PS : List Nat → (List Nat → Nat) → Nat
  | [], G => G []
  | x :: r, G => PS r G + PS r fun t => G (x :: t)
theorem sum_add_map {α : Type} (f g : α → Nat) : ∀ L : List α, (L.map fun x => f x + g x).sum = (L.map f).sum + (L.map g).sum
  | [] => rfl
  | x :: L => by
    rw [List.map_cons, List.map_cons, List.map_cons, List.sum_cons, List.sum_cons, List.sum_cons, sum_add_map f g L]
    omega
theorem parts_sum : ∀ (r : List Nat) (L : List (List Nat)) (G : List Nat → Nat), ((r.foldl stepP L).map G).sum = (L.map fun h => PS r fun t => G (h ++ t)).sum
  | [], L, G => by
    show (L.map G).sum = (L.map fun h => G (h ++ [])).sum
    congr 1
    exact List.map_congr_left fun h _ => by rw [List.append_nil]
  | x :: r, L, G => by
    show ((r.foldl stepP (stepP L x)).map G).sum = (L.map fun h => PS r (fun t => G (h ++ t)) + PS r fun t => G (h ++ x :: t)).sum
    rw [parts_sum r, sum_add_map]
    unfold stepP
    rw [List.map_append, List.sum_append, List.map_map]
    congr 2
    exact List.map_congr_left fun h _ => by
      show PS r (fun t => G (h ++ [x] ++ t)) = PS r fun t => G (h ++ x :: t)
      congr 1
      funext t
      rw [List.append_assoc]
      rfl
theorem parts_PS (ps : List Nat) (G : List Nat → Nat) : ((partsN ps).map G).sum = PS ps G := by
  unfold partsN
  rw [parts_sum]
  show PS ps (fun t => G ([] ++ t)) + 0 = _
  rw [Nat.add_zero]
  rfl
theorem PS_congr : ∀ {r : List Nat} {G G' : List Nat → Nat}, (∀ t, t.Sublist r → G t = G' t) → PS r G = PS r G'
  | [], G, G', h => h [] (List.Sublist.refl _)
  | x :: r, G, G', h => by
    show PS r G + PS r (fun t => G (x :: t)) = PS r G' + PS r fun t => G' (x :: t)
    rw [PS_congr fun t ht => h t (ht.cons x), PS_congr (G := fun t => G (x :: t)) fun t ht => h (x :: t) (ht.cons₂ x)]
theorem parts_len : ∀ (r : List Nat) (L : List (List Nat)), (r.foldl stepP L).length = L.length * 2 ^ r.length
  | [], L => (Nat.mul_one _).symm
  | x :: r, L => by
    show (r.foldl stepP (stepP L x)).length = _
    rw [parts_len r]
    unfold stepP
    rw [List.length_append, List.length_map, List.length_cons, Nat.pow_succ]
    rw [show L.length + L.length = L.length * 2 by omega, Nat.mul_assoc, Nat.mul_comm 2]
theorem parts_sub : ∀ (r : List Nat) (L : List (List Nat)), ∀ t ∈ r.foldl stepP L, ∃ h ∈ L, ∃ s, s.Sublist r ∧ t = h ++ s
  | [], L, t, ht => ⟨t, ht, [], List.Sublist.refl _, (List.append_nil t).symm⟩
  | x :: r, L, t, ht => by
    obtain ⟨h, hh, s, hs, rfl⟩ := parts_sub r (stepP L x) t ht
    rcases List.mem_append.mp hh with hh | hh
    · exact ⟨h, hh, s, hs.cons x, rfl⟩
    · obtain ⟨h2, hh2, rfl⟩ := List.mem_map.mp hh
      exact ⟨h2, hh2, x :: s, hs.cons₂ x, by rw [List.append_assoc]; rfl⟩
theorem mem_parts {ps t : List Nat} (h : t ∈ partsN ps) : t.Sublist ps := by
  obtain ⟨h, hh, s, hs, rfl⟩ := parts_sub ps [[]] t h
  rw [List.mem_singleton.mp hh]
  exact hs
/-! words of places -/
def wdR (a k : Nat) (ps : List Nat) : List Bool := (List.range' a k).map fun p => decide (p ∈ ps)
theorem wdN_R (m : Nat) (ps : List Nat) : wdN m ps = wdR 0 (m - 1) ps := by
  unfold wdN wdR
  rw [List.range_eq_range']
theorem wdR_0 (a : Nat) (ps : List Nat) : wdR a 0 ps = [] := rfl
theorem wdR_s (a k : Nat) (ps : List Nat) : wdR a (k + 1) ps = decide (a ∈ ps) :: wdR (a + 1) k ps := by
  unfold wdR
  rw [List.range'_succ, List.map_cons]
theorem wdR_cons {a k : Nat} {ps : List Nat} {x : Nat} (h : x < a) : wdR a k (x :: ps) = wdR a k ps := by
  unfold wdR
  refine List.map_congr_left
      fun p hp => ?_
  have := (List.mem_range'_1.mp hp).1
  have hx : p ≠ x := by omega
  simp [hx]
theorem head_in {a : Nat} {ps : List Nat} (h : ps.Pairwise (· < ·)) (ha : ∀ x ∈ ps, a ≤ x) (hin : a ∈ ps) : ∃ r, ps = a :: r ∧ ∀ x ∈ r, a + 1 ≤ x := by
  cases ps with
  | nil => cases hin
  | cons y r =>
    obtain ⟨h1, h2⟩ :=
        List.pairwise_cons.mp h
    have hy := ha y List.mem_cons_self
    rcases List.mem_cons.mp hin with rfl | hr
    · exact ⟨r, rfl, fun x hx => h1 x hx⟩
    · have := h1 a hr
      omega
theorem notin_ge {a : Nat} {ps : List Nat} (ha : ∀ x ∈ ps, a ≤ x) (hin : ¬ a ∈ ps) : ∀ x ∈ ps, a + 1 ≤ x := fun x hx => by
  have := ha x hx
  have : x ≠ a := fun z => hin (z ▸ hx)
  omega
theorem PS_sumS : ∀ (k a : Nat) (ps : List Nat) (F : List Bool → Nat), ps.Pairwise (· < ·) → (∀ x ∈ ps, a ≤ x ∧ x < a + k) → PS ps (fun t => F (wdR a k t)) = sumS (wdR a k ps) F
  | 0, a, ps, F, h, hx => by
    have : ps = [] := by
      cases ps with
      | nil => rfl
      | cons y r =>
        have := hx y List.mem_cons_self
        omega
    subst this
    rfl
  | k + 1, a, ps, F, h, hx => by
    rw [wdR_s]
    by_cases hin : a ∈ ps
    · obtain ⟨r, rfl, hr⟩ := head_in h (fun x h => (hx x h).1) hin
      have hpr := (List.pairwise_cons.mp h).2
      have hxr : ∀ x ∈ r, a + 1 ≤ x ∧ x < a + 1 + k := fun x h => ⟨hr x h, by have := (hx x (List.mem_cons_of_mem _ h)).2; omega⟩
      rw [decide_eq_true hin, wdR_cons (Nat.lt_succ_self a)]
      show PS r (fun t => F (wdR a (k + 1) t)) + PS r (fun t => F (wdR a (k + 1) (a :: t))) = sumS (wdR (a + 1) k r) (fun t => F (false :: t)) + sumS (wdR (a + 1) k r) fun t => F (true :: t)
      rw [← PS_sumS k (a + 1) r (fun t => F (false :: t)) hpr hxr, ← PS_sumS k (a + 1) r (fun t => F (true :: t)) hpr hxr]
      congr 1
      · refine PS_congr fun t ht => ?_
        have : ¬ a ∈ t := fun z => by have := hr a (ht.subset z); omega
        rw [wdR_s, decide_eq_false this]
      · refine PS_congr fun t ht => ?_
        rw [wdR_s, decide_eq_true (List.mem_cons_self), wdR_cons (Nat.lt_succ_self a)]
    · have hge := notin_ge (fun x h => (hx x h).1) hin
      rw [decide_eq_false hin]
      show _ = sumS (wdR (a + 1) k ps) fun t => F (false :: t)
      rw [← PS_sumS k (a + 1) ps (fun t => F (false :: t)) h fun x hx2 => ⟨hge x hx2, by have := (hx x hx2).2; omega⟩]
      refine PS_congr fun t ht => ?_
      have : ¬ a ∈ t := fun z => hin (ht.subset z)
      rw [wdR_s, decide_eq_false this]
/-! blocks -/
def blk : Nat → List Nat → List Nat
  | _, [] => []
  | s, p :: ps => (p + 1 - s) :: blk (p + 1) ps
theorem bl_blk : ∀ (k a r : Nat) (ps : List Nat), r ≤ a → ps.Pairwise (· < ·) → (∀ x ∈ ps, a ≤ x ∧ x < a + k) → bl r (wdR a k ps) = blk (a - r) (ps ++ [a + k])
  | 0, a, r, ps, hr, h, hx => by
    have : ps = [] := by
      cases ps with
      | nil => rfl
      | cons y r =>
        have := hx y List.mem_cons_self
        omega
    subst this
    show [r + 1] = [a + 0 + 1 - (a - r)]
    congr 1
    omega
  | k + 1, a, r, ps, hr, h, hx => by
    rw [wdR_s]
    by_cases hin : a ∈ ps
    · obtain ⟨q, rfl, hq⟩ := head_in h (fun x h => (hx x h).1) hin
      have ih := bl_blk k (a + 1) 0 q (Nat.zero_le _) (List.pairwise_cons.mp h).2 fun x h => ⟨hq x h, by have := (hx x (List.mem_cons_of_mem _ h)).2; omega⟩
      rw [decide_eq_true hin, wdR_cons (Nat.lt_succ_self a)]
      show (r + 1) :: bl 0 (wdR (a + 1) k q) = (a + 1 - (a - r)) :: blk (a + 1) (q ++ [a + (k + 1)])
      rw [ih, show a + 1 + k = a + (k + 1) by omega, show a + 1 - (a - r) = r + 1 by omega]
      rfl
    · have hge := notin_ge (fun x h => (hx x h).1) hin
      have ih := bl_blk k (a + 1) (r + 1) ps (by omega) h fun x hx2 => ⟨hge x hx2, by have := (hx x hx2).2; omega⟩
      rw [decide_eq_false hin]
      show bl (r + 1) (wdR (a + 1) k ps) = _
      rw [ih, show a + 1 + k = a + (k + 1) by omega, show a + 1 - (r + 1) = a - r by omega]
section
variable {m : Nat} {ps : List Nat}
theorem IsPl.rg (h : IsPl m ps) : ∀ x ∈ ps, 0 ≤ x ∧ x < 0 + (m - 1) := fun x hx => ⟨Nat.zero_le _, by have := h.lt x hx; omega⟩
theorem parts_al (h : IsPl m ps) : ((partsN ps).map fun t => beN (wdN m t)).sum = alN (wdN m ps) := by
  rw [parts_PS]
  unfold alN
  rw [wdN_R, ← PS_sumS (m - 1) 0 ps beN h.asc h.rg]
  exact PS_congr fun t _ => by rw [wdN_R]
theorem bl_pl (h : IsPl m ps) : bl 0 (wdN m ps) = blk 0 (ps ++ [m - 1]) := by
  have := bl_blk (m - 1) 0 0 ps (Nat.le_refl _) h.asc h.rg
  rw [Nat.zero_add] at this
  rw [wdN_R]
  exact this
theorem wd_len : (wdN m ps).length = m - 1 := by
  unfold wdN
  rw [List.length_map,
      List.length_range]
/-! the other end, the other places -/
def mirN (m : Nat) (ps : List Nat) : List Nat := ps.reverse.map fun (x : Nat) => m - 2 - x
theorem mir_pl (h : IsPl m ps) : IsPl m (mirN m ps) := by
  refine ⟨?_, fun x hx => ?_⟩
  · unfold mirN
    rw [List.pairwise_map, List.pairwise_reverse]
    refine h.asc.imp_of_mem fun {a b} ha hb hab => ?_
    have := h.lt b hb
    omega
  · obtain ⟨y, hy, rfl⟩ := List.mem_map.mp hx
    have := h.lt y (List.mem_reverse.mp hy)
    omega
theorem wd_get {qs : List Nat} {i : Nat} (h : i < (wdN m qs).length) : (wdN m qs)[i] = decide (i ∈ qs) := by
  have h2 : (wdN m qs)[i]? = some (decide (i ∈ qs)) := by
    unfold wdN at h ⊢
    rw [List.length_map, List.length_range] at h
    rw [List.getElem?_map, List.getElem?_range h]
    rfl
  rw [List.getElem?_eq_getElem h] at h2
  exact Option.some.inj h2
theorem mir_wd (h : IsPl m ps) : wdN m (mirN m ps) = (wdN m ps).reverse := by
  refine List.ext_getElem (by rw [List.length_reverse, wd_len, wd_len]) fun i h1 h2 => ?_
  rw [wd_len] at h1
  rw [List.getElem_reverse, wd_get, wd_get, wd_len]
  refine decide_eq_decide.mpr ⟨fun hi => ?_, fun hi => ?_⟩
  · obtain ⟨y, hy, e⟩ := List.mem_map.mp hi
    have hy := List.mem_reverse.mp hy
    have := h.lt y hy
    have e2 : m - 1 - 1 - i = y := by omega
    rw [e2]
    exact hy
  · refine List.mem_map.mpr ⟨m - 1 - 1 - i, List.mem_reverse.mpr hi, ?_⟩
    omega
theorem mir_be (h : IsPl m ps) : beN (wdN m (mirN m ps)) = beN (wdN m ps) := by rw [mir_wd h, be_rev]
def othN (m : Nat) (ps : List Nat) : List Nat := (List.range (m - 1)).filter fun p => !decide (p ∈ ps)
theorem oth_pl : IsPl m (othN m ps) := ⟨List.pairwise_lt_range.sublist List.filter_sublist, fun x hx => by
  have := List.mem_range.mp (List.mem_filter.mp hx).1
  omega⟩
theorem oth_wd : wdN m (othN m ps) = (wdN m ps).map not := by
  unfold wdN
  rw [List.map_map]
  refine List.map_congr_left
      fun p hp => ?_
  show decide (p ∈ othN m ps) = !decide (p ∈ ps)
  by_cases h : p ∈ ps
  · rw [decide_eq_true h, decide_eq_false fun z => by
      have := (List.mem_filter.mp z).2
      rw [decide_eq_true h] at this
      cases this]
    rfl
  · have hm : p ∈ othN m ps := by
      unfold othN
      exact List.mem_filter.mpr ⟨hp, by simp [h]⟩
    rw [decide_eq_false h, decide_eq_true hm]
    rfl
theorem oth_be : beN (wdN m (othN m ps)) = beN (wdN m ps) := by rw [oth_wd, be_not]
end
end Lw
/-! JkF -/
set_option maxRecDepth 10000
namespace Lw
open PySem PySem.Spec PyProof.Rows L2 WoK LamX Pu
section
variable {m : Nat} {ps : List Nat}
theorem add_l {xs ys : List D} (h : xs.length + ys.length ≤ LIM) : addD (.list xs) (.list ys) = some (.own none (.lst (xs ++ ys))) := if_pos h
def tsD (L : List (List Nat)) : List D := L.map fun t => .tuple (nD t)
theorem tsD_len (L : List (List Nat)) : (tsD L).length = L.length := List.length_map _
theorem pow_le (k : Nat) (h : k ≤ 6) : 2 ^ k ≤ 64 := by
  have := Nat.pow_le_pow_right (show 0 < 2 by omega) h
  exact this
theorem parts_i (hl : ps.length ≤ 6) : F__law_parts [.d (.tuple (nD ps))] = .ok (.own none (.lst (tsD (partsN ps)))) none := by
  let P : List Nat → Ev → Prop := fun rest ρ => ∃ L y, ρ = [.d (.tuple (nD ps)), .own none (.lst (tsD L)), y, .un] ∧ rest.foldl stepP L = partsN ps ∧ L.length * 2 ^ rest.length ≤ 64 ∧ ∀ t ∈ L, t.length + rest.length ≤ 6
  obtain ⟨ρ', e, L, y, rfl, hf, _⟩ := forL_t (bd := bNm 2) (fb := fSet 1 (fBin addD (fD (fVar 1)) (fD (fLc (fIt (fD (fVar 1))) (bNm 3) (fYes) (fD (fBin addD (fD (fVar 3)) (fD (fTup (fCons (fD (fVar 2)) (fNil)))))) [3])))) (e := iD) P (by
    rintro p rest ρ ⟨L, y, rfl, hf, hn, ht⟩
    rw [List.length_cons, Nat.pow_succ] at hn
    have hL : L.length ≤ 64 := Nat.le_trans (Nat.le_mul_of_pos_right _ (Nat.mul_pos (Nat.pow_pos (by omega)) (by omega))) hn
    refine ⟨[.d (.tuple (nD ps)), .own none (.lst (tsD L)), .d (iD p), .un], [.d (.tuple (nD ps)), .own none (.lst (tsD (stepP L p))), .d (iD p), .un], rfl, ?_, stepP L p, _, rfl, hf, ?_, ?_⟩
    · have hc := fLc_t (fi := fIt (fD (fVar 1))) (bd := bNm 3) (fc := fYes) (fe := fD (fBin addD (fD (fVar 3)) (fD (fTup (fCons (fD (fVar 2)) (fNil)))))) (vs := [3]) (ρ := [.d (.tuple (nD ps)), .d (.list (tsD L)), .d (iD p), .un]) (xs := L) (e := fun t => .tuple (nD t)) (fun _ => true) (fun t => .tuple (nD (t ++ [p]))) (fun t => [.d (.tuple (nD ps)), .d (.list (tsD L)), .d (iD p), .d (.tuple (nD t))]) (by simp only [Pu.fSeq, Pu.fSet, Pu.fRet, Pu.fDrop, Pu.fIfS, Pu.fNx, Pu.fRetN, Pu.fIf, Pu.fD, Pu.fP, Pu.fT, Pu.fC, Pu.fBin, Pu.fUn, Pu.fUnO, Pu.fLst, Pu.fTup, Pu.fCons, Pu.fNil, Pu.fVar, Pu.fMove, Pu.fIxO, Pu.fSto, Pu.ownL, Pu.peekAt, SV.peek, OB.lockd, SV.toD, SV.toB, Pu.fAndT, Pu.fOrT, Pu.fNotT, Pu.fAndV, Pu.fOrV, Pu.fNotV, Pu.fChn, Pu.fTru, Pu.fTruV, Pu.fIsi, Pu.ok_bind, Pu.er_bind, Pu.no_bind, Pu.ok_toS, Pu.er_toS, Pu.no_toS, Pu.opt_s, Pu.opt_n, Pu.asD_d, Pu.asD_l, Pu.asD_e, Pu.asD_n, Pu.asB_b, Pu.asB_e, Pu.asB_n, List.getElem?_cons_zero, List.getElem?_cons_succ, List.set_cons_zero, List.set_cons_succ, Option.bind_some, Option.bind_none, List.cons_append, List.nil_append, List.replicate, List.length_cons, List.length_nil, if_true, if_false, Bool.false_eq_true, if_pos, Pu.initE, Pu.B, Pu.I, Pu.add_i, Pu.sub_i, Pu.mul_i, Pu.mulC_l, Pu.mulC_r, Pu.mod_i, Pu.fdiv_s, Pu.lt_i, Pu.gt_i, Pu.le_i, Pu.ge_i, Pu.int_i, Pu.neg_i, Pu.pow_i, Pu.len_l, Pu.len_t, Pu.ix_l, Pu.ix_t, Pu.at_0, Pu.at_1, Pu.ixN_0, Pu.ixN_1, Option.map_some, Pu.outO, Bool.or_self, Bool.or_true, Bool.true_or, and_self, and_true, true_and, Pu.tru_b, Pu.tru_t, Pu.isi_tt, Pu.isi_tl, Pu.arg_d, Pu.seq_t, Pu.seq_l, Pu.list_t, Pu.list_l, Pu.tup_l, Pu.tup_t, Pu.fCallD, Pu.fConsX, Pu.fNilX, Pu.fArgs, Pu.fIt, Pu.fYes, Bool.not_true, Bool.not_false, ↓reduceIte]; rfl) rfl (fun t h => ⟨rfl, rfl, fun _ => by
          have h1 := ht t h
          rw [List.length_cons] at h1
          have ha : addD (.tuple (nD t)) (.tuple [iD p]) = some (.d (.tuple (nD (t ++ [p])))) := by
            rw [add_t (by rw [nD_len]; show t.length + 1 ≤ LIM; unfold LIM; omega)]
            unfold nD
            rw [List.map_append]
            rfl
          simp only [Pu.fSeq, Pu.fSet, Pu.fRet, Pu.fDrop, Pu.fIfS, Pu.fNx, Pu.fRetN, Pu.fIf, Pu.fD, Pu.fP, Pu.fT, Pu.fC, Pu.fBin, Pu.fUn, Pu.fUnO, Pu.fLst, Pu.fTup, Pu.fCons, Pu.fNil, Pu.fVar, Pu.fMove, Pu.fIxO, Pu.fSto, Pu.ownL, Pu.peekAt, SV.peek, OB.lockd, SV.toD, SV.toB, Pu.fAndT, Pu.fOrT, Pu.fNotT, Pu.fAndV, Pu.fOrV, Pu.fNotV, Pu.fChn, Pu.fTru, Pu.fTruV, Pu.fIsi, Pu.ok_bind, Pu.er_bind, Pu.no_bind, Pu.ok_toS, Pu.er_toS, Pu.no_toS, Pu.opt_s, Pu.opt_n, Pu.asD_d, Pu.asD_l, Pu.asD_e, Pu.asD_n, Pu.asB_b, Pu.asB_e, Pu.asB_n, List.getElem?_cons_zero, List.getElem?_cons_succ, List.set_cons_zero, List.set_cons_succ, Option.bind_some, Option.bind_none, List.cons_append, List.nil_append, List.replicate, List.length_cons, List.length_nil, if_true, if_false, Bool.false_eq_true, if_pos, Pu.initE, Pu.B, Pu.I, Pu.add_i, Pu.sub_i, Pu.mul_i, Pu.mulC_l, Pu.mulC_r, Pu.mod_i, Pu.fdiv_s, Pu.lt_i, Pu.gt_i, Pu.le_i, Pu.ge_i, Pu.int_i, Pu.neg_i, Pu.pow_i, Pu.len_l, Pu.len_t, Pu.ix_l, Pu.ix_t, Pu.at_0, Pu.at_1, Pu.ixN_0, Pu.ixN_1, Option.map_some, Pu.outO, Bool.or_self, Bool.or_true, Bool.true_or, and_self, and_true, true_and, Pu.tru_b, Pu.tru_t, Pu.isi_tt, Pu.isi_tl, Pu.arg_d, Pu.seq_t, Pu.seq_l, Pu.list_t, Pu.list_l, Pu.tup_l, Pu.tup_t, Pu.fCallD, Pu.fConsX, Pu.fNilX, Pu.fArgs, Pu.fIt, Pu.fYes, Bool.not_true, Bool.not_false, ↓reduceIte, lim_1, ha], rfl⟩) (lim_of (by omega))
      rw [filter_yes] at hc
      have ha : addD (.list (tsD L)) (.list (L.map fun t => .tuple (nD (t ++ [p])))) = some (.own none (.lst (tsD (stepP L p)))) := by
        rw [add_l (by rw [tsD_len, List.length_map]; unfold LIM; omega)]
        unfold tsD stepP
        rw [List.map_append, List.map_map]
        rfl
      simp only [Pu.fSeq, Pu.fSet, Pu.fRet, Pu.fDrop, Pu.fIfS, Pu.fNx, Pu.fRetN, Pu.fIf, Pu.fD, Pu.fP, Pu.fT, Pu.fC, Pu.fBin, Pu.fUn, Pu.fUnO, Pu.fLst, Pu.fTup, Pu.fCons, Pu.fNil, Pu.fVar, Pu.fMove, Pu.fIxO, Pu.fSto, Pu.ownL, Pu.peekAt, SV.peek, OB.lockd, SV.toD, SV.toB, Pu.fAndT, Pu.fOrT, Pu.fNotT, Pu.fAndV, Pu.fOrV, Pu.fNotV, Pu.fChn, Pu.fTru, Pu.fTruV, Pu.fIsi, Pu.ok_bind, Pu.er_bind, Pu.no_bind, Pu.ok_toS, Pu.er_toS, Pu.no_toS, Pu.opt_s, Pu.opt_n, Pu.asD_d, Pu.asD_l, Pu.asD_e, Pu.asD_n, Pu.asB_b, Pu.asB_e, Pu.asB_n, List.getElem?_cons_zero, List.getElem?_cons_succ, List.set_cons_zero, List.set_cons_succ, Option.bind_some, Option.bind_none, List.cons_append, List.nil_append, List.replicate, List.length_cons, List.length_nil, if_true, if_false, Bool.false_eq_true, if_pos, Pu.initE, Pu.B, Pu.I, Pu.add_i, Pu.sub_i, Pu.mul_i, Pu.mulC_l, Pu.mulC_r, Pu.mod_i, Pu.fdiv_s, Pu.lt_i, Pu.gt_i, Pu.le_i, Pu.ge_i, Pu.int_i, Pu.neg_i, Pu.pow_i, Pu.len_l, Pu.len_t, Pu.ix_l, Pu.ix_t, Pu.at_0, Pu.at_1, Pu.ixN_0, Pu.ixN_1, Option.map_some, Pu.outO, Bool.or_self, Bool.or_true, Bool.true_or, and_self, and_true, true_and, Pu.tru_b, Pu.tru_t, Pu.isi_tt, Pu.isi_tl, Pu.arg_d, Pu.seq_t, Pu.seq_l, Pu.list_t, Pu.list_l, Pu.tup_l, Pu.tup_t, Pu.fCallD, Pu.fConsX, Pu.fNilX, Pu.fArgs, Pu.fIt, Pu.fYes, Bool.not_true, Bool.not_false, ↓reduceIte, hc, ha]
    · unfold stepP
      rw [List.length_append, List.length_map]
      have : (L.length + L.length) * 2 ^ rest.length = L.length * (2 ^ rest.length * 2) := by
        rw [show L.length + L.length = L.length * 2 by omega, Nat.mul_assoc, Nat.mul_comm 2]
      omega
    · intro t h
      rcases List.mem_append.mp
          h with h | h
      · have := ht t h
        rw [List.length_cons] at this
        omega
      · obtain ⟨u, hu, rfl⟩ := List.mem_map.mp h
        have := ht u hu
        rw [List.length_cons] at this
        rw [List.length_append,
            List.length_singleton]
        omega) ps [.d (.tuple (nD ps)), .own none (.lst (tsD [[]])), .un, .un] ⟨[[]], .un, rfl, rfl, by
      have := pow_le ps.length hl
      show 1 * _ ≤ _
      omega, fun t h => by rw [List.mem_singleton.mp h]; show 0 + _ ≤ 6; omega⟩
  have hf : L = partsN ps := hf
  subst hf
  refine runD_rt (ρ := [.d (.tuple (nD ps)), .un, y, .un]) ?_
  show g__law_parts [.d (.tuple (nD ps)), .un, .un, .un] = _
  unfold g__law_parts
  rw [seq_nx (ρ' := [.d (.tuple (nD ps)), .own none (.lst (tsD [[]])), .un, .un]) (by simp only [Pu.fSeq, Pu.fSet, Pu.fRet, Pu.fDrop, Pu.fIfS, Pu.fNx, Pu.fRetN, Pu.fIf, Pu.fD, Pu.fP, Pu.fT, Pu.fC, Pu.fBin, Pu.fUn, Pu.fUnO, Pu.fLst, Pu.fTup, Pu.fCons, Pu.fNil, Pu.fVar, Pu.fMove, Pu.fIxO, Pu.fSto, Pu.ownL, Pu.peekAt, SV.peek, OB.lockd, SV.toD, SV.toB, Pu.fAndT, Pu.fOrT, Pu.fNotT, Pu.fAndV, Pu.fOrV, Pu.fNotV, Pu.fChn, Pu.fTru, Pu.fTruV, Pu.fIsi, Pu.ok_bind, Pu.er_bind, Pu.no_bind, Pu.ok_toS, Pu.er_toS, Pu.no_toS, Pu.opt_s, Pu.opt_n, Pu.asD_d, Pu.asD_l, Pu.asD_e, Pu.asD_n, Pu.asB_b, Pu.asB_e, Pu.asB_n, List.getElem?_cons_zero, List.getElem?_cons_succ, List.set_cons_zero, List.set_cons_succ, Option.bind_some, Option.bind_none, List.cons_append, List.nil_append, List.replicate, List.length_cons, List.length_nil, if_true, if_false, Bool.false_eq_true, if_pos, Pu.initE, Pu.B, Pu.I, Pu.add_i, Pu.sub_i, Pu.mul_i, Pu.mulC_l, Pu.mulC_r, Pu.mod_i, Pu.fdiv_s, Pu.lt_i, Pu.gt_i, Pu.le_i, Pu.ge_i, Pu.int_i, Pu.neg_i, Pu.pow_i, Pu.len_l, Pu.len_t, Pu.ix_l, Pu.ix_t, Pu.at_0, Pu.at_1, Pu.ixN_0, Pu.ixN_1, Option.map_some, Pu.outO, Bool.or_self, Bool.or_true, Bool.true_or, and_self, and_true, true_and, Pu.tru_b, Pu.tru_t, Pu.isi_tt, Pu.isi_tl, Pu.arg_d, Pu.seq_t, Pu.seq_l, Pu.list_t, Pu.list_l, Pu.tup_l, Pu.tup_t, Pu.fCallD, Pu.fConsX, Pu.fNilX, Pu.fArgs, Pu.fIt, Pu.fYes, Bool.not_true, Bool.not_false, ↓reduceIte, lim_1, Nat.zero_le]; rfl)]
  rw [seq_nx (fFor_nx (ds := ps.map iD) (by rfl) e)]
  simp only [Pu.fSeq, Pu.fSet, Pu.fRet, Pu.fDrop, Pu.fIfS, Pu.fNx, Pu.fRetN, Pu.fIf, Pu.fD, Pu.fP, Pu.fT, Pu.fC, Pu.fBin, Pu.fUn, Pu.fUnO, Pu.fLst, Pu.fTup, Pu.fCons, Pu.fNil, Pu.fVar, Pu.fMove, Pu.fIxO, Pu.fSto, Pu.ownL, Pu.peekAt, SV.peek, OB.lockd, SV.toD, SV.toB, Pu.fAndT, Pu.fOrT, Pu.fNotT, Pu.fAndV, Pu.fOrV, Pu.fNotV, Pu.fChn, Pu.fTru, Pu.fTruV, Pu.fIsi, Pu.ok_bind, Pu.er_bind, Pu.no_bind, Pu.ok_toS, Pu.er_toS, Pu.no_toS, Pu.opt_s, Pu.opt_n, Pu.asD_d, Pu.asD_l, Pu.asD_e, Pu.asD_n, Pu.asB_b, Pu.asB_e, Pu.asB_n, List.getElem?_cons_zero, List.getElem?_cons_succ, List.set_cons_zero, List.set_cons_succ, Option.bind_some, Option.bind_none, List.cons_append, List.nil_append, List.replicate, List.length_cons, List.length_nil, if_true, if_false, Bool.false_eq_true, if_pos, Pu.initE, Pu.B, Pu.I, Pu.add_i, Pu.sub_i, Pu.mul_i, Pu.mulC_l, Pu.mulC_r, Pu.mod_i, Pu.fdiv_s, Pu.lt_i, Pu.gt_i, Pu.le_i, Pu.ge_i, Pu.int_i, Pu.neg_i, Pu.pow_i, Pu.len_l, Pu.len_t, Pu.ix_l, Pu.ix_t, Pu.at_0, Pu.at_1, Pu.ixN_0, Pu.ixN_1, Option.map_some, Pu.outO, Bool.or_self, Bool.or_true, Bool.true_or, and_self, and_true, true_and, Pu.tru_b, Pu.tru_t, Pu.isi_tt, Pu.isi_tl, Pu.arg_d, Pu.seq_t, Pu.seq_l, Pu.list_t, Pu.list_l, Pu.tup_l, Pu.tup_t, Pu.fCallD, Pu.fConsX, Pu.fNilX, Pu.fArgs, Pu.fIt, Pu.fYes, Bool.not_true, Bool.not_false, ↓reduceIte]
theorem mul_s {a b : Int} (h : -(2 ^ 64) < b ∧ b < 2 ^ 64) : mulD (.int a) (.int b) = some (.d (.int (a * b))) := mul_i (by
  unfold mulC
  rw [Bool.or_eq_true, Bool.and_eq_true, Bool.and_eq_true]
  exact .inr ⟨decide_eq_true h.1, decide_eq_true h.2⟩)
theorem bin_ok {op : D → D → Option SV} {f g : Ev → R D} {ρ ρ1 ρ2 : Ev} {x y : D} {z : SV} (h1 : f ρ = .ok x ρ1) (h2 : g ρ1 = .ok y ρ2) (h3 : op x y = some z) : fBin op f g ρ = .ok z ρ2 := by
  unfold fBin
  rw [h1]
  show (g ρ1).bind _ = _
  rw [h2]
  show opt (op x y) ρ2 = _
  rw [h3]
  rfl
theorem fac_i {k : Nat} (hk : k ≤ 30) : F__law_factorial [.d (.int (k : Int))] = .ok (.d (iD (fac k))) none := by
  let P : List Nat → Ev → Prop := fun rest ρ => ∃ j y, j ≤ k ∧ rest = List.range' j (k - j) ∧ ρ = [.d (.int (k : Int)), .d (iD (fac j)), y]
  obtain ⟨ρ', e, j, y, hj, hr, rfl⟩ := forL_t (bd := bNm 2) (fb := fSet 1 (fBin mulD (fD (fVar 1)) (fD (fBin addD (fD (fVar 2)) (fC (.int 1)))))) (e := iD) P (by
    rintro t rest ρ ⟨j, y, hj, hr, rfl⟩
    have hjk : j < k := by
      rcases Nat.lt_or_ge j k with h | h
      · exact h
      · rw [Nat.sub_eq_zero_of_le h] at hr
        cases hr
    rw [show k - j = (k - (j + 1)) + 1 by omega, List.range'_succ] at hr
    injection hr with hr1 hr2
    subst hr1
    refine ⟨_, [.d (.int (k : Int)), .d (iD (fac (t + 1))), .d (iD t)], rfl, ?_, t + 1, _, by omega, hr2, rfl⟩
    have hm : mulD (iD (fac t)) (.int ((t : Int) + 1)) = some (.d (iD (fac (t + 1)))) := mul_s ⟨by omega, by omega⟩
    exact (st_nx (i := 1) (bin_ok (op := mulD) (f := fD (fVar 1)) (g := fD (fBin addD (fD (fVar 2)) (fC (.int 1)))) (ρ := [.d (.int (k : Int)), .d (iD (fac t)), .d (iD t)]) rfl rfl hm))) (List.range k) [.d (.int (k : Int)), .d (iD (fac 0)), .un] ⟨0, .un, Nat.zero_le _, by rw [List.range_eq_range']; rfl, rfl⟩
  have hjk : j = k := by
    rcases Nat.lt_or_ge j k with h | h
    · rw [show k - j = (k - (j + 1)) + 1 by omega, List.range'_succ] at hr
      cases hr
    · omega
  subst hjk
  refine runD_rt (ρ := [.d (.int (j : Int)), .d (iD (fac j)), y]) ?_
  show g__law_factorial [.d (.int (j : Int)), .un, .un] = _
  unfold g__law_factorial
  rw [seq_nx (ρ' := [.d (.int (j : Int)), .d (iD (fac 0)), .un]) (by simp only [Pu.fSeq, Pu.fSet, Pu.fRet, Pu.fDrop, Pu.fIfS, Pu.fNx, Pu.fRetN, Pu.fIf, Pu.fD, Pu.fP, Pu.fT, Pu.fC, Pu.fBin, Pu.fUn, Pu.fUnO, Pu.fLst, Pu.fTup, Pu.fCons, Pu.fNil, Pu.fVar, Pu.fMove, Pu.fIxO, Pu.fSto, Pu.ownL, Pu.peekAt, SV.peek, OB.lockd, SV.toD, SV.toB, Pu.fAndT, Pu.fOrT, Pu.fNotT, Pu.fAndV, Pu.fOrV, Pu.fNotV, Pu.fChn, Pu.fTru, Pu.fTruV, Pu.fIsi, Pu.ok_bind, Pu.er_bind, Pu.no_bind, Pu.ok_toS, Pu.er_toS, Pu.no_toS, Pu.opt_s, Pu.opt_n, Pu.asD_d, Pu.asD_l, Pu.asD_e, Pu.asD_n, Pu.asB_b, Pu.asB_e, Pu.asB_n, List.getElem?_cons_zero, List.getElem?_cons_succ, List.set_cons_zero, List.set_cons_succ, Option.bind_some, Option.bind_none, List.cons_append, List.nil_append, List.replicate, List.length_cons, List.length_nil, if_true, if_false, Bool.false_eq_true, if_pos, Pu.initE, Pu.B, Pu.I, Pu.add_i, Pu.sub_i, Pu.mul_i, Pu.mulC_l, Pu.mulC_r, Pu.mod_i, Pu.fdiv_s, Pu.lt_i, Pu.gt_i, Pu.le_i, Pu.ge_i, Pu.int_i, Pu.neg_i, Pu.pow_i, Pu.len_l, Pu.len_t, Pu.ix_l, Pu.ix_t, Pu.at_0, Pu.at_1, Pu.ixN_0, Pu.ixN_1, Option.map_some, Pu.outO, Bool.or_self, Bool.or_true, Bool.true_or, and_self, and_true, true_and, Pu.tru_b, Pu.tru_t, Pu.isi_tt, Pu.isi_tl, Pu.arg_d, Pu.seq_t, Pu.seq_l, Pu.list_t, Pu.list_l, Pu.tup_l, Pu.tup_t, Pu.fCallD, Pu.fConsX, Pu.fNilX, Pu.fArgs, Pu.fIt, Pu.fYes, Bool.not_true, Bool.not_false, ↓reduceIte]; rfl)]
  rw [seq_nx (fFor_nx (ds := (List.range j).map iD) (by simp only [Pu.fSeq, Pu.fSet, Pu.fRet, Pu.fDrop, Pu.fIfS, Pu.fNx, Pu.fRetN, Pu.fIf, Pu.fD, Pu.fP, Pu.fT, Pu.fC, Pu.fBin, Pu.fUn, Pu.fUnO, Pu.fLst, Pu.fTup, Pu.fCons, Pu.fNil, Pu.fVar, Pu.fMove, Pu.fIxO, Pu.fSto, Pu.ownL, Pu.peekAt, SV.peek, OB.lockd, SV.toD, SV.toB, Pu.fAndT, Pu.fOrT, Pu.fNotT, Pu.fAndV, Pu.fOrV, Pu.fNotV, Pu.fChn, Pu.fTru, Pu.fTruV, Pu.fIsi, Pu.ok_bind, Pu.er_bind, Pu.no_bind, Pu.ok_toS, Pu.er_toS, Pu.no_toS, Pu.opt_s, Pu.opt_n, Pu.asD_d, Pu.asD_l, Pu.asD_e, Pu.asD_n, Pu.asB_b, Pu.asB_e, Pu.asB_n, List.getElem?_cons_zero, List.getElem?_cons_succ, List.set_cons_zero, List.set_cons_succ, Option.bind_some, Option.bind_none, List.cons_append, List.nil_append, List.replicate, List.length_cons, List.length_nil, if_true, if_false, Bool.false_eq_true, if_pos, Pu.initE, Pu.B, Pu.I, Pu.add_i, Pu.sub_i, Pu.mul_i, Pu.mulC_l, Pu.mulC_r, Pu.mod_i, Pu.fdiv_s, Pu.lt_i, Pu.gt_i, Pu.le_i, Pu.ge_i, Pu.int_i, Pu.neg_i, Pu.pow_i, Pu.len_l, Pu.len_t, Pu.ix_l, Pu.ix_t, Pu.at_0, Pu.at_1, Pu.ixN_0, Pu.ixN_1, Option.map_some, Pu.outO, Bool.or_self, Bool.or_true, Bool.true_or, and_self, and_true, true_and, Pu.tru_b, Pu.tru_t, Pu.isi_tt, Pu.isi_tl, Pu.arg_d, Pu.seq_t, Pu.seq_l, Pu.list_t, Pu.list_l, Pu.tup_l, Pu.tup_t, Pu.fCallD, Pu.fConsX, Pu.fNilX, Pu.fArgs, Pu.fIt, Pu.fYes, Bool.not_true, Bool.not_false, ↓reduceIte, rng1_n (m := j) (by omega)]) e)]
  simp only [Pu.fSeq, Pu.fSet, Pu.fRet, Pu.fDrop, Pu.fIfS, Pu.fNx, Pu.fRetN, Pu.fIf, Pu.fD, Pu.fP, Pu.fT, Pu.fC, Pu.fBin, Pu.fUn, Pu.fUnO, Pu.fLst, Pu.fTup, Pu.fCons, Pu.fNil, Pu.fVar, Pu.fMove, Pu.fIxO, Pu.fSto, Pu.ownL, Pu.peekAt, SV.peek, OB.lockd, SV.toD, SV.toB, Pu.fAndT, Pu.fOrT, Pu.fNotT, Pu.fAndV, Pu.fOrV, Pu.fNotV, Pu.fChn, Pu.fTru, Pu.fTruV, Pu.fIsi, Pu.ok_bind, Pu.er_bind, Pu.no_bind, Pu.ok_toS, Pu.er_toS, Pu.no_toS, Pu.opt_s, Pu.opt_n, Pu.asD_d, Pu.asD_l, Pu.asD_e, Pu.asD_n, Pu.asB_b, Pu.asB_e, Pu.asB_n, List.getElem?_cons_zero, List.getElem?_cons_succ, List.set_cons_zero, List.set_cons_succ, Option.bind_some, Option.bind_none, List.cons_append, List.nil_append, List.replicate, List.length_cons, List.length_nil, if_true, if_false, Bool.false_eq_true, if_pos, Pu.initE, Pu.B, Pu.I, Pu.add_i, Pu.sub_i, Pu.mul_i, Pu.mulC_l, Pu.mulC_r, Pu.mod_i, Pu.fdiv_s, Pu.lt_i, Pu.gt_i, Pu.le_i, Pu.ge_i, Pu.int_i, Pu.neg_i, Pu.pow_i, Pu.len_l, Pu.len_t, Pu.ix_l, Pu.ix_t, Pu.at_0, Pu.at_1, Pu.ixN_0, Pu.ixN_1, Option.map_some, Pu.outO, Bool.or_self, Bool.or_true, Bool.true_or, and_self, and_true, true_and, Pu.tru_b, Pu.tru_t, Pu.isi_tt, Pu.isi_tl, Pu.arg_d, Pu.seq_t, Pu.seq_l, Pu.list_t, Pu.list_l, Pu.tup_l, Pu.tup_t, Pu.fCallD, Pu.fConsX, Pu.fNilX, Pu.fArgs, Pu.fIt, Pu.fYes, Bool.not_true, Bool.not_false, ↓reduceIte]
theorem fac_le : ∀ k, k ≤ 30 → fac k < 2 ^ 200 := by decide +kernel
theorem fdiv_f {F k : Nat} (hk : k ≤ 30) : fdivD (iD F) (iD (fac k)) = some (.d (iD (F / fac k))) := fdiv_i (Int.natCast_pos.mpr (fac_pos k)) (by
  rw [Int.natAbs_natCast]
  exact Nat.lt_of_lt_of_le (fac_le k hk) (Nat.pow_le_pow_right (by omega) (by omega)))
theorem within_n (h1 : 1 ≤ m) (h2 : m ≤ 30) (hp : IsPl m ps) : F__law_within [.d (.int (m : Int)), .d (.tuple (nD ps))] = .ok (.d (iD (alN (wdN m ps)))) none := by
  have hlen := hp.len
  let P : List Nat → Ev → Prop := fun rest ρ => ∃ F s y, ρ = [.d (.int (m : Int)), .d (.tuple (nD ps)), .d (iD F), .d (iD s), y] ∧ (blk s rest).foldl (fun f b => f / fac b) F = alN (wdN m ps) ∧ rest.Pairwise (· < ·) ∧ ∀ x ∈ rest, s ≤ x ∧ x < m
  obtain ⟨ρ', e, F, s, y, rfl, hf, _⟩ := forL_t (bd := bNm 4) (fb := fSeq (fSet 2 (fBin fdivD (fD (fVar 2)) (fD (fCallD F__law_factorial (fConsX (fP (fD (fBin subD (fD (fBin addD (fD (fVar 4)) (fC (.int 1)))) (fD (fVar 3))))) (fNilX)))))) (fSet 3 (fBin addD (fD (fVar 4)) (fC (.int 1))))) (e := iD) P (by
    rintro p rest ρ ⟨F, s, y, rfl, hf, ha, hx⟩
    obtain ⟨h3, h4⟩ := hx p List.mem_cons_self
    obtain ⟨h5, h6⟩ := List.pairwise_cons.mp ha
    refine ⟨_, [.d (.int (m : Int)), .d (.tuple (nD ps)), .d (iD (F / fac (p + 1 - s))), .d (iD (p + 1)), .d (iD p)], rfl, ?_, _, p + 1, _, rfl, hf, h6, fun x hx2 => ⟨h5 x hx2, (hx x (List.mem_cons_of_mem _ hx2)).2⟩⟩
    have e1 : (p : Int) + 1 - (s : Int) = ((p + 1 - s : Nat) : Int) := by omega
    simp only [Pu.fSeq, Pu.fSet, Pu.fRet, Pu.fDrop, Pu.fIfS, Pu.fNx, Pu.fRetN, Pu.fIf, Pu.fD, Pu.fP, Pu.fT, Pu.fC, Pu.fBin, Pu.fUn, Pu.fUnO, Pu.fLst, Pu.fTup, Pu.fCons, Pu.fNil, Pu.fVar, Pu.fMove, Pu.fIxO, Pu.fSto, Pu.ownL, Pu.peekAt, SV.peek, OB.lockd, SV.toD, SV.toB, Pu.fAndT, Pu.fOrT, Pu.fNotT, Pu.fAndV, Pu.fOrV, Pu.fNotV, Pu.fChn, Pu.fTru, Pu.fTruV, Pu.fIsi, Pu.ok_bind, Pu.er_bind, Pu.no_bind, Pu.ok_toS, Pu.er_toS, Pu.no_toS, Pu.opt_s, Pu.opt_n, Pu.asD_d, Pu.asD_l, Pu.asD_e, Pu.asD_n, Pu.asB_b, Pu.asB_e, Pu.asB_n, List.getElem?_cons_zero, List.getElem?_cons_succ, List.set_cons_zero, List.set_cons_succ, Option.bind_some, Option.bind_none, List.cons_append, List.nil_append, List.replicate, List.length_cons, List.length_nil, if_true, if_false, Bool.false_eq_true, if_pos, Pu.initE, Pu.B, Pu.I, Pu.add_i, Pu.sub_i, Pu.mul_i, Pu.mulC_l, Pu.mulC_r, Pu.mod_i, Pu.fdiv_s, Pu.lt_i, Pu.gt_i, Pu.le_i, Pu.ge_i, Pu.int_i, Pu.neg_i, Pu.pow_i, Pu.len_l, Pu.len_t, Pu.ix_l, Pu.ix_t, Pu.at_0, Pu.at_1, Pu.ixN_0, Pu.ixN_1, Option.map_some, Pu.outO, Bool.or_self, Bool.or_true, Bool.true_or, and_self, and_true, true_and, Pu.tru_b, Pu.tru_t, Pu.isi_tt, Pu.isi_tl, Pu.arg_d, Pu.seq_t, Pu.seq_l, Pu.list_t, Pu.list_l, Pu.tup_l, Pu.tup_t, Pu.fCallD, Pu.fConsX, Pu.fNilX, Pu.fArgs, Pu.fIt, Pu.fYes, Bool.not_true, Bool.not_false, ↓reduceIte, e1, fac_i (k := p + 1 - s) (by omega), fdiv_f (F := F) (k := p + 1 - s) (by omega)]
    rfl) (ps ++ [m - 1]) [.d (.int (m : Int)), .d (.tuple (nD ps)), .d (iD (fac m)), .d (iD 0), .un] ⟨fac m, 0, .un, rfl, by
      rw [← bl_pl hp]
      have := within_al (wdN m ps)
      rw [wd_len, show 1 + (m - 1) = m by omega] at this
      exact this, by
      rw [List.pairwise_append]
      refine ⟨hp.asc, List.pairwise_singleton _ _, fun a ha b hb => ?_⟩
      rw [List.mem_singleton.mp hb]
      have := hp.lt a ha
      omega, fun x hx => by
      rcases List.mem_append.mp hx with h | h
      · have := hp.lt x h
        omega
      · rw [List.mem_singleton.mp h]
        omega⟩
  have hf : F = alN (wdN m ps) := hf
  subst hf
  refine runD_rt (ρ := [.d (.int (m : Int)), .d (.tuple (nD ps)), .d (iD (alN (wdN m ps))), .d (iD s), y]) ?_
  show g__law_within [.d (.int (m : Int)), .d (.tuple (nD ps)), .un, .un, .un] = _
  unfold g__law_within
  rw [seq_nx (ρ' := [.d (.int (m : Int)), .d (.tuple (nD ps)), .d (iD (fac m)), .d (iD 0), .un]) (by simp only [Pu.fSeq, Pu.fSet, Pu.fRet, Pu.fDrop, Pu.fIfS, Pu.fNx, Pu.fRetN, Pu.fIf, Pu.fD, Pu.fP, Pu.fT, Pu.fC, Pu.fBin, Pu.fUn, Pu.fUnO, Pu.fLst, Pu.fTup, Pu.fCons, Pu.fNil, Pu.fVar, Pu.fMove, Pu.fIxO, Pu.fSto, Pu.ownL, Pu.peekAt, SV.peek, OB.lockd, SV.toD, SV.toB, Pu.fAndT, Pu.fOrT, Pu.fNotT, Pu.fAndV, Pu.fOrV, Pu.fNotV, Pu.fChn, Pu.fTru, Pu.fTruV, Pu.fIsi, Pu.ok_bind, Pu.er_bind, Pu.no_bind, Pu.ok_toS, Pu.er_toS, Pu.no_toS, Pu.opt_s, Pu.opt_n, Pu.asD_d, Pu.asD_l, Pu.asD_e, Pu.asD_n, Pu.asB_b, Pu.asB_e, Pu.asB_n, List.getElem?_cons_zero, List.getElem?_cons_succ, List.set_cons_zero, List.set_cons_succ, Option.bind_some, Option.bind_none, List.cons_append, List.nil_append, List.replicate, List.length_cons, List.length_nil, if_true, if_false, Bool.false_eq_true, if_pos, Pu.initE, Pu.B, Pu.I, Pu.add_i, Pu.sub_i, Pu.mul_i, Pu.mulC_l, Pu.mulC_r, Pu.mod_i, Pu.fdiv_s, Pu.lt_i, Pu.gt_i, Pu.le_i, Pu.ge_i, Pu.int_i, Pu.neg_i, Pu.pow_i, Pu.len_l, Pu.len_t, Pu.ix_l, Pu.ix_t, Pu.at_0, Pu.at_1, Pu.ixN_0, Pu.ixN_1, Option.map_some, Pu.outO, Bool.or_self, Bool.or_true, Bool.true_or, and_self, and_true, true_and, Pu.tru_b, Pu.tru_t, Pu.isi_tt, Pu.isi_tl, Pu.arg_d, Pu.seq_t, Pu.seq_l, Pu.list_t, Pu.list_l, Pu.tup_l, Pu.tup_t, Pu.fCallD, Pu.fConsX, Pu.fNilX, Pu.fArgs, Pu.fIt, Pu.fYes, Bool.not_true, Bool.not_false, ↓reduceIte, fPar, fConsS, fNilS, setEv, fac_i h2]; rfl)]
  have ha : addD (.list (nD ps)) (.list [iD (m - 1)]) = some (.own none (.lst (nD (ps ++ [m - 1])))) := by
    rw [add_l (by rw [nD_len]; show ps.length + 1 ≤ LIM; unfold LIM; omega)]
    unfold nD
    rw [List.map_append]
    rfl
  rw [seq_nx (fFor_nx (ds := (ps ++ [m - 1]).map iD) (by simp only [Pu.fSeq, Pu.fSet, Pu.fRet, Pu.fDrop, Pu.fIfS, Pu.fNx, Pu.fRetN, Pu.fIf, Pu.fD, Pu.fP, Pu.fT, Pu.fC, Pu.fBin, Pu.fUn, Pu.fUnO, Pu.fLst, Pu.fTup, Pu.fCons, Pu.fNil, Pu.fVar, Pu.fMove, Pu.fIxO, Pu.fSto, Pu.ownL, Pu.peekAt, SV.peek, OB.lockd, SV.toD, SV.toB, Pu.fAndT, Pu.fOrT, Pu.fNotT, Pu.fAndV, Pu.fOrV, Pu.fNotV, Pu.fChn, Pu.fTru, Pu.fTruV, Pu.fIsi, Pu.ok_bind, Pu.er_bind, Pu.no_bind, Pu.ok_toS, Pu.er_toS, Pu.no_toS, Pu.opt_s, Pu.opt_n, Pu.asD_d, Pu.asD_l, Pu.asD_e, Pu.asD_n, Pu.asB_b, Pu.asB_e, Pu.asB_n, List.getElem?_cons_zero, List.getElem?_cons_succ, List.set_cons_zero, List.set_cons_succ, Option.bind_some, Option.bind_none, List.cons_append, List.nil_append, List.replicate, List.length_cons, List.length_nil, if_true, if_false, Bool.false_eq_true, if_pos, Pu.initE, Pu.B, Pu.I, Pu.add_i, Pu.sub_i, Pu.mul_i, Pu.mulC_l, Pu.mulC_r, Pu.mod_i, Pu.fdiv_s, Pu.lt_i, Pu.gt_i, Pu.le_i, Pu.ge_i, Pu.int_i, Pu.neg_i, Pu.pow_i, Pu.len_l, Pu.len_t, Pu.ix_l, Pu.ix_t, Pu.at_0, Pu.at_1, Pu.ixN_0, Pu.ixN_1, Option.map_some, Pu.outO, Bool.or_self, Bool.or_true, Bool.true_or, and_self, and_true, true_and, Pu.tru_b, Pu.tru_t, Pu.isi_tt, Pu.isi_tl, Pu.arg_d, Pu.seq_t, Pu.seq_l, Pu.list_t, Pu.list_l, Pu.tup_l, Pu.tup_t, Pu.fCallD, Pu.fConsX, Pu.fNilX, Pu.fArgs, Pu.fIt, Pu.fYes, Bool.not_true, Bool.not_false, ↓reduceIte, sub_1 h1, lim_1, ha]; rfl) e)]
  simp only [Pu.fSeq, Pu.fSet, Pu.fRet, Pu.fDrop, Pu.fIfS, Pu.fNx, Pu.fRetN, Pu.fIf, Pu.fD, Pu.fP, Pu.fT, Pu.fC, Pu.fBin, Pu.fUn, Pu.fUnO, Pu.fLst, Pu.fTup, Pu.fCons, Pu.fNil, Pu.fVar, Pu.fMove, Pu.fIxO, Pu.fSto, Pu.ownL, Pu.peekAt, SV.peek, OB.lockd, SV.toD, SV.toB, Pu.fAndT, Pu.fOrT, Pu.fNotT, Pu.fAndV, Pu.fOrV, Pu.fNotV, Pu.fChn, Pu.fTru, Pu.fTruV, Pu.fIsi, Pu.ok_bind, Pu.er_bind, Pu.no_bind, Pu.ok_toS, Pu.er_toS, Pu.no_toS, Pu.opt_s, Pu.opt_n, Pu.asD_d, Pu.asD_l, Pu.asD_e, Pu.asD_n, Pu.asB_b, Pu.asB_e, Pu.asB_n, List.getElem?_cons_zero, List.getElem?_cons_succ, List.set_cons_zero, List.set_cons_succ, Option.bind_some, Option.bind_none, List.cons_append, List.nil_append, List.replicate, List.length_cons, List.length_nil, if_true, if_false, Bool.false_eq_true, if_pos, Pu.initE, Pu.B, Pu.I, Pu.add_i, Pu.sub_i, Pu.mul_i, Pu.mulC_l, Pu.mulC_r, Pu.mod_i, Pu.fdiv_s, Pu.lt_i, Pu.gt_i, Pu.le_i, Pu.ge_i, Pu.int_i, Pu.neg_i, Pu.pow_i, Pu.len_l, Pu.len_t, Pu.ix_l, Pu.ix_t, Pu.at_0, Pu.at_1, Pu.ixN_0, Pu.ixN_1, Option.map_some, Pu.outO, Bool.or_self, Bool.or_true, Bool.true_or, and_self, and_true, true_and, Pu.tru_b, Pu.tru_t, Pu.isi_tt, Pu.isi_tl, Pu.arg_d, Pu.seq_t, Pu.seq_l, Pu.list_t, Pu.list_l, Pu.tup_l, Pu.tup_t, Pu.fCallD, Pu.fConsX, Pu.fNilX, Pu.fArgs, Pu.fIt, Pu.fYes, Bool.not_true, Bool.not_false, ↓reduceIte]
end
end Lw
/-! JkG -/
set_option maxRecDepth 10000
namespace Lw
open PySem PySem.Spec PyProof.Rows L2 WoK LamX Pu
/-! what is refused -/
def isEr (x : Str) : FR → Bool | .er e => decide (e.cls = x) && e.lim.isNone | _ => false
theorem isEr_ex {x : Str} {r : FR} (h : isEr x r = true) : ∃ e, r = .er e ∧ e.lim = none ∧ e.cls = x := by
  unfold isEr at h
  split at h
  · rename_i e
    rw [Bool.and_eq_true] at h
    exact ⟨e, rfl, Option.isNone_iff_eq_none.mp h.2, of_decide_eq_true h.1⟩
  · cases h
def odds (m : Nat) : List D := [.none, .list [.int 0], .tuple [.int 1, .int 0], .tuple [.int 0, .int 0], .tuple [iD (m - 1)], .tuple [.int (-1)], .tuple [.bool true], .tuple [.str "0"]]
def odds2 : List D := [.none, .int 0, .int 31, .bool true]
theorem odds_er : ([5, 8, 13, 30] : List Nat).all (fun m => (odds m).all fun d => isEr "InvalidPlaces" (F_count_falls_at [.d (.int (m : Int)), .d d])) = true := by decide +kernel
theorem odds2_er : odds2.all (fun d => isEr "InvalidMany" (F_count_falls_at [.d d, .d .none])) = true := by decide +kernel
abbrev envL (c : Int) (s2 s3 s4 s5 s6 s7 s8 : SV) : Ev := [.un, .d (.int c), s2, s3, s4, s5, s6, s7, s8, .un, .un, .un]
section
variable {m : Nat} {ps : List Nat} {c : Int} {s2 s3 s4 s5 s6 s7 s8 : SV}
theorem ne_ss {s : Str} : neD (.str s) (.str s) = some (.d (.bool false)) := ne_of rfl rfl (by show 0 ≤ 50; omega)
theorem err_1 {d : D} {m : Int} (h : isEr "InvalidPlaces" (F_count_falls_at [.d (.int m), .d d]) = true) : fErr lab (fCallD F_count_falls_at (fConsX (fP (fD (fVar 5))) (fConsX (fP (fD (fVar 8))) (fNilX)))) (envL c s2 s3 s4 (.d (.int m)) s6 s7 (.d d)) = .ok (.d (.str "places value")) (envL c s2 s3 s4 (.d (.int m)) s6 s7 (.d d)) := by
  obtain ⟨e, e1, e2, e3⟩ := isEr_ex h
  have h1 : fCallD F_count_falls_at (fConsX (fP (fD (fVar 5))) (fConsX (fP (fD (fVar 8))) (fNilX))) ((envL c s2 s3 s4 (.d (.int m)) s6 s7 (.d d)).map SV.nown) = .er e := by
    show fCallD F_count_falls_at (fConsX (fP (fD (fVar 5))) (fConsX (fP (fD (fVar 8))) (fNilX))) [.un, .d (.int c), s2.nown, s3.nown, s4.nown, .d (.int m), s6.nown, s7.nown, .d d, .un, .un, .un] = _
    simp only [Pu.fSeq, Pu.fSet, Pu.fRet, Pu.fDrop, Pu.fIfS, Pu.fNx, Pu.fRetN, Pu.fIf, Pu.fD, Pu.fP, Pu.fT, Pu.fC, Pu.fBin, Pu.fUn, Pu.fUnO, Pu.fLst, Pu.fTup, Pu.fCons, Pu.fNil, Pu.fVar, Pu.fMove, Pu.fIxO, Pu.fSto, Pu.ownL, Pu.peekAt, SV.peek, OB.lockd, SV.toD, SV.toB, Pu.fAndT, Pu.fOrT, Pu.fNotT, Pu.fAndV, Pu.fOrV, Pu.fNotV, Pu.fChn, Pu.fTru, Pu.fTruV, Pu.fIsi, Pu.ok_bind, Pu.er_bind, Pu.no_bind, Pu.ok_toS, Pu.er_toS, Pu.no_toS, Pu.opt_s, Pu.opt_n, Pu.asD_d, Pu.asD_l, Pu.asD_e, Pu.asD_n, Pu.asB_b, Pu.asB_e, Pu.asB_n, List.getElem?_cons_zero, List.getElem?_cons_succ, List.set_cons_zero, List.set_cons_succ, Option.bind_some, Option.bind_none, List.cons_append, List.nil_append, List.replicate, List.length_cons, List.length_nil, if_true, if_false, Bool.false_eq_true, if_pos, Pu.initE, Pu.B, Pu.I, Pu.add_i, Pu.sub_i, Pu.mul_i, Pu.mulC_l, Pu.mulC_r, Pu.mod_i, Pu.fdiv_s, Pu.lt_i, Pu.gt_i, Pu.le_i, Pu.ge_i, Pu.int_i, Pu.neg_i, Pu.pow_i, Pu.len_l, Pu.len_t, Pu.ix_l, Pu.ix_t, Pu.at_0, Pu.at_1, Pu.ixN_0, Pu.ixN_1, Option.map_some, Pu.outO, Bool.or_self, Bool.or_true, Bool.true_or, and_self, and_true, true_and, Pu.tru_b, Pu.tru_t, Pu.isi_tt, Pu.isi_tl, Pu.arg_d, Pu.seq_t, Pu.seq_l, Pu.list_t, Pu.list_l, Pu.tup_l, Pu.tup_t, Pu.fCallD, Pu.fConsX, Pu.fNilX, Pu.fArgs, Pu.fIt, Pu.fYes, Bool.not_true, Bool.not_false, ↓reduceIte, e1]
  unfold fErr
  rw [h1]
  show (if e.lim = none then _ else _) = _
  rw [if_pos e2, e3]
  rfl
theorem err_2 {d : D} (h : isEr "InvalidMany" (F_count_falls_at [.d d, .d .none]) = true) : fErr lab (fCallD F_count_falls_at (fConsX (fP (fD (fVar 8))) (fConsX (fP (fC .none)) (fNilX)))) (envL c s2 s3 s4 s5 s6 s7 (.d d)) = .ok (.d (.str "things value")) (envL c s2 s3 s4 s5 s6 s7 (.d d)) := by
  obtain ⟨e, e1, e2, e3⟩ := isEr_ex h
  have h1 : fCallD F_count_falls_at (fConsX (fP (fD (fVar 8))) (fConsX (fP (fC .none)) (fNilX))) ((envL c s2 s3 s4 s5 s6 s7 (.d d)).map SV.nown) = .er e := by
    show fCallD F_count_falls_at (fConsX (fP (fD (fVar 8))) (fConsX (fP (fC .none)) (fNilX))) [.un, .d (.int c), s2.nown, s3.nown, s4.nown, s5.nown, s6.nown, s7.nown, .d d, .un, .un, .un] = _
    simp only [Pu.fSeq, Pu.fSet, Pu.fRet, Pu.fDrop, Pu.fIfS, Pu.fNx, Pu.fRetN, Pu.fIf, Pu.fD, Pu.fP, Pu.fT, Pu.fC, Pu.fBin, Pu.fUn, Pu.fUnO, Pu.fLst, Pu.fTup, Pu.fCons, Pu.fNil, Pu.fVar, Pu.fMove, Pu.fIxO, Pu.fSto, Pu.ownL, Pu.peekAt, SV.peek, OB.lockd, SV.toD, SV.toB, Pu.fAndT, Pu.fOrT, Pu.fNotT, Pu.fAndV, Pu.fOrV, Pu.fNotV, Pu.fChn, Pu.fTru, Pu.fTruV, Pu.fIsi, Pu.ok_bind, Pu.er_bind, Pu.no_bind, Pu.ok_toS, Pu.er_toS, Pu.no_toS, Pu.opt_s, Pu.opt_n, Pu.asD_d, Pu.asD_l, Pu.asD_e, Pu.asD_n, Pu.asB_b, Pu.asB_e, Pu.asB_n, List.getElem?_cons_zero, List.getElem?_cons_succ, List.set_cons_zero, List.set_cons_succ, Option.bind_some, Option.bind_none, List.cons_append, List.nil_append, List.replicate, List.length_cons, List.length_nil, if_true, if_false, Bool.false_eq_true, if_pos, Pu.initE, Pu.B, Pu.I, Pu.add_i, Pu.sub_i, Pu.mul_i, Pu.mulC_l, Pu.mulC_r, Pu.mod_i, Pu.fdiv_s, Pu.lt_i, Pu.gt_i, Pu.le_i, Pu.ge_i, Pu.int_i, Pu.neg_i, Pu.pow_i, Pu.len_l, Pu.len_t, Pu.ix_l, Pu.ix_t, Pu.at_0, Pu.at_1, Pu.ixN_0, Pu.ixN_1, Option.map_some, Pu.outO, Bool.or_self, Bool.or_true, Bool.true_or, and_self, and_true, true_and, Pu.tru_b, Pu.tru_t, Pu.isi_tt, Pu.isi_tl, Pu.arg_d, Pu.seq_t, Pu.seq_l, Pu.list_t, Pu.list_l, Pu.tup_l, Pu.tup_t, Pu.fCallD, Pu.fConsX, Pu.fNilX, Pu.fArgs, Pu.fIt, Pu.fYes, Bool.not_true, Bool.not_false, ↓reduceIte, e1]
  unfold fErr
  rw [h1]
  show (if e.lim = none then _ else _) = _
  rw [if_pos e2, e3]
  rfl
noncomputable abbrev bd1 : Ev → SR := fIfS (fT (fBin neD (fD (fErr lab (fCallD F_count_falls_at (fConsX (fP (fD (fVar 5))) (fConsX (fP (fD (fVar 8))) (fNilX)))))) (fC (.str "places value")))) (fRet (fP (fC (.bool false)))) (fNx)
noncomputable abbrev bd2 : Ev → SR := fIfS (fT (fBin neD (fD (fErr lab (fCallD F_count_falls_at (fConsX (fP (fD (fVar 8))) (fConsX (fP (fC .none)) (fNilX)))))) (fC (.str "things value")))) (fRet (fP (fC (.bool false)))) (fNx)
theorem loop1 {m : Nat} (hm : m ∈ ([5, 8, 13, 30] : List Nat)) : ∃ y, forL (bNm 8) bd1 (odds m) (envL c s2 s3 s4 (.d (.int (m : Int))) s6 s7 s8) = .nx (envL c s2 s3 s4 (.d (.int (m : Int))) s6 s7 y) := by
  let P : List D → Ev → Prop := fun rest ρ => (∀ d ∈ rest, d ∈ odds m) ∧ ∃ y, ρ = envL c s2 s3 s4 (.d (.int (m : Int))) s6 s7 y
  obtain ⟨ρ', e, _, y, rfl⟩ := forL_t (bd := bNm 8) (fb := bd1) (e := id) P (by
    rintro d rest ρ ⟨h, y, rfl⟩
    refine ⟨envL c s2 s3 s4 (.d (.int (m : Int))) s6 s7 (.d d), envL c s2 s3 s4 (.d (.int (m : Int))) s6 s7 (.d d), rfl, ?_, fun z hz => h z (List.mem_cons_of_mem _ hz), _, rfl⟩
    have he := err_1 (c := c) (s2 := s2) (s3 := s3) (s4 := s4) (s6 := s6) (s7 := s7) (List.all_eq_true.mp (List.all_eq_true.mp odds_er m hm) d (h d List.mem_cons_self))
    unfold bd1
    simp only [Pu.fSeq, Pu.fSet, Pu.fRet, Pu.fDrop, Pu.fIfS, Pu.fNx, Pu.fRetN, Pu.fIf, Pu.fD, Pu.fP, Pu.fT, Pu.fC, Pu.fBin, Pu.fUn, Pu.fUnO, Pu.fLst, Pu.fTup, Pu.fCons, Pu.fNil, Pu.fVar, Pu.fMove, Pu.fIxO, Pu.fSto, Pu.ownL, Pu.peekAt, SV.peek, OB.lockd, SV.toD, SV.toB, Pu.fAndT, Pu.fOrT, Pu.fNotT, Pu.fAndV, Pu.fOrV, Pu.fNotV, Pu.fChn, Pu.fTru, Pu.fTruV, Pu.fIsi, Pu.ok_bind, Pu.er_bind, Pu.no_bind, Pu.ok_toS, Pu.er_toS, Pu.no_toS, Pu.opt_s, Pu.opt_n, Pu.asD_d, Pu.asD_l, Pu.asD_e, Pu.asD_n, Pu.asB_b, Pu.asB_e, Pu.asB_n, List.getElem?_cons_zero, List.getElem?_cons_succ, List.set_cons_zero, List.set_cons_succ, Option.bind_some, Option.bind_none, List.cons_append, List.nil_append, List.replicate, List.length_cons, List.length_nil, if_true, if_false, Bool.false_eq_true, if_pos, Pu.initE, Pu.B, Pu.I, Pu.add_i, Pu.sub_i, Pu.mul_i, Pu.mulC_l, Pu.mulC_r, Pu.mod_i, Pu.fdiv_s, Pu.lt_i, Pu.gt_i, Pu.le_i, Pu.ge_i, Pu.int_i, Pu.neg_i, Pu.pow_i, Pu.len_l, Pu.len_t, Pu.ix_l, Pu.ix_t, Pu.at_0, Pu.at_1, Pu.ixN_0, Pu.ixN_1, Option.map_some, Pu.outO, Bool.or_self, Bool.or_true, Bool.true_or, and_self, and_true, true_and, Pu.tru_b, Pu.tru_t, Pu.isi_tt, Pu.isi_tl, Pu.arg_d, Pu.seq_t, Pu.seq_l, Pu.list_t, Pu.list_l, Pu.tup_l, Pu.tup_t, Pu.fCallD, Pu.fConsX, Pu.fNilX, Pu.fArgs, Pu.fIt, Pu.fYes, Bool.not_true, Bool.not_false, ↓reduceIte, he, ne_ss]) (odds m) (envL c s2 s3 s4 (.d (.int (m : Int))) s6 s7 s8) ⟨fun d h => h, s8, rfl⟩
  rw [List.map_id] at e
  exact ⟨y, e⟩
theorem loop2 : ∃ y, forL (bNm 8) bd2 odds2 (envL c s2 s3 s4 s5 s6 s7 s8) = .nx (envL c s2 s3 s4 s5 s6 s7 y) := by
  let P : List D → Ev → Prop := fun rest ρ => (∀ d ∈ rest, d ∈ odds2) ∧ ∃ y, ρ = envL c s2 s3 s4 s5 s6 s7 y
  obtain ⟨ρ', e, _, y, rfl⟩ := forL_t (bd := bNm 8) (fb := bd2) (e := id) P (by
    rintro d rest ρ ⟨h, y, rfl⟩
    refine ⟨envL c s2 s3 s4 s5 s6 s7 (.d d), envL c s2 s3 s4 s5 s6 s7 (.d d), rfl, ?_, fun z hz => h z (List.mem_cons_of_mem _ hz), _, rfl⟩
    have he := err_2 (c := c) (s2 := s2) (s3 := s3) (s4 := s4) (s5 := s5) (s6 := s6) (s7 := s7) (List.all_eq_true.mp odds2_er d (h d List.mem_cons_self))
    unfold bd2
    simp only [Pu.fSeq, Pu.fSet, Pu.fRet, Pu.fDrop, Pu.fIfS, Pu.fNx, Pu.fRetN, Pu.fIf, Pu.fD, Pu.fP, Pu.fT, Pu.fC, Pu.fBin, Pu.fUn, Pu.fUnO, Pu.fLst, Pu.fTup, Pu.fCons, Pu.fNil, Pu.fVar, Pu.fMove, Pu.fIxO, Pu.fSto, Pu.ownL, Pu.peekAt, SV.peek, OB.lockd, SV.toD, SV.toB, Pu.fAndT, Pu.fOrT, Pu.fNotT, Pu.fAndV, Pu.fOrV, Pu.fNotV, Pu.fChn, Pu.fTru, Pu.fTruV, Pu.fIsi, Pu.ok_bind, Pu.er_bind, Pu.no_bind, Pu.ok_toS, Pu.er_toS, Pu.no_toS, Pu.opt_s, Pu.opt_n, Pu.asD_d, Pu.asD_l, Pu.asD_e, Pu.asD_n, Pu.asB_b, Pu.asB_e, Pu.asB_n, List.getElem?_cons_zero, List.getElem?_cons_succ, List.set_cons_zero, List.set_cons_succ, Option.bind_some, Option.bind_none, List.cons_append, List.nil_append, List.replicate, List.length_cons, List.length_nil, if_true, if_false, Bool.false_eq_true, if_pos, Pu.initE, Pu.B, Pu.I, Pu.add_i, Pu.sub_i, Pu.mul_i, Pu.mulC_l, Pu.mulC_r, Pu.mod_i, Pu.fdiv_s, Pu.lt_i, Pu.gt_i, Pu.le_i, Pu.ge_i, Pu.int_i, Pu.neg_i, Pu.pow_i, Pu.len_l, Pu.len_t, Pu.ix_l, Pu.ix_t, Pu.at_0, Pu.at_1, Pu.ixN_0, Pu.ixN_1, Option.map_some, Pu.outO, Bool.or_self, Bool.or_true, Bool.true_or, and_self, and_true, true_and, Pu.tru_b, Pu.tru_t, Pu.isi_tt, Pu.isi_tl, Pu.arg_d, Pu.seq_t, Pu.seq_l, Pu.list_t, Pu.list_l, Pu.tup_l, Pu.tup_t, Pu.fCallD, Pu.fConsX, Pu.fNilX, Pu.fArgs, Pu.fIt, Pu.fYes, Bool.not_true, Bool.not_false, ↓reduceIte, he, ne_ss]) odds2 (envL c s2 s3 s4 s5 s6 s7 s8) ⟨fun d h => h, s8, rfl⟩
  rw [List.map_id] at e
  exact ⟨y, e⟩
/-! one cell -/
theorem sl_6 {l : List Nat} : slD (.tuple (nD l)) none (some 6) = some (.d (.tuple (nD (l.take 6)))) := by
  show some (SV.d (.tuple (cutL (nD l) none (some ((6 : Nat) : Int))))) = _
  unfold cutL
  rw [HT.sIx_nat, HT.sIx_none, nD_len, List.drop_zero, Nat.sub_zero]
  unfold nD
  rw [← List.map_take]
  congr 4
  rw [Nat.min_def]
  split
  · rfl
  · rename_i h
    rw [List.take_of_length_le (Nat.le_refl _), List.take_of_length_le (by omega)]
theorem rev_t {l : List Nat} : revD (.tuple (nD l)) = some (.d (.tuple (nD l.reverse))) := by
  show some (SV.d (.tuple (nD l).reverse)) = _
  unfold nD
  rw [List.map_reverse]
theorem few_cmp {pot : List D} (h1 : 1 ≤ m) (h2 : m ≤ 5) (hs : ps.Sublist (List.range (m - 1))) : (fIfS (fT (fBin neD (fD (fCallD F_count_falls_at (fConsX (fP (fD (fVar 3))) (fConsX (fP (fD (fVar 4))) (fNilX))))) (fD (fUn lenD (fD (fLc (fIt (fD (fCallD F__law_all (fConsX (fP (fD (fVar 3))) (fNilX))))) (bNm 9) (fT (fBin eqD (fD (fUn tupleD (fD (fCallD F__law_falls (fConsX (fP (fD (fVar 9))) (fNilX)))))) (fD (fVar 4)))) (fD (fVar 9)) [9])))))) (fRet (fP (fC (.bool false)))) (fNx)) (envL c (.own none (.lst pot)) (.d (.int (m : Int))) (.d (.tuple (nD ps))) s5 s6 s7 s8) = .nx (envL c (.own none (.lst pot)) (.d (.int (m : Int))) (.d (.tuple (nD ps))) s5 s6 s7 s8) := by
  obtain ⟨f1, f2, f3⟩ := few_is h1 h2
  have e := fLc_t (fi := fIt (fD (fCallD F__law_all (fConsX (fP (fD (fVar 3))) (fNilX))))) (bd := bNm 9) (fc := fT (fBin eqD (fD (fUn tupleD (fD (fCallD F__law_falls (fConsX (fP (fD (fVar 9))) (fNilX)))))) (fD (fVar 4)))) (fe := fD (fVar 9)) (vs := [9]) (ρ := envL c (.own none (.lst pot)) (.d (.int (m : Int))) (.d (.tuple (nD ps))) s5 s6 s7 s8) (xs := allX m m) (e := fun o => .tuple (nD o)) (fun o => decide (fallsN o = ps)) (fun o => .tuple (nD o)) (fun o => (envL c (.own none (.lst pot)) (.d (.int (m : Int))) (.d (.tuple (nD ps))) s5 s6 s7 s8).set 9 (.d (.tuple (nD o)))) (by
      have ea := all_i h1 h2
      unfold allD at ea
      simp only [Pu.fSeq, Pu.fSet, Pu.fRet, Pu.fDrop, Pu.fIfS, Pu.fNx, Pu.fRetN, Pu.fIf, Pu.fD, Pu.fP, Pu.fT, Pu.fC, Pu.fBin, Pu.fUn, Pu.fUnO, Pu.fLst, Pu.fTup, Pu.fCons, Pu.fNil, Pu.fVar, Pu.fMove, Pu.fIxO, Pu.fSto, Pu.ownL, Pu.peekAt, SV.peek, OB.lockd, SV.toD, SV.toB, Pu.fAndT, Pu.fOrT, Pu.fNotT, Pu.fAndV, Pu.fOrV, Pu.fNotV, Pu.fChn, Pu.fTru, Pu.fTruV, Pu.fIsi, Pu.ok_bind, Pu.er_bind, Pu.no_bind, Pu.ok_toS, Pu.er_toS, Pu.no_toS, Pu.opt_s, Pu.opt_n, Pu.asD_d, Pu.asD_l, Pu.asD_e, Pu.asD_n, Pu.asB_b, Pu.asB_e, Pu.asB_n, List.getElem?_cons_zero, List.getElem?_cons_succ, List.set_cons_zero, List.set_cons_succ, Option.bind_some, Option.bind_none, List.cons_append, List.nil_append, List.replicate, List.length_cons, List.length_nil, if_true, if_false, Bool.false_eq_true, if_pos, Pu.initE, Pu.B, Pu.I, Pu.add_i, Pu.sub_i, Pu.mul_i, Pu.mulC_l, Pu.mulC_r, Pu.mod_i, Pu.fdiv_s, Pu.lt_i, Pu.gt_i, Pu.le_i, Pu.ge_i, Pu.int_i, Pu.neg_i, Pu.pow_i, Pu.len_l, Pu.len_t, Pu.ix_l, Pu.ix_t, Pu.at_0, Pu.at_1, Pu.ixN_0, Pu.ixN_1, Option.map_some, Pu.outO, Bool.or_self, Bool.or_true, Bool.true_or, and_self, and_true, true_and, Pu.tru_b, Pu.tru_t, Pu.isi_tt, Pu.isi_tl, Pu.arg_d, Pu.seq_t, Pu.seq_l, Pu.list_t, Pu.list_l, Pu.tup_l, Pu.tup_t, Pu.fCallD, Pu.fConsX, Pu.fNilX, Pu.fArgs, Pu.fIt, Pu.fYes, Bool.not_true, Bool.not_false, ↓reduceIte, ea]) rfl (fun o ho => ⟨rfl, by
      have hl := f1 o ho
      show fT _ [.un, .d (.int c), .own none (.lst pot), .d (.int (m : Int)), .d (.tuple (nD ps)), s5, s6, s7, s8, .d (.tuple (nD o)), .un, .un] = .ok _ [.un, .d (.int c), .own none (.lst pot), .d (.int (m : Int)), .d (.tuple (nD ps)), s5, s6, s7, s8, .d (.tuple (nD o)), .un, .un]
      simp only [Pu.fSeq, Pu.fSet, Pu.fRet, Pu.fDrop, Pu.fIfS, Pu.fNx, Pu.fRetN, Pu.fIf, Pu.fD, Pu.fP, Pu.fT, Pu.fC, Pu.fBin, Pu.fUn, Pu.fUnO, Pu.fLst, Pu.fTup, Pu.fCons, Pu.fNil, Pu.fVar, Pu.fMove, Pu.fIxO, Pu.fSto, Pu.ownL, Pu.peekAt, SV.peek, OB.lockd, SV.toD, SV.toB, Pu.fAndT, Pu.fOrT, Pu.fNotT, Pu.fAndV, Pu.fOrV, Pu.fNotV, Pu.fChn, Pu.fTru, Pu.fTruV, Pu.fIsi, Pu.ok_bind, Pu.er_bind, Pu.no_bind, Pu.ok_toS, Pu.er_toS, Pu.no_toS, Pu.opt_s, Pu.opt_n, Pu.asD_d, Pu.asD_l, Pu.asD_e, Pu.asD_n, Pu.asB_b, Pu.asB_e, Pu.asB_n, List.getElem?_cons_zero, List.getElem?_cons_succ, List.set_cons_zero, List.set_cons_succ, Option.bind_some, Option.bind_none, List.cons_append, List.nil_append, List.replicate, List.length_cons, List.length_nil, if_true, if_false, Bool.false_eq_true, if_pos, Pu.initE, Pu.B, Pu.I, Pu.add_i, Pu.sub_i, Pu.mul_i, Pu.mulC_l, Pu.mulC_r, Pu.mod_i, Pu.fdiv_s, Pu.lt_i, Pu.gt_i, Pu.le_i, Pu.ge_i, Pu.int_i, Pu.neg_i, Pu.pow_i, Pu.len_l, Pu.len_t, Pu.ix_l, Pu.ix_t, Pu.at_0, Pu.at_1, Pu.ixN_0, Pu.ixN_1, Option.map_some, Pu.outO, Bool.or_self, Bool.or_true, Bool.true_or, and_self, and_true, true_and, Pu.tru_b, Pu.tru_t, Pu.isi_tt, Pu.isi_tl, Pu.arg_d, Pu.seq_t, Pu.seq_l, Pu.list_t, Pu.list_l, Pu.tup_l, Pu.tup_t, Pu.fCallD, Pu.fConsX, Pu.fNilX, Pu.fArgs, Pu.fIt, Pu.fYes, Bool.not_true, Bool.not_false, ↓reduceIte, falls_i (o := o) (by omega), eq_tt], fun _ => rfl, rfl⟩) (lim_of (by omega))
  have hn := f3 ps hs
  have hl : ((((allX m m).filter fun o => decide (fallsN o = ps)).map fun o => PyData.tuple (nD o)).length : Nat) = beN (wdN m ps) := by rw [List.length_map, hn]
  simp only [Pu.fSeq, Pu.fSet, Pu.fRet, Pu.fDrop, Pu.fIfS, Pu.fNx, Pu.fRetN, Pu.fIf, Pu.fD, Pu.fP, Pu.fT, Pu.fC, Pu.fBin, Pu.fUn, Pu.fUnO, Pu.fLst, Pu.fTup, Pu.fCons, Pu.fNil, Pu.fVar, Pu.fMove, Pu.fIxO, Pu.fSto, Pu.ownL, Pu.peekAt, SV.peek, OB.lockd, SV.toD, SV.toB, Pu.fAndT, Pu.fOrT, Pu.fNotT, Pu.fAndV, Pu.fOrV, Pu.fNotV, Pu.fChn, Pu.fTru, Pu.fTruV, Pu.fIsi, Pu.ok_bind, Pu.er_bind, Pu.no_bind, Pu.ok_toS, Pu.er_toS, Pu.no_toS, Pu.opt_s, Pu.opt_n, Pu.asD_d, Pu.asD_l, Pu.asD_e, Pu.asD_n, Pu.asB_b, Pu.asB_e, Pu.asB_n, List.getElem?_cons_zero, List.getElem?_cons_succ, List.set_cons_zero, List.set_cons_succ, Option.bind_some, Option.bind_none, List.cons_append, List.nil_append, List.replicate, List.length_cons, List.length_nil, if_true, if_false, Bool.false_eq_true, if_pos, Pu.initE, Pu.B, Pu.I, Pu.add_i, Pu.sub_i, Pu.mul_i, Pu.mulC_l, Pu.mulC_r, Pu.mod_i, Pu.fdiv_s, Pu.lt_i, Pu.gt_i, Pu.le_i, Pu.ge_i, Pu.int_i, Pu.neg_i, Pu.pow_i, Pu.len_l, Pu.len_t, Pu.ix_l, Pu.ix_t, Pu.at_0, Pu.at_1, Pu.ixN_0, Pu.ixN_1, Option.map_some, Pu.outO, Bool.or_self, Bool.or_true, Bool.true_or, and_self, and_true, true_and, Pu.tru_b, Pu.tru_t, Pu.isi_tt, Pu.isi_tl, Pu.arg_d, Pu.seq_t, Pu.seq_l, Pu.list_t, Pu.list_l, Pu.tup_l, Pu.tup_t, Pu.fCallD, Pu.fConsX, Pu.fNilX, Pu.fArgs, Pu.fIt, Pu.fYes, Bool.not_true, Bool.not_false, ↓reduceIte, count_i h1 (show m ≤ 30 by omega) (pl_sub hs), e, hl, ne_i, decide_true]
theorem sum_cmp {pot : List D} (h1 : 1 ≤ m) (h2 : m ≤ 30) (hp : IsPl m ps) (hl : ps.length ≤ 6) : (fIfS (fT (fBin neD (fD (fUn sumD (fD (fLc (fIt (fD (fCallD F__law_parts (fConsX (fP (fD (fVar 4))) (fNilX))))) (bNm 10) (fYes) (fD (fCallD F_count_falls_at (fConsX (fP (fD (fVar 5))) (fConsX (fP (fD (fVar 10))) (fNilX))))) [10])))) (fD (fCallD F__law_within (fConsX (fP (fD (fVar 5))) (fConsX (fP (fD (fVar 4))) (fNilX))))))) (fRet (fP (fC (.bool false)))) (fNx)) (envL c (.own none (.lst pot)) s3 (.d (.tuple (nD ps))) (.d (.int (m : Int))) s6 s7 s8) = .nx (envL c (.own none (.lst pot)) s3 (.d (.tuple (nD ps))) (.d (.int (m : Int))) s6 s7 s8) := by
  have e := fLc_t (fi := fIt (fD (fCallD F__law_parts (fConsX (fP (fD (fVar 4))) (fNilX))))) (bd := bNm 10) (fc := fYes) (fe := fD (fCallD F_count_falls_at (fConsX (fP (fD (fVar 5))) (fConsX (fP (fD (fVar 10))) (fNilX))))) (vs := [10]) (ρ := envL c (.own none (.lst pot)) s3 (.d (.tuple (nD ps))) (.d (.int (m : Int))) s6 s7 s8) (xs := partsN ps) (e := fun t => .tuple (nD t)) (fun _ => true) (fun t => iD (beN (wdN m t))) (fun t => (envL c (.own none (.lst pot)) s3 (.d (.tuple (nD ps))) (.d (.int (m : Int))) s6 s7 s8).set 10 (.d (.tuple (nD t)))) (by
      have ea := parts_i hl
      unfold tsD at ea
      simp only [Pu.fSeq, Pu.fSet, Pu.fRet, Pu.fDrop, Pu.fIfS, Pu.fNx, Pu.fRetN, Pu.fIf, Pu.fD, Pu.fP, Pu.fT, Pu.fC, Pu.fBin, Pu.fUn, Pu.fUnO, Pu.fLst, Pu.fTup, Pu.fCons, Pu.fNil, Pu.fVar, Pu.fMove, Pu.fIxO, Pu.fSto, Pu.ownL, Pu.peekAt, SV.peek, OB.lockd, SV.toD, SV.toB, Pu.fAndT, Pu.fOrT, Pu.fNotT, Pu.fAndV, Pu.fOrV, Pu.fNotV, Pu.fChn, Pu.fTru, Pu.fTruV, Pu.fIsi, Pu.ok_bind, Pu.er_bind, Pu.no_bind, Pu.ok_toS, Pu.er_toS, Pu.no_toS, Pu.opt_s, Pu.opt_n, Pu.asD_d, Pu.asD_l, Pu.asD_e, Pu.asD_n, Pu.asB_b, Pu.asB_e, Pu.asB_n, List.getElem?_cons_zero, List.getElem?_cons_succ, List.set_cons_zero, List.set_cons_succ, Option.bind_some, Option.bind_none, List.cons_append, List.nil_append, List.replicate, List.length_cons, List.length_nil, if_true, if_false, Bool.false_eq_true, if_pos, Pu.initE, Pu.B, Pu.I, Pu.add_i, Pu.sub_i, Pu.mul_i, Pu.mulC_l, Pu.mulC_r, Pu.mod_i, Pu.fdiv_s, Pu.lt_i, Pu.gt_i, Pu.le_i, Pu.ge_i, Pu.int_i, Pu.neg_i, Pu.pow_i, Pu.len_l, Pu.len_t, Pu.ix_l, Pu.ix_t, Pu.at_0, Pu.at_1, Pu.ixN_0, Pu.ixN_1, Option.map_some, Pu.outO, Bool.or_self, Bool.or_true, Bool.true_or, and_self, and_true, true_and, Pu.tru_b, Pu.tru_t, Pu.isi_tt, Pu.isi_tl, Pu.arg_d, Pu.seq_t, Pu.seq_l, Pu.list_t, Pu.list_l, Pu.tup_l, Pu.tup_t, Pu.fCallD, Pu.fConsX, Pu.fNilX, Pu.fArgs, Pu.fIt, Pu.fYes, Bool.not_true, Bool.not_false, ↓reduceIte, ea]) rfl (fun t ht => ⟨rfl, rfl, fun _ => by
      show fD _ [.un, .d (.int c), .own none (.lst pot), s3, .d (.tuple (nD ps)), .d (.int (m : Int)), s6, s7, s8, .un, .d (.tuple (nD t)), .un] = .ok _ [.un, .d (.int c), .own none (.lst pot), s3, .d (.tuple (nD ps)), .d (.int (m : Int)), s6, s7, s8, .un, .d (.tuple (nD t)), .un]
      simp only [Pu.fSeq, Pu.fSet, Pu.fRet, Pu.fDrop, Pu.fIfS, Pu.fNx, Pu.fRetN, Pu.fIf, Pu.fD, Pu.fP, Pu.fT, Pu.fC, Pu.fBin, Pu.fUn, Pu.fUnO, Pu.fLst, Pu.fTup, Pu.fCons, Pu.fNil, Pu.fVar, Pu.fMove, Pu.fIxO, Pu.fSto, Pu.ownL, Pu.peekAt, SV.peek, OB.lockd, SV.toD, SV.toB, Pu.fAndT, Pu.fOrT, Pu.fNotT, Pu.fAndV, Pu.fOrV, Pu.fNotV, Pu.fChn, Pu.fTru, Pu.fTruV, Pu.fIsi, Pu.ok_bind, Pu.er_bind, Pu.no_bind, Pu.ok_toS, Pu.er_toS, Pu.no_toS, Pu.opt_s, Pu.opt_n, Pu.asD_d, Pu.asD_l, Pu.asD_e, Pu.asD_n, Pu.asB_b, Pu.asB_e, Pu.asB_n, List.getElem?_cons_zero, List.getElem?_cons_succ, List.set_cons_zero, List.set_cons_succ, Option.bind_some, Option.bind_none, List.cons_append, List.nil_append, List.replicate, List.length_cons, List.length_nil, if_true, if_false, Bool.false_eq_true, if_pos, Pu.initE, Pu.B, Pu.I, Pu.add_i, Pu.sub_i, Pu.mul_i, Pu.mulC_l, Pu.mulC_r, Pu.mod_i, Pu.fdiv_s, Pu.lt_i, Pu.gt_i, Pu.le_i, Pu.ge_i, Pu.int_i, Pu.neg_i, Pu.pow_i, Pu.len_l, Pu.len_t, Pu.ix_l, Pu.ix_t, Pu.at_0, Pu.at_1, Pu.ixN_0, Pu.ixN_1, Option.map_some, Pu.outO, Bool.or_self, Bool.or_true, Bool.true_or, and_self, and_true, true_and, Pu.tru_b, Pu.tru_t, Pu.isi_tt, Pu.isi_tl, Pu.arg_d, Pu.seq_t, Pu.seq_l, Pu.list_t, Pu.list_l, Pu.tup_l, Pu.tup_t, Pu.fCallD, Pu.fConsX, Pu.fNilX, Pu.fArgs, Pu.fIt, Pu.fYes, Bool.not_true, Bool.not_false, ↓reduceIte, count_i h1 h2 (hp.sub (mem_parts ht))], rfl⟩) (by
      unfold partsN
      rw [parts_len]
      have := pow_le ps.length hl
      show 1 * _ ≤ LIM
      unfold LIM
      omega)
  rw [filter_yes] at e
  have en : (partsN ps).map (fun t => iD (beN (wdN m t))) = nD ((partsN ps).map fun t => beN (wdN m t)) := by
    unfold nD
    rw [List.map_map]
    rfl
  rw [en] at e
  have hs : sumD (.list (nD ((partsN ps).map fun t => beN (wdN m t)))) = some (.d (iD (alN (wdN m ps)))) := by rw [sumD_n, parts_al hp]
  simp only [Pu.fSeq, Pu.fSet, Pu.fRet, Pu.fDrop, Pu.fIfS, Pu.fNx, Pu.fRetN, Pu.fIf, Pu.fD, Pu.fP, Pu.fT, Pu.fC, Pu.fBin, Pu.fUn, Pu.fUnO, Pu.fLst, Pu.fTup, Pu.fCons, Pu.fNil, Pu.fVar, Pu.fMove, Pu.fIxO, Pu.fSto, Pu.ownL, Pu.peekAt, SV.peek, OB.lockd, SV.toD, SV.toB, Pu.fAndT, Pu.fOrT, Pu.fNotT, Pu.fAndV, Pu.fOrV, Pu.fNotV, Pu.fChn, Pu.fTru, Pu.fTruV, Pu.fIsi, Pu.ok_bind, Pu.er_bind, Pu.no_bind, Pu.ok_toS, Pu.er_toS, Pu.no_toS, Pu.opt_s, Pu.opt_n, Pu.asD_d, Pu.asD_l, Pu.asD_e, Pu.asD_n, Pu.asB_b, Pu.asB_e, Pu.asB_n, List.getElem?_cons_zero, List.getElem?_cons_succ, List.set_cons_zero, List.set_cons_succ, Option.bind_some, Option.bind_none, List.cons_append, List.nil_append, List.replicate, List.length_cons, List.length_nil, if_true, if_false, Bool.false_eq_true, if_pos, Pu.initE, Pu.B, Pu.I, Pu.add_i, Pu.sub_i, Pu.mul_i, Pu.mulC_l, Pu.mulC_r, Pu.mod_i, Pu.fdiv_s, Pu.lt_i, Pu.gt_i, Pu.le_i, Pu.ge_i, Pu.int_i, Pu.neg_i, Pu.pow_i, Pu.len_l, Pu.len_t, Pu.ix_l, Pu.ix_t, Pu.at_0, Pu.at_1, Pu.ixN_0, Pu.ixN_1, Option.map_some, Pu.outO, Bool.or_self, Bool.or_true, Bool.true_or, and_self, and_true, true_and, Pu.tru_b, Pu.tru_t, Pu.isi_tt, Pu.isi_tl, Pu.arg_d, Pu.seq_t, Pu.seq_l, Pu.list_t, Pu.list_l, Pu.tup_l, Pu.tup_t, Pu.fCallD, Pu.fConsX, Pu.fNilX, Pu.fArgs, Pu.fIt, Pu.fYes, Bool.not_true, Bool.not_false, ↓reduceIte, e, hs, within_n h1 h2 hp, ne_i, decide_true]
theorem mir_cmp {pot : List D} (h1 : 1 ≤ m) (h2 : m ≤ 30) (hp : IsPl m ps) : (fIfS (fT (fBin neD (fD (fCallD F_count_falls_at (fConsX (fP (fD (fVar 5))) (fConsX (fP (fD (fUn tupleD (fD (fLc (fIt (fD (fUn revD (fD (fVar 4))))) (bNm 11) (fYes) (fD (fBin subD (fD (fBin subD (fD (fVar 5)) (fC (.int 2)))) (fD (fVar 11)))) [11]))))) (fNilX))))) (fD (fVar 6)))) (fRet (fP (fC (.bool false)))) (fNx)) (envL c (.own none (.lst pot)) s3 (.d (.tuple (nD ps))) (.d (.int (m : Int))) (.d (iD (beN (wdN m ps)))) s7 s8) = .nx (envL c (.own none (.lst pot)) s3 (.d (.tuple (nD ps))) (.d (.int (m : Int))) (.d (iD (beN (wdN m ps)))) s7 s8) := by
  have hlen := hp.len
  have e := fLc_t (fi := fIt (fD (fUn revD (fD (fVar 4))))) (bd := bNm 11) (fc := fYes) (fe := fD (fBin subD (fD (fBin subD (fD (fVar 5)) (fC (.int 2)))) (fD (fVar 11)))) (vs := [11]) (ρ := envL c (.own none (.lst pot)) s3 (.d (.tuple (nD ps))) (.d (.int (m : Int))) (.d (iD (beN (wdN m ps)))) s7 s8) (xs := ps.reverse) (e := iD) (fun _ => true) (fun x => iD (m - 2 - x)) (fun t => (envL c (.own none (.lst pot)) s3 (.d (.tuple (nD ps))) (.d (.int (m : Int))) (.d (iD (beN (wdN m ps)))) s7 s8).set 11 (.d (iD t))) (by
      simp only [Pu.fSeq, Pu.fSet, Pu.fRet, Pu.fDrop, Pu.fIfS, Pu.fNx, Pu.fRetN, Pu.fIf, Pu.fD, Pu.fP, Pu.fT, Pu.fC, Pu.fBin, Pu.fUn, Pu.fUnO, Pu.fLst, Pu.fTup, Pu.fCons, Pu.fNil, Pu.fVar, Pu.fMove, Pu.fIxO, Pu.fSto, Pu.ownL, Pu.peekAt, SV.peek, OB.lockd, SV.toD, SV.toB, Pu.fAndT, Pu.fOrT, Pu.fNotT, Pu.fAndV, Pu.fOrV, Pu.fNotV, Pu.fChn, Pu.fTru, Pu.fTruV, Pu.fIsi, Pu.ok_bind, Pu.er_bind, Pu.no_bind, Pu.ok_toS, Pu.er_toS, Pu.no_toS, Pu.opt_s, Pu.opt_n, Pu.asD_d, Pu.asD_l, Pu.asD_e, Pu.asD_n, Pu.asB_b, Pu.asB_e, Pu.asB_n, List.getElem?_cons_zero, List.getElem?_cons_succ, List.set_cons_zero, List.set_cons_succ, Option.bind_some, Option.bind_none, List.cons_append, List.nil_append, List.replicate, List.length_cons, List.length_nil, if_true, if_false, Bool.false_eq_true, if_pos, Pu.initE, Pu.B, Pu.I, Pu.add_i, Pu.sub_i, Pu.mul_i, Pu.mulC_l, Pu.mulC_r, Pu.mod_i, Pu.fdiv_s, Pu.lt_i, Pu.gt_i, Pu.le_i, Pu.ge_i, Pu.int_i, Pu.neg_i, Pu.pow_i, Pu.len_l, Pu.len_t, Pu.ix_l, Pu.ix_t, Pu.at_0, Pu.at_1, Pu.ixN_0, Pu.ixN_1, Option.map_some, Pu.outO, Bool.or_self, Bool.or_true, Bool.true_or, and_self, and_true, true_and, Pu.tru_b, Pu.tru_t, Pu.isi_tt, Pu.isi_tl, Pu.arg_d, Pu.seq_t, Pu.seq_l, Pu.list_t, Pu.list_l, Pu.tup_l, Pu.tup_t, Pu.fCallD, Pu.fConsX, Pu.fNilX, Pu.fArgs, Pu.fIt, Pu.fYes, Bool.not_true, Bool.not_false, ↓reduceIte, rev_t]
      rfl) rfl (fun t ht => ⟨rfl, rfl, fun _ => by
      have := hp.lt t (List.mem_reverse.mp ht)
      have e1 : (m : Int) - 2 - (t : Int) = ((m - 2 - t : Nat) : Int) := by omega
      show fD _ [.un, .d (.int c), .own none (.lst pot), s3, .d (.tuple (nD ps)), .d (.int (m : Int)), .d (iD (beN (wdN m ps))), s7, s8, .un, .un, .d (iD t)] = .ok _ [.un, .d (.int c), .own none (.lst pot), s3, .d (.tuple (nD ps)), .d (.int (m : Int)), .d (iD (beN (wdN m ps))), s7, s8, .un, .un, .d (iD t)]
      simp only [Pu.fSeq, Pu.fSet, Pu.fRet, Pu.fDrop, Pu.fIfS, Pu.fNx, Pu.fRetN, Pu.fIf, Pu.fD, Pu.fP, Pu.fT, Pu.fC, Pu.fBin, Pu.fUn, Pu.fUnO, Pu.fLst, Pu.fTup, Pu.fCons, Pu.fNil, Pu.fVar, Pu.fMove, Pu.fIxO, Pu.fSto, Pu.ownL, Pu.peekAt, SV.peek, OB.lockd, SV.toD, SV.toB, Pu.fAndT, Pu.fOrT, Pu.fNotT, Pu.fAndV, Pu.fOrV, Pu.fNotV, Pu.fChn, Pu.fTru, Pu.fTruV, Pu.fIsi, Pu.ok_bind, Pu.er_bind, Pu.no_bind, Pu.ok_toS, Pu.er_toS, Pu.no_toS, Pu.opt_s, Pu.opt_n, Pu.asD_d, Pu.asD_l, Pu.asD_e, Pu.asD_n, Pu.asB_b, Pu.asB_e, Pu.asB_n, List.getElem?_cons_zero, List.getElem?_cons_succ, List.set_cons_zero, List.set_cons_succ, Option.bind_some, Option.bind_none, List.cons_append, List.nil_append, List.replicate, List.length_cons, List.length_nil, if_true, if_false, Bool.false_eq_true, if_pos, Pu.initE, Pu.B, Pu.I, Pu.add_i, Pu.sub_i, Pu.mul_i, Pu.mulC_l, Pu.mulC_r, Pu.mod_i, Pu.fdiv_s, Pu.lt_i, Pu.gt_i, Pu.le_i, Pu.ge_i, Pu.int_i, Pu.neg_i, Pu.pow_i, Pu.len_l, Pu.len_t, Pu.ix_l, Pu.ix_t, Pu.at_0, Pu.at_1, Pu.ixN_0, Pu.ixN_1, Option.map_some, Pu.outO, Bool.or_self, Bool.or_true, Bool.true_or, and_self, and_true, true_and, Pu.tru_b, Pu.tru_t, Pu.isi_tt, Pu.isi_tl, Pu.arg_d, Pu.seq_t, Pu.seq_l, Pu.list_t, Pu.list_l, Pu.tup_l, Pu.tup_t, Pu.fCallD, Pu.fConsX, Pu.fNilX, Pu.fArgs, Pu.fIt, Pu.fYes, Bool.not_true, Bool.not_false, ↓reduceIte, e1], rfl⟩) (by rw [List.length_reverse]; exact lim_of (by omega))
  rw [filter_yes] at e
  have en : ps.reverse.map (fun x => iD (m - 2 - x)) = nD (mirN m ps) := by
    unfold nD mirN
    rw [List.map_map]
    rfl
  rw [en] at e
  have hc := count_i h1 h2 (mir_pl hp)
  rw [mir_be hp] at hc
  simp only [Pu.fSeq, Pu.fSet, Pu.fRet, Pu.fDrop, Pu.fIfS, Pu.fNx, Pu.fRetN, Pu.fIf, Pu.fD, Pu.fP, Pu.fT, Pu.fC, Pu.fBin, Pu.fUn, Pu.fUnO, Pu.fLst, Pu.fTup, Pu.fCons, Pu.fNil, Pu.fVar, Pu.fMove, Pu.fIxO, Pu.fSto, Pu.ownL, Pu.peekAt, SV.peek, OB.lockd, SV.toD, SV.toB, Pu.fAndT, Pu.fOrT, Pu.fNotT, Pu.fAndV, Pu.fOrV, Pu.fNotV, Pu.fChn, Pu.fTru, Pu.fTruV, Pu.fIsi, Pu.ok_bind, Pu.er_bind, Pu.no_bind, Pu.ok_toS, Pu.er_toS, Pu.no_toS, Pu.opt_s, Pu.opt_n, Pu.asD_d, Pu.asD_l, Pu.asD_e, Pu.asD_n, Pu.asB_b, Pu.asB_e, Pu.asB_n, List.getElem?_cons_zero, List.getElem?_cons_succ, List.set_cons_zero, List.set_cons_succ, Option.bind_some, Option.bind_none, List.cons_append, List.nil_append, List.replicate, List.length_cons, List.length_nil, if_true, if_false, Bool.false_eq_true, if_pos, Pu.initE, Pu.B, Pu.I, Pu.add_i, Pu.sub_i, Pu.mul_i, Pu.mulC_l, Pu.mulC_r, Pu.mod_i, Pu.fdiv_s, Pu.lt_i, Pu.gt_i, Pu.le_i, Pu.ge_i, Pu.int_i, Pu.neg_i, Pu.pow_i, Pu.len_l, Pu.len_t, Pu.ix_l, Pu.ix_t, Pu.at_0, Pu.at_1, Pu.ixN_0, Pu.ixN_1, Option.map_some, Pu.outO, Bool.or_self, Bool.or_true, Bool.true_or, and_self, and_true, true_and, Pu.tru_b, Pu.tru_t, Pu.isi_tt, Pu.isi_tl, Pu.arg_d, Pu.seq_t, Pu.seq_l, Pu.list_t, Pu.list_l, Pu.tup_l, Pu.tup_t, Pu.fCallD, Pu.fConsX, Pu.fNilX, Pu.fArgs, Pu.fIt, Pu.fYes, Bool.not_true, Bool.not_false, ↓reduceIte, e, hc, ne_i, decide_true]
theorem oth_set {pot : List D} (h2 : m ≤ 30) : (fSet 7 (fUn tupleD (fD (fLc (fArgs rng1D (fCons (fD (fBin subD (fD (fVar 5)) (fC (.int 1)))) (fNil))) (bNm 11) (fT (fBin notInD (fD (fVar 11)) (fD (fVar 4)))) (fD (fVar 11)) [11])))) (envL c (.own none (.lst pot)) s3 (.d (.tuple (nD ps))) (.d (.int (m : Int))) s6 s7 s8) = .nx (envL c (.own none (.lst pot)) s3 (.d (.tuple (nD ps))) (.d (.int (m : Int))) s6 (.d (.tuple (nD (othN m ps)))) s8) := by
  have e := fLc_t (fi := fArgs rng1D (fCons (fD (fBin subD (fD (fVar 5)) (fC (.int 1)))) (fNil))) (bd := bNm 11) (fc := fT (fBin notInD (fD (fVar 11)) (fD (fVar 4)))) (fe := fD (fVar 11)) (vs := [11]) (ρ := envL c (.own none (.lst pot)) s3 (.d (.tuple (nD ps))) (.d (.int (m : Int))) s6 s7 s8) (xs := List.range (m - 1)) (e := iD) (fun p => !decide (p ∈ ps)) iD (fun t => (envL c (.own none (.lst pot)) s3 (.d (.tuple (nD ps))) (.d (.int (m : Int))) s6 s7 s8).set 11 (.d (iD t))) (by
      simp only [Pu.fSeq, Pu.fSet, Pu.fRet, Pu.fDrop, Pu.fIfS, Pu.fNx, Pu.fRetN, Pu.fIf, Pu.fD, Pu.fP, Pu.fT, Pu.fC, Pu.fBin, Pu.fUn, Pu.fUnO, Pu.fLst, Pu.fTup, Pu.fCons, Pu.fNil, Pu.fVar, Pu.fMove, Pu.fIxO, Pu.fSto, Pu.ownL, Pu.peekAt, SV.peek, OB.lockd, SV.toD, SV.toB, Pu.fAndT, Pu.fOrT, Pu.fNotT, Pu.fAndV, Pu.fOrV, Pu.fNotV, Pu.fChn, Pu.fTru, Pu.fTruV, Pu.fIsi, Pu.ok_bind, Pu.er_bind, Pu.no_bind, Pu.ok_toS, Pu.er_toS, Pu.no_toS, Pu.opt_s, Pu.opt_n, Pu.asD_d, Pu.asD_l, Pu.asD_e, Pu.asD_n, Pu.asB_b, Pu.asB_e, Pu.asB_n, List.getElem?_cons_zero, List.getElem?_cons_succ, List.set_cons_zero, List.set_cons_succ, Option.bind_some, Option.bind_none, List.cons_append, List.nil_append, List.replicate, List.length_cons, List.length_nil, if_true, if_false, Bool.false_eq_true, if_pos, Pu.initE, Pu.B, Pu.I, Pu.add_i, Pu.sub_i, Pu.mul_i, Pu.mulC_l, Pu.mulC_r, Pu.mod_i, Pu.fdiv_s, Pu.lt_i, Pu.gt_i, Pu.le_i, Pu.ge_i, Pu.int_i, Pu.neg_i, Pu.pow_i, Pu.len_l, Pu.len_t, Pu.ix_l, Pu.ix_t, Pu.at_0, Pu.at_1, Pu.ixN_0, Pu.ixN_1, Option.map_some, Pu.outO, Bool.or_self, Bool.or_true, Bool.true_or, and_self, and_true, true_and, Pu.tru_b, Pu.tru_t, Pu.isi_tt, Pu.isi_tl, Pu.arg_d, Pu.seq_t, Pu.seq_l, Pu.list_t, Pu.list_l, Pu.tup_l, Pu.tup_t, Pu.fCallD, Pu.fConsX, Pu.fNilX, Pu.fArgs, Pu.fIt, Pu.fYes, Bool.not_true, Bool.not_false, ↓reduceIte, rng1_m1 (n := m) (by omega)]) rfl (fun t ht => ⟨rfl, by
      show fT _ [.un, .d (.int c), .own none (.lst pot), s3, .d (.tuple (nD ps)), .d (.int (m : Int)), s6, s7, s8, .un, .un, .d (iD t)] = .ok _ [.un, .d (.int c), .own none (.lst pot), s3, .d (.tuple (nD ps)), .d (.int (m : Int)), s6, s7, s8, .un, .un, .d (iD t)]
      simp only [Pu.fSeq, Pu.fSet, Pu.fRet, Pu.fDrop, Pu.fIfS, Pu.fNx, Pu.fRetN, Pu.fIf, Pu.fD, Pu.fP, Pu.fT, Pu.fC, Pu.fBin, Pu.fUn, Pu.fUnO, Pu.fLst, Pu.fTup, Pu.fCons, Pu.fNil, Pu.fVar, Pu.fMove, Pu.fIxO, Pu.fSto, Pu.ownL, Pu.peekAt, SV.peek, OB.lockd, SV.toD, SV.toB, Pu.fAndT, Pu.fOrT, Pu.fNotT, Pu.fAndV, Pu.fOrV, Pu.fNotV, Pu.fChn, Pu.fTru, Pu.fTruV, Pu.fIsi, Pu.ok_bind, Pu.er_bind, Pu.no_bind, Pu.ok_toS, Pu.er_toS, Pu.no_toS, Pu.opt_s, Pu.opt_n, Pu.asD_d, Pu.asD_l, Pu.asD_e, Pu.asD_n, Pu.asB_b, Pu.asB_e, Pu.asB_n, List.getElem?_cons_zero, List.getElem?_cons_succ, List.set_cons_zero, List.set_cons_succ, Option.bind_some, Option.bind_none, List.cons_append, List.nil_append, List.replicate, List.length_cons, List.length_nil, if_true, if_false, Bool.false_eq_true, if_pos, Pu.initE, Pu.B, Pu.I, Pu.add_i, Pu.sub_i, Pu.mul_i, Pu.mulC_l, Pu.mulC_r, Pu.mod_i, Pu.fdiv_s, Pu.lt_i, Pu.gt_i, Pu.le_i, Pu.ge_i, Pu.int_i, Pu.neg_i, Pu.pow_i, Pu.len_l, Pu.len_t, Pu.ix_l, Pu.ix_t, Pu.at_0, Pu.at_1, Pu.ixN_0, Pu.ixN_1, Option.map_some, Pu.outO, Bool.or_self, Bool.or_true, Bool.true_or, and_self, and_true, true_and, Pu.tru_b, Pu.tru_t, Pu.isi_tt, Pu.isi_tl, Pu.arg_d, Pu.seq_t, Pu.seq_l, Pu.list_t, Pu.list_l, Pu.tup_l, Pu.tup_t, Pu.fCallD, Pu.fConsX, Pu.fNilX, Pu.fArgs, Pu.fIt, Pu.fYes, Bool.not_true, Bool.not_false, ↓reduceIte, nin_n], fun _ => rfl, rfl⟩) (by rw [List.length_range]; exact lim_of (by omega))
  simp only [Pu.fSeq, Pu.fSet, Pu.fRet, Pu.fDrop, Pu.fIfS, Pu.fNx, Pu.fRetN, Pu.fIf, Pu.fD, Pu.fP, Pu.fT, Pu.fC, Pu.fBin, Pu.fUn, Pu.fUnO, Pu.fLst, Pu.fTup, Pu.fCons, Pu.fNil, Pu.fVar, Pu.fMove, Pu.fIxO, Pu.fSto, Pu.ownL, Pu.peekAt, SV.peek, OB.lockd, SV.toD, SV.toB, Pu.fAndT, Pu.fOrT, Pu.fNotT, Pu.fAndV, Pu.fOrV, Pu.fNotV, Pu.fChn, Pu.fTru, Pu.fTruV, Pu.fIsi, Pu.ok_bind, Pu.er_bind, Pu.no_bind, Pu.ok_toS, Pu.er_toS, Pu.no_toS, Pu.opt_s, Pu.opt_n, Pu.asD_d, Pu.asD_l, Pu.asD_e, Pu.asD_n, Pu.asB_b, Pu.asB_e, Pu.asB_n, List.getElem?_cons_zero, List.getElem?_cons_succ, List.set_cons_zero, List.set_cons_succ, Option.bind_some, Option.bind_none, List.cons_append, List.nil_append, List.replicate, List.length_cons, List.length_nil, if_true, if_false, Bool.false_eq_true, if_pos, Pu.initE, Pu.B, Pu.I, Pu.add_i, Pu.sub_i, Pu.mul_i, Pu.mulC_l, Pu.mulC_r, Pu.mod_i, Pu.fdiv_s, Pu.lt_i, Pu.gt_i, Pu.le_i, Pu.ge_i, Pu.int_i, Pu.neg_i, Pu.pow_i, Pu.len_l, Pu.len_t, Pu.ix_l, Pu.ix_t, Pu.at_0, Pu.at_1, Pu.ixN_0, Pu.ixN_1, Option.map_some, Pu.outO, Bool.or_self, Bool.or_true, Bool.true_or, and_self, and_true, true_and, Pu.tru_b, Pu.tru_t, Pu.isi_tt, Pu.isi_tl, Pu.arg_d, Pu.seq_t, Pu.seq_l, Pu.list_t, Pu.list_l, Pu.tup_l, Pu.tup_t, Pu.fCallD, Pu.fConsX, Pu.fNilX, Pu.fArgs, Pu.fIt, Pu.fYes, Bool.not_true, Bool.not_false, ↓reduceIte, e]
  rfl
end
end Lw
/-! JkY -/
set_option maxRecDepth 10000
namespace Lw
open PySem PySem.Spec PyProof.Rows L2 WoK LamX Pu
theorem lim_8 : 0 + 1 + 1 + 1 + 1 + 1 + 1 + 1 + 1 ≤ LIM := by unfold LIM; omega
theorem lim_4 : 0 + 1 + 1 + 1 + 1 ≤ LIM := by unfold LIM; omega
theorem lim_n8 : (8 : Nat) ≤ LIM := by unfold LIM; omega
theorem lim_n4 : (4 : Nat) ≤ LIM := by unfold LIM; omega
theorem lim_n3 : (3 : Nat) ≤ LIM := by unfold LIM; omega
theorem lim_n2 : (2 : Nat) ≤ LIM := by unfold LIM; omega
theorem lim_n1 : (1 : Nat) ≤ LIM := by unfold LIM; omega
theorem lawB_is {c : Int} {s2 s3 s4 s5 s6 s7 s8 : SV} : ∃ x2 x3 x4 x5 x6 x7 x8, g_lawB lab (envL c s2 s3 s4 s5 s6 s7 s8) = .nx (envL c x2 x3 x4 x5 x6 x7 x8) := by
  obtain ⟨p0, e0, hp0⟩ := drum_is c
  obtain ⟨p1, k, e1, hp1, hk⟩ := roll_n (n := 5) hp0 (by omega) (by omega)
  obtain ⟨few, hfew⟩ : ∃ few : Nat, few = 1 + k := ⟨_, rfl⟩
  have hf2 : (1 : Int) + (k : Int) = (few : Int) := by omega
  obtain ⟨p2, qs, e2, hp2, hqs⟩ := places_is (m := few) (b := 2) hp1 (by omega) (by omega) (by omega)
  obtain ⟨p3, d, e3, hp3, hd⟩ := one_is (ds := nD [5, 8, 13, 30]) hp2 (nD_ne (by decide)) (by decide)
  obtain ⟨m, hm, rfl⟩ := List.mem_map.mp hd
  have h12 : 1 ≤ m ∧ m ≤ 30 := by
    have : ∀ k ∈ ([5, 8, 13, 30] : List Nat), 1 ≤ k ∧ k ≤ 30 := by decide
    exact this m hm
  obtain ⟨h1, h2⟩ := h12
  obtain ⟨p4, rs, e4, hp4, hrs⟩ := places_is (m := m) (b := 3) hp3 (by omega) (by omega) h2
  have hpl : IsPl m (rs.take 6) := (pl_sub hrs).sub (List.take_sublist 6 rs)
  have hl6 : (rs.take 6).length ≤ 6 := by
    rw [List.length_take]
    exact Nat.min_le_left _ _
  have e1 : F__law_roll (.lst p0) [.d (.int 5)] = .ok (.d (iD k)) (some (.lst p1)) := e1
  have e2 : F__law_places (.lst p1) [.d (.int (few : Int)), .d (.int 2)] = .ok (.d (.tuple (nD qs))) (some (.lst p2)) := e2
  have e3 : F__law_some (.lst p2) [.d (.list [.int 5, .int 8, .int 13, .int 30])] = .ok (.d (iD m)) (some (.lst p3)) := e3
  have e4 : F__law_places (.lst p3) [.d (.int (m : Int)), .d (.int 3)] = .ok (.d (.tuple (nD rs))) (some (.lst p4)) := e4
  obtain ⟨y1, l1⟩ := loop1 (c := c) (s2 := .own none (.lst p4)) (s3 := .d (.int (few : Int))) (s4 := .d (.tuple (nD (rs.take 6)))) (s6 := .d (iD (beN (wdN m (rs.take 6))))) (s7 := .d (.tuple (nD (othN m (rs.take 6))))) (s8 := s8) hm
  obtain ⟨y2, l2⟩ := loop2 (c := c) (s2 := .own none (.lst p4)) (s3 := .d (.int (few : Int))) (s4 := .d (.tuple (nD (rs.take 6)))) (s5 := .d (.int (m : Int))) (s6 := .d (iD (beN (wdN m (rs.take 6))))) (s7 := .d (.tuple (nD (othN m (rs.take 6))))) (s8 := y1)
  have hoth := count_i h1 h2 (oth_pl (m := m) (ps := rs.take 6))
  rw [oth_be] at hoth
  have hpos := be_pos (wdN m (rs.take 6))
  refine ⟨.own none (.lst p4), .d (.int (few : Int)), .d (.tuple (nD (rs.take 6))), .d (.int (m : Int)), .d (iD (beN (wdN m (rs.take 6)))), .d (.tuple (nD (othN m (rs.take 6)))), y2, ?_⟩
  unfold g_lawB
  rw [seq_nx (ρ' := envL c (.own none (.lst p0)) s3 s4 s5 s6 s7 s8) (by simp only [Pu.fSeq, Pu.fSet, Pu.fRet, Pu.fDrop, Pu.fIfS, Pu.fNx, Pu.fRetN, Pu.fIf, Pu.fD, Pu.fP, Pu.fT, Pu.fC, Pu.fBin, Pu.fUn, Pu.fUnO, Pu.fLst, Pu.fTup, Pu.fCons, Pu.fNil, Pu.fVar, Pu.fMove, Pu.fIxO, Pu.fSto, Pu.ownL, Pu.peekAt, SV.peek, OB.lockd, SV.toD, SV.toB, Pu.fAndT, Pu.fOrT, Pu.fNotT, Pu.fAndV, Pu.fOrV, Pu.fNotV, Pu.fChn, Pu.fTru, Pu.fTruV, Pu.fIsi, Pu.ok_bind, Pu.er_bind, Pu.no_bind, Pu.ok_toS, Pu.er_toS, Pu.no_toS, Pu.opt_s, Pu.opt_n, Pu.asD_d, Pu.asD_l, Pu.asD_e, Pu.asD_n, Pu.asB_b, Pu.asB_e, Pu.asB_n, List.getElem?_cons_zero, List.getElem?_cons_succ, List.set_cons_zero, List.set_cons_succ, Option.bind_some, Option.bind_none, List.cons_append, List.nil_append, List.replicate, List.length_cons, List.length_nil, if_true, if_false, Bool.false_eq_true, if_pos, Pu.initE, Pu.B, Pu.I, Pu.add_i, Pu.sub_i, Pu.mul_i, Pu.mulC_l, Pu.mulC_r, Pu.mod_i, Pu.fdiv_s, Pu.lt_i, Pu.gt_i, Pu.le_i, Pu.ge_i, Pu.int_i, Pu.neg_i, Pu.pow_i, Pu.len_l, Pu.len_t, Pu.ix_l, Pu.ix_t, Pu.at_0, Pu.at_1, Pu.ixN_0, Pu.ixN_1, Option.map_some, Pu.outO, Bool.or_self, Bool.or_true, Bool.true_or, and_self, and_true, true_and, Pu.tru_b, Pu.tru_t, Pu.isi_tt, Pu.isi_tl, Pu.arg_d, Pu.seq_t, Pu.seq_l, Pu.list_t, Pu.list_l, Pu.tup_l, Pu.tup_t, Pu.fCallD, Pu.fConsX, Pu.fNilX, Pu.fArgs, Pu.fIt, Pu.fYes, Bool.not_true, Bool.not_false, ↓reduceIte, e0])]
  rw [seq_nx (ρ' := envL c (.own none (.lst p1)) (.d (.int (few : Int))) s4 s5 s6 s7 s8) (by simp only [Pu.fSeq, Pu.fSet, Pu.fRet, Pu.fDrop, Pu.fIfS, Pu.fNx, Pu.fRetN, Pu.fIf, Pu.fD, Pu.fP, Pu.fT, Pu.fC, Pu.fBin, Pu.fUn, Pu.fUnO, Pu.fLst, Pu.fTup, Pu.fCons, Pu.fNil, Pu.fVar, Pu.fMove, Pu.fIxO, Pu.fSto, Pu.ownL, Pu.peekAt, SV.peek, OB.lockd, SV.toD, SV.toB, Pu.fAndT, Pu.fOrT, Pu.fNotT, Pu.fAndV, Pu.fOrV, Pu.fNotV, Pu.fChn, Pu.fTru, Pu.fTruV, Pu.fIsi, Pu.ok_bind, Pu.er_bind, Pu.no_bind, Pu.ok_toS, Pu.er_toS, Pu.no_toS, Pu.opt_s, Pu.opt_n, Pu.asD_d, Pu.asD_l, Pu.asD_e, Pu.asD_n, Pu.asB_b, Pu.asB_e, Pu.asB_n, List.getElem?_cons_zero, List.getElem?_cons_succ, List.set_cons_zero, List.set_cons_succ, Option.bind_some, Option.bind_none, List.cons_append, List.nil_append, List.replicate, List.length_cons, List.length_nil, if_true, if_false, Bool.false_eq_true, if_pos, Pu.initE, Pu.B, Pu.I, Pu.add_i, Pu.sub_i, Pu.mul_i, Pu.mulC_l, Pu.mulC_r, Pu.mod_i, Pu.fdiv_s, Pu.lt_i, Pu.gt_i, Pu.le_i, Pu.ge_i, Pu.int_i, Pu.neg_i, Pu.pow_i, Pu.len_l, Pu.len_t, Pu.ix_l, Pu.ix_t, Pu.at_0, Pu.at_1, Pu.ixN_0, Pu.ixN_1, Option.map_some, Pu.outO, Bool.or_self, Bool.or_true, Bool.true_or, and_self, and_true, true_and, Pu.tru_b, Pu.tru_t, Pu.isi_tt, Pu.isi_tl, Pu.arg_d, Pu.seq_t, Pu.seq_l, Pu.list_t, Pu.list_l, Pu.tup_l, Pu.tup_t, Pu.fCallD, Pu.fConsX, Pu.fNilX, Pu.fArgs, Pu.fIt, Pu.fYes, Bool.not_true, Bool.not_false, ↓reduceIte, fCallO, e1, hf2])]
  rw [seq_nx (ρ' := envL c (.own none (.lst p2)) (.d (.int (few : Int))) (.d (.tuple (nD qs))) s5 s6 s7 s8) (by simp only [Pu.fSeq, Pu.fSet, Pu.fRet, Pu.fDrop, Pu.fIfS, Pu.fNx, Pu.fRetN, Pu.fIf, Pu.fD, Pu.fP, Pu.fT, Pu.fC, Pu.fBin, Pu.fUn, Pu.fUnO, Pu.fLst, Pu.fTup, Pu.fCons, Pu.fNil, Pu.fVar, Pu.fMove, Pu.fIxO, Pu.fSto, Pu.ownL, Pu.peekAt, SV.peek, OB.lockd, SV.toD, SV.toB, Pu.fAndT, Pu.fOrT, Pu.fNotT, Pu.fAndV, Pu.fOrV, Pu.fNotV, Pu.fChn, Pu.fTru, Pu.fTruV, Pu.fIsi, Pu.ok_bind, Pu.er_bind, Pu.no_bind, Pu.ok_toS, Pu.er_toS, Pu.no_toS, Pu.opt_s, Pu.opt_n, Pu.asD_d, Pu.asD_l, Pu.asD_e, Pu.asD_n, Pu.asB_b, Pu.asB_e, Pu.asB_n, List.getElem?_cons_zero, List.getElem?_cons_succ, List.set_cons_zero, List.set_cons_succ, Option.bind_some, Option.bind_none, List.cons_append, List.nil_append, List.replicate, List.length_cons, List.length_nil, if_true, if_false, Bool.false_eq_true, if_pos, Pu.initE, Pu.B, Pu.I, Pu.add_i, Pu.sub_i, Pu.mul_i, Pu.mulC_l, Pu.mulC_r, Pu.mod_i, Pu.fdiv_s, Pu.lt_i, Pu.gt_i, Pu.le_i, Pu.ge_i, Pu.int_i, Pu.neg_i, Pu.pow_i, Pu.len_l, Pu.len_t, Pu.ix_l, Pu.ix_t, Pu.at_0, Pu.at_1, Pu.ixN_0, Pu.ixN_1, Option.map_some, Pu.outO, Bool.or_self, Bool.or_true, Bool.true_or, and_self, and_true, true_and, Pu.tru_b, Pu.tru_t, Pu.isi_tt, Pu.isi_tl, Pu.arg_d, Pu.seq_t, Pu.seq_l, Pu.list_t, Pu.list_l, Pu.tup_l, Pu.tup_t, Pu.fCallD, Pu.fConsX, Pu.fNilX, Pu.fArgs, Pu.fIt, Pu.fYes, Bool.not_true, Bool.not_false, ↓reduceIte, fCallO, e2])]
  rw [seq_nx (few_cmp (by omega) (by omega) hqs)]
  rw [seq_nx (ρ' := envL c (.own none (.lst p3)) (.d (.int (few : Int))) (.d (.tuple (nD qs))) (.d (.int (m : Int))) s6 s7 s8) (by simp only [Pu.fSeq, Pu.fSet, Pu.fRet, Pu.fDrop, Pu.fIfS, Pu.fNx, Pu.fRetN, Pu.fIf, Pu.fD, Pu.fP, Pu.fT, Pu.fC, Pu.fBin, Pu.fUn, Pu.fUnO, Pu.fLst, Pu.fTup, Pu.fCons, Pu.fNil, Pu.fVar, Pu.fMove, Pu.fIxO, Pu.fSto, Pu.ownL, Pu.peekAt, SV.peek, OB.lockd, SV.toD, SV.toB, Pu.fAndT, Pu.fOrT, Pu.fNotT, Pu.fAndV, Pu.fOrV, Pu.fNotV, Pu.fChn, Pu.fTru, Pu.fTruV, Pu.fIsi, Pu.ok_bind, Pu.er_bind, Pu.no_bind, Pu.ok_toS, Pu.er_toS, Pu.no_toS, Pu.opt_s, Pu.opt_n, Pu.asD_d, Pu.asD_l, Pu.asD_e, Pu.asD_n, Pu.asB_b, Pu.asB_e, Pu.asB_n, List.getElem?_cons_zero, List.getElem?_cons_succ, List.set_cons_zero, List.set_cons_succ, Option.bind_some, Option.bind_none, List.cons_append, List.nil_append, List.replicate, List.length_cons, List.length_nil, if_true, if_false, Bool.false_eq_true, if_pos, Pu.initE, Pu.B, Pu.I, Pu.add_i, Pu.sub_i, Pu.mul_i, Pu.mulC_l, Pu.mulC_r, Pu.mod_i, Pu.fdiv_s, Pu.lt_i, Pu.gt_i, Pu.le_i, Pu.ge_i, Pu.int_i, Pu.neg_i, Pu.pow_i, Pu.len_l, Pu.len_t, Pu.ix_l, Pu.ix_t, Pu.at_0, Pu.at_1, Pu.ixN_0, Pu.ixN_1, Option.map_some, Pu.outO, Bool.or_self, Bool.or_true, Bool.true_or, and_self, and_true, true_and, Pu.tru_b, Pu.tru_t, Pu.isi_tt, Pu.isi_tl, Pu.arg_d, Pu.seq_t, Pu.seq_l, Pu.list_t, Pu.list_l, Pu.tup_l, Pu.tup_t, Pu.fCallD, Pu.fConsX, Pu.fNilX, Pu.fArgs, Pu.fIt, Pu.fYes, Bool.not_true, Bool.not_false, ↓reduceIte, fCallO, lim_4, lim_n4, e3])]
  rw [seq_nx (ρ' := envL c (.own none (.lst p4)) (.d (.int (few : Int))) (.d (.tuple (nD (rs.take 6)))) (.d (.int (m : Int))) s6 s7 s8) (by simp only [Pu.fSeq, Pu.fSet, Pu.fRet, Pu.fDrop, Pu.fIfS, Pu.fNx, Pu.fRetN, Pu.fIf, Pu.fD, Pu.fP, Pu.fT, Pu.fC, Pu.fBin, Pu.fUn, Pu.fUnO, Pu.fLst, Pu.fTup, Pu.fCons, Pu.fNil, Pu.fVar, Pu.fMove, Pu.fIxO, Pu.fSto, Pu.ownL, Pu.peekAt, SV.peek, OB.lockd, SV.toD, SV.toB, Pu.fAndT, Pu.fOrT, Pu.fNotT, Pu.fAndV, Pu.fOrV, Pu.fNotV, Pu.fChn, Pu.fTru, Pu.fTruV, Pu.fIsi, Pu.ok_bind, Pu.er_bind, Pu.no_bind, Pu.ok_toS, Pu.er_toS, Pu.no_toS, Pu.opt_s, Pu.opt_n, Pu.asD_d, Pu.asD_l, Pu.asD_e, Pu.asD_n, Pu.asB_b, Pu.asB_e, Pu.asB_n, List.getElem?_cons_zero, List.getElem?_cons_succ, List.set_cons_zero, List.set_cons_succ, Option.bind_some, Option.bind_none, List.cons_append, List.nil_append, List.replicate, List.length_cons, List.length_nil, if_true, if_false, Bool.false_eq_true, if_pos, Pu.initE, Pu.B, Pu.I, Pu.add_i, Pu.sub_i, Pu.mul_i, Pu.mulC_l, Pu.mulC_r, Pu.mod_i, Pu.fdiv_s, Pu.lt_i, Pu.gt_i, Pu.le_i, Pu.ge_i, Pu.int_i, Pu.neg_i, Pu.pow_i, Pu.len_l, Pu.len_t, Pu.ix_l, Pu.ix_t, Pu.at_0, Pu.at_1, Pu.ixN_0, Pu.ixN_1, Option.map_some, Pu.outO, Bool.or_self, Bool.or_true, Bool.true_or, and_self, and_true, true_and, Pu.tru_b, Pu.tru_t, Pu.isi_tt, Pu.isi_tl, Pu.arg_d, Pu.seq_t, Pu.seq_l, Pu.list_t, Pu.list_l, Pu.tup_l, Pu.tup_t, Pu.fCallD, Pu.fConsX, Pu.fNilX, Pu.fArgs, Pu.fIt, Pu.fYes, Bool.not_true, Bool.not_false, ↓reduceIte, fCallO, e4, fSl, fPart, fNoPart, D.toI, sl_6])]
  rw [seq_nx (sum_cmp h1 h2 hpl hl6)]
  rw [seq_nx (ρ' := envL c (.own none (.lst p4)) (.d (.int (few : Int))) (.d (.tuple (nD (rs.take 6)))) (.d (.int (m : Int))) (.d (iD (beN (wdN m (rs.take 6))))) s7 s8) (by simp only [Pu.fSeq, Pu.fSet, Pu.fRet, Pu.fDrop, Pu.fIfS, Pu.fNx, Pu.fRetN, Pu.fIf, Pu.fD, Pu.fP, Pu.fT, Pu.fC, Pu.fBin, Pu.fUn, Pu.fUnO, Pu.fLst, Pu.fTup, Pu.fCons, Pu.fNil, Pu.fVar, Pu.fMove, Pu.fIxO, Pu.fSto, Pu.ownL, Pu.peekAt, SV.peek, OB.lockd, SV.toD, SV.toB, Pu.fAndT, Pu.fOrT, Pu.fNotT, Pu.fAndV, Pu.fOrV, Pu.fNotV, Pu.fChn, Pu.fTru, Pu.fTruV, Pu.fIsi, Pu.ok_bind, Pu.er_bind, Pu.no_bind, Pu.ok_toS, Pu.er_toS, Pu.no_toS, Pu.opt_s, Pu.opt_n, Pu.asD_d, Pu.asD_l, Pu.asD_e, Pu.asD_n, Pu.asB_b, Pu.asB_e, Pu.asB_n, List.getElem?_cons_zero, List.getElem?_cons_succ, List.set_cons_zero, List.set_cons_succ, Option.bind_some, Option.bind_none, List.cons_append, List.nil_append, List.replicate, List.length_cons, List.length_nil, if_true, if_false, Bool.false_eq_true, if_pos, Pu.initE, Pu.B, Pu.I, Pu.add_i, Pu.sub_i, Pu.mul_i, Pu.mulC_l, Pu.mulC_r, Pu.mod_i, Pu.fdiv_s, Pu.lt_i, Pu.gt_i, Pu.le_i, Pu.ge_i, Pu.int_i, Pu.neg_i, Pu.pow_i, Pu.len_l, Pu.len_t, Pu.ix_l, Pu.ix_t, Pu.at_0, Pu.at_1, Pu.ixN_0, Pu.ixN_1, Option.map_some, Pu.outO, Bool.or_self, Bool.or_true, Bool.true_or, and_self, and_true, true_and, Pu.tru_b, Pu.tru_t, Pu.isi_tt, Pu.isi_tl, Pu.arg_d, Pu.seq_t, Pu.seq_l, Pu.list_t, Pu.list_l, Pu.tup_l, Pu.tup_t, Pu.fCallD, Pu.fConsX, Pu.fNilX, Pu.fArgs, Pu.fIt, Pu.fYes, Bool.not_true, Bool.not_false, ↓reduceIte, count_i h1 h2 hpl])]
  rw [seq_nx (mir_cmp h1 h2 hpl)]
  rw [seq_nx (oth_set h2)]
  rw [seq_nx (ρ' := envL c (.own none (.lst p4)) (.d (.int (few : Int))) (.d (.tuple (nD (rs.take 6)))) (.d (.int (m : Int))) (.d (iD (beN (wdN m (rs.take 6))))) (.d (.tuple (nD (othN m (rs.take 6))))) s8) (by
    simp only [Pu.fSeq, Pu.fSet, Pu.fRet, Pu.fDrop, Pu.fIfS, Pu.fNx, Pu.fRetN, Pu.fIf, Pu.fD, Pu.fP, Pu.fT, Pu.fC, Pu.fBin, Pu.fUn, Pu.fUnO, Pu.fLst, Pu.fTup, Pu.fCons, Pu.fNil, Pu.fVar, Pu.fMove, Pu.fIxO, Pu.fSto, Pu.ownL, Pu.peekAt, SV.peek, OB.lockd, SV.toD, SV.toB, Pu.fAndT, Pu.fOrT, Pu.fNotT, Pu.fAndV, Pu.fOrV, Pu.fNotV, Pu.fChn, Pu.fTru, Pu.fTruV, Pu.fIsi, Pu.ok_bind, Pu.er_bind, Pu.no_bind, Pu.ok_toS, Pu.er_toS, Pu.no_toS, Pu.opt_s, Pu.opt_n, Pu.asD_d, Pu.asD_l, Pu.asD_e, Pu.asD_n, Pu.asB_b, Pu.asB_e, Pu.asB_n, List.getElem?_cons_zero, List.getElem?_cons_succ, List.set_cons_zero, List.set_cons_succ, Option.bind_some, Option.bind_none, List.cons_append, List.nil_append, List.replicate, List.length_cons, List.length_nil, if_true, if_false, Bool.false_eq_true, if_pos, Pu.initE, Pu.B, Pu.I, Pu.add_i, Pu.sub_i, Pu.mul_i, Pu.mulC_l, Pu.mulC_r, Pu.mod_i, Pu.fdiv_s, Pu.lt_i, Pu.gt_i, Pu.le_i, Pu.ge_i, Pu.int_i, Pu.neg_i, Pu.pow_i, Pu.len_l, Pu.len_t, Pu.ix_l, Pu.ix_t, Pu.at_0, Pu.at_1, Pu.ixN_0, Pu.ixN_1, Option.map_some, Pu.outO, Bool.or_self, Bool.or_true, Bool.true_or, and_self, and_true, true_and, Pu.tru_b, Pu.tru_t, Pu.isi_tt, Pu.isi_tl, Pu.arg_d, Pu.seq_t, Pu.seq_l, Pu.list_t, Pu.list_l, Pu.tup_l, Pu.tup_t, Pu.fCallD, Pu.fConsX, Pu.fNilX, Pu.fArgs, Pu.fIt, Pu.fYes, Bool.not_true, Bool.not_false, ↓reduceIte, hoth, ne_i, decide_true, decide_eq_false (show ¬ ((beN (wdN m (rs.take 6)) : Nat) : Int) < 1 by omega)])]
  rw [seq_nx (fFor_nx (ds := odds m) (by
    simp only [Pu.fSeq, Pu.fSet, Pu.fRet, Pu.fDrop, Pu.fIfS, Pu.fNx, Pu.fRetN, Pu.fIf, Pu.fD, Pu.fP, Pu.fT, Pu.fC, Pu.fBin, Pu.fUn, Pu.fUnO, Pu.fLst, Pu.fTup, Pu.fCons, Pu.fNil, Pu.fVar, Pu.fMove, Pu.fIxO, Pu.fSto, Pu.ownL, Pu.peekAt, SV.peek, OB.lockd, SV.toD, SV.toB, Pu.fAndT, Pu.fOrT, Pu.fNotT, Pu.fAndV, Pu.fOrV, Pu.fNotV, Pu.fChn, Pu.fTru, Pu.fTruV, Pu.fIsi, Pu.ok_bind, Pu.er_bind, Pu.no_bind, Pu.ok_toS, Pu.er_toS, Pu.no_toS, Pu.opt_s, Pu.opt_n, Pu.asD_d, Pu.asD_l, Pu.asD_e, Pu.asD_n, Pu.asB_b, Pu.asB_e, Pu.asB_n, List.getElem?_cons_zero, List.getElem?_cons_succ, List.set_cons_zero, List.set_cons_succ, Option.bind_some, Option.bind_none, List.cons_append, List.nil_append, List.replicate, List.length_cons, List.length_nil, if_true, if_false, Bool.false_eq_true, if_pos, Pu.initE, Pu.B, Pu.I, Pu.add_i, Pu.sub_i, Pu.mul_i, Pu.mulC_l, Pu.mulC_r, Pu.mod_i, Pu.fdiv_s, Pu.lt_i, Pu.gt_i, Pu.le_i, Pu.ge_i, Pu.int_i, Pu.neg_i, Pu.pow_i, Pu.len_l, Pu.len_t, Pu.ix_l, Pu.ix_t, Pu.at_0, Pu.at_1, Pu.ixN_0, Pu.ixN_1, Option.map_some, Pu.outO, Bool.or_self, Bool.or_true, Bool.true_or, and_self, and_true, true_and, Pu.tru_b, Pu.tru_t, Pu.isi_tt, Pu.isi_tl, Pu.arg_d, Pu.seq_t, Pu.seq_l, Pu.list_t, Pu.list_l, Pu.tup_l, Pu.tup_t, Pu.fCallD, Pu.fConsX, Pu.fNilX, Pu.fArgs, Pu.fIt, Pu.fYes, Bool.not_true, Bool.not_false, ↓reduceIte, sub_1 h1, lim_1, lim_2, lim_8, lim_n8, lim_n2, lim_n1]
    rfl) l1)]
  exact fFor_nx (ds := odds2) (by
    simp only [Pu.fSeq, Pu.fSet, Pu.fRet, Pu.fDrop, Pu.fIfS, Pu.fNx, Pu.fRetN, Pu.fIf, Pu.fD, Pu.fP, Pu.fT, Pu.fC, Pu.fBin, Pu.fUn, Pu.fUnO, Pu.fLst, Pu.fTup, Pu.fCons, Pu.fNil, Pu.fVar, Pu.fMove, Pu.fIxO, Pu.fSto, Pu.ownL, Pu.peekAt, SV.peek, OB.lockd, SV.toD, SV.toB, Pu.fAndT, Pu.fOrT, Pu.fNotT, Pu.fAndV, Pu.fOrV, Pu.fNotV, Pu.fChn, Pu.fTru, Pu.fTruV, Pu.fIsi, Pu.ok_bind, Pu.er_bind, Pu.no_bind, Pu.ok_toS, Pu.er_toS, Pu.no_toS, Pu.opt_s, Pu.opt_n, Pu.asD_d, Pu.asD_l, Pu.asD_e, Pu.asD_n, Pu.asB_b, Pu.asB_e, Pu.asB_n, List.getElem?_cons_zero, List.getElem?_cons_succ, List.set_cons_zero, List.set_cons_succ, Option.bind_some, Option.bind_none, List.cons_append, List.nil_append, List.replicate, List.length_cons, List.length_nil, if_true, if_false, Bool.false_eq_true, if_pos, Pu.initE, Pu.B, Pu.I, Pu.add_i, Pu.sub_i, Pu.mul_i, Pu.mulC_l, Pu.mulC_r, Pu.mod_i, Pu.fdiv_s, Pu.lt_i, Pu.gt_i, Pu.le_i, Pu.ge_i, Pu.int_i, Pu.neg_i, Pu.pow_i, Pu.len_l, Pu.len_t, Pu.ix_l, Pu.ix_t, Pu.at_0, Pu.at_1, Pu.ixN_0, Pu.ixN_1, Option.map_some, Pu.outO, Bool.or_self, Bool.or_true, Bool.true_or, and_self, and_true, true_and, Pu.tru_b, Pu.tru_t, Pu.isi_tt, Pu.isi_tl, Pu.arg_d, Pu.seq_t, Pu.seq_l, Pu.list_t, Pu.list_l, Pu.tup_l, Pu.tup_t, Pu.fCallD, Pu.fConsX, Pu.fNilX, Pu.fArgs, Pu.fIt, Pu.fYes, Bool.not_true, Bool.not_false, ↓reduceIte, lim_4, lim_n4]
    rfl) l2
end Lw
/-! JkZ -/
set_option maxRecDepth 10000
namespace Lw
open PySem PySem.Spec PyProof.Rows L2 WoK LamX Pu
theorem k1 : F_count_falls_at [.d (.int 3), .d (.tuple [])] = .ok (.d (.int 1)) none := by kernel_rfl
theorem k2 : F_count_falls_at [.d (.int 3), .d (.tuple [.int 1])] = .ok (.d (.int 2)) none := by kernel_rfl
theorem k3 : F_count_falls_at [.d (.int 4), .d (.tuple [.int 1])] = .ok (.d (.int 5)) none := by kernel_rfl
theorem k4 : F_count_falls_at [.d (.int 5), .d (.tuple [.int 1, .int 3])] = .ok (.d (.int 16)) none := by kernel_rfl
theorem k5 : F_count_falls_at [.d (.int 1), .d (.tuple [])] = .ok (.d (.int 1)) none := by kernel_rfl
theorem k6 : F_count_falls_at [.d (.int 30), .d (.tuple (nD (List.range 29)))] = .ok (.d (.int 1)) none := by kernel_rfl
theorem k7 : lrgD (fun xs => .d (.tuple xs)) [.int 29] = some (.d (.tuple (nD (List.range 29)))) := lrg_i (m := 29) (by omega)
theorem k8 : neD (.list [.int 1, .int 2, .int 5]) (.list [.int 1, .int 2, .int 5]) = some (.d (.bool false)) := ne_of (d := .list (nD [1, 2, 5])) rfl pl_l dp_l
theorem lim_3 : 0 + 1 + 1 + 1 ≤ LIM := by unfold LIM; omega
theorem lawR_is {x1 s2 s3 s4 s5 s6 s7 s8 : SV} : LawRt (g_lawR lab [.un, x1, s2, s3, s4, s5, s6, s7, s8, .un, .un, .un]) := by
  refine ⟨[.un, x1, s2, s3, s4, s5, s6, s7, s8, .un, .un, .un], ?_⟩
  unfold g_lawR
  rw [seq_nx (ρ' := [.un, x1, s2, s3, s4, s5, s6, s7, s8, .un, .un, .un]) (by simp only [Pu.fSeq, Pu.fSet, Pu.fRet, Pu.fDrop, Pu.fIfS, Pu.fNx, Pu.fRetN, Pu.fIf, Pu.fD, Pu.fP, Pu.fT, Pu.fC, Pu.fBin, Pu.fUn, Pu.fUnO, Pu.fLst, Pu.fTup, Pu.fCons, Pu.fNil, Pu.fVar, Pu.fMove, Pu.fIxO, Pu.fSto, Pu.ownL, Pu.peekAt, SV.peek, OB.lockd, SV.toD, SV.toB, Pu.fAndT, Pu.fOrT, Pu.fNotT, Pu.fAndV, Pu.fOrV, Pu.fNotV, Pu.fChn, Pu.fTru, Pu.fTruV, Pu.fIsi, Pu.ok_bind, Pu.er_bind, Pu.no_bind, Pu.ok_toS, Pu.er_toS, Pu.no_toS, Pu.opt_s, Pu.opt_n, Pu.asD_d, Pu.asD_l, Pu.asD_e, Pu.asD_n, Pu.asB_b, Pu.asB_e, Pu.asB_n, List.getElem?_cons_zero, List.getElem?_cons_succ, List.set_cons_zero, List.set_cons_succ, Option.bind_some, Option.bind_none, List.cons_append, List.nil_append, List.replicate, List.length_cons, List.length_nil, if_true, if_false, Bool.false_eq_true, if_pos, Pu.initE, Pu.B, Pu.I, Pu.add_i, Pu.sub_i, Pu.mul_i, Pu.mulC_l, Pu.mulC_r, Pu.mod_i, Pu.fdiv_s, Pu.lt_i, Pu.gt_i, Pu.le_i, Pu.ge_i, Pu.int_i, Pu.neg_i, Pu.pow_i, Pu.len_l, Pu.len_t, Pu.ix_l, Pu.ix_t, Pu.at_0, Pu.at_1, Pu.ixN_0, Pu.ixN_1, Option.map_some, Pu.outO, Bool.or_self, Bool.or_true, Bool.true_or, and_self, and_true, true_and, Pu.tru_b, Pu.tru_t, Pu.isi_tt, Pu.isi_tl, Pu.arg_d, Pu.seq_t, Pu.seq_l, Pu.list_t, Pu.list_l, Pu.tup_l, Pu.tup_t, Pu.fCallD, Pu.fConsX, Pu.fNilX, Pu.fArgs, Pu.fIt, Pu.fYes, Bool.not_true, Bool.not_false, ↓reduceIte, k1, k2, k3, k8, lim_1, lim_3, lim_n3, lim_n1, Nat.zero_le])]
  rw [seq_nx (ρ' := [.un, x1, s2, s3, s4, s5, s6, s7, s8, .un, .un, .un]) (by simp only [Pu.fSeq, Pu.fSet, Pu.fRet, Pu.fDrop, Pu.fIfS, Pu.fNx, Pu.fRetN, Pu.fIf, Pu.fD, Pu.fP, Pu.fT, Pu.fC, Pu.fBin, Pu.fUn, Pu.fUnO, Pu.fLst, Pu.fTup, Pu.fCons, Pu.fNil, Pu.fVar, Pu.fMove, Pu.fIxO, Pu.fSto, Pu.ownL, Pu.peekAt, SV.peek, OB.lockd, SV.toD, SV.toB, Pu.fAndT, Pu.fOrT, Pu.fNotT, Pu.fAndV, Pu.fOrV, Pu.fNotV, Pu.fChn, Pu.fTru, Pu.fTruV, Pu.fIsi, Pu.ok_bind, Pu.er_bind, Pu.no_bind, Pu.ok_toS, Pu.er_toS, Pu.no_toS, Pu.opt_s, Pu.opt_n, Pu.asD_d, Pu.asD_l, Pu.asD_e, Pu.asD_n, Pu.asB_b, Pu.asB_e, Pu.asB_n, List.getElem?_cons_zero, List.getElem?_cons_succ, List.set_cons_zero, List.set_cons_succ, Option.bind_some, Option.bind_none, List.cons_append, List.nil_append, List.replicate, List.length_cons, List.length_nil, if_true, if_false, Bool.false_eq_true, if_pos, Pu.initE, Pu.B, Pu.I, Pu.add_i, Pu.sub_i, Pu.mul_i, Pu.mulC_l, Pu.mulC_r, Pu.mod_i, Pu.fdiv_s, Pu.lt_i, Pu.gt_i, Pu.le_i, Pu.ge_i, Pu.int_i, Pu.neg_i, Pu.pow_i, Pu.len_l, Pu.len_t, Pu.ix_l, Pu.ix_t, Pu.at_0, Pu.at_1, Pu.ixN_0, Pu.ixN_1, Option.map_some, Pu.outO, Bool.or_self, Bool.or_true, Bool.true_or, and_self, and_true, true_and, Pu.tru_b, Pu.tru_t, Pu.isi_tt, Pu.isi_tl, Pu.arg_d, Pu.seq_t, Pu.seq_l, Pu.list_t, Pu.list_l, Pu.tup_l, Pu.tup_t, Pu.fCallD, Pu.fConsX, Pu.fNilX, Pu.fArgs, Pu.fIt, Pu.fYes, Bool.not_true, Bool.not_false, ↓reduceIte, k4, ne_i, decide_true, lim_2, lim_n2])]
  simp only [Pu.fSeq, Pu.fSet, Pu.fRet, Pu.fDrop, Pu.fIfS, Pu.fNx, Pu.fRetN, Pu.fIf, Pu.fD, Pu.fP, Pu.fT, Pu.fC, Pu.fBin, Pu.fUn, Pu.fUnO, Pu.fLst, Pu.fTup, Pu.fCons, Pu.fNil, Pu.fVar, Pu.fMove, Pu.fIxO, Pu.fSto, Pu.ownL, Pu.peekAt, SV.peek, OB.lockd, SV.toD, SV.toB, Pu.fAndT, Pu.fOrT, Pu.fNotT, Pu.fAndV, Pu.fOrV, Pu.fNotV, Pu.fChn, Pu.fTru, Pu.fTruV, Pu.fIsi, Pu.ok_bind, Pu.er_bind, Pu.no_bind, Pu.ok_toS, Pu.er_toS, Pu.no_toS, Pu.opt_s, Pu.opt_n, Pu.asD_d, Pu.asD_l, Pu.asD_e, Pu.asD_n, Pu.asB_b, Pu.asB_e, Pu.asB_n, List.getElem?_cons_zero, List.getElem?_cons_succ, List.set_cons_zero, List.set_cons_succ, Option.bind_some, Option.bind_none, List.cons_append, List.nil_append, List.replicate, List.length_cons, List.length_nil, if_true, if_false, Bool.false_eq_true, if_pos, Pu.initE, Pu.B, Pu.I, Pu.add_i, Pu.sub_i, Pu.mul_i, Pu.mulC_l, Pu.mulC_r, Pu.mod_i, Pu.fdiv_s, Pu.lt_i, Pu.gt_i, Pu.le_i, Pu.ge_i, Pu.int_i, Pu.neg_i, Pu.pow_i, Pu.len_l, Pu.len_t, Pu.ix_l, Pu.ix_t, Pu.at_0, Pu.at_1, Pu.ixN_0, Pu.ixN_1, Option.map_some, Pu.outO, Bool.or_self, Bool.or_true, Bool.true_or, and_self, and_true, true_and, Pu.tru_b, Pu.tru_t, Pu.isi_tt, Pu.isi_tl, Pu.arg_d, Pu.seq_t, Pu.seq_l, Pu.list_t, Pu.list_l, Pu.tup_l, Pu.tup_t, Pu.fCallD, Pu.fConsX, Pu.fNilX, Pu.fArgs, Pu.fIt, Pu.fYes, Bool.not_true, Bool.not_false, ↓reduceIte, k5, k6, fRg, k7, eq_i, decide_true, Nat.zero_le]
theorem law_is : LawIs := by
  intro ns _
  let P : List Int → Ev → Prop := fun _ ρ => ∃ x1 s2 s3 s4 s5 s6 s7 s8, ρ = [.un, x1, s2, s3, s4, s5, s6, s7, s8, .un, .un, .un]
  obtain ⟨ρ', e, x1, s2, s3, s4, s5, s6, s7, s8, rfl⟩ := forL_t (bd := bNm 1) (fb := g_lawB lab) (e := PyData.int) P (by
    rintro c rest ρ ⟨x1, s2, s3, s4, s5, s6, s7, s8, rfl⟩
    obtain ⟨x2, x3, x4, x5, x6, x7, x8, e⟩ := lawB_is (c := c) (s2 := s2) (s3 := s3) (s4 := s4) (s5 := s5) (s6 := s6) (s7 := s7) (s8 := s8)
    exact ⟨envL c s2 s3 s4 s5 s6 s7 s8, _, rfl, e, _, _, _, _, _, _, _, _, rfl⟩) ((ns ++ [0, 1]).take 2) (initE 12 [.un]) ⟨_, _, _, _, _, _, _, _, rfl⟩
  unfold g_law cellsD
  rw [seq_nx e]
  exact lawR_is
end Lw
/-! Ek67 -/
set_option maxRecDepth 100000
namespace Lw
open PySem PySem.Spec PyProof.Rows L2 WoR WoK LamX Pu
abbrev lamQ : Str := (("law" : Str) ++ ".<locals>.") ++ "<lambda>"
theorem kit_self {K : PySem.W.Frag} {D : Addr} : PySem.W.kitOne K (.ref D) (.ref D) = some true := if_pos (beq_self_eq_true _)
theorem kit_no {K : PySem.W.Frag} {D C : Addr} {b : Bool} (n : D ≠ C) (i : PySem.W.isClsIn K C = true) (t : PySem.W.typeIn K (.ref C) = some (.type "type")) (s : PySem.W.subIn K (.ref D) (.ref C) = some b) : PySem.W.kitOne K (.ref D) (.ref C) = some b := by
  have i' : (PySem.W.clsIn K C).isSome = true := i
  have g : ((PySem.W.clsIn K C).isSome && PySem.W.typeIn K (.ref C) == some (.type "type")) = true := by
    rw [i', t]
    rfl
  refine (if_neg fun z => n (Value.ref.inj (beq_iff_eq.mp z))).trans ?_
  show (if ((PySem.W.clsIn K C).isSome && PySem.W.typeIn K (.ref C) == some (.type "type")) = true then PySem.W.subIn K (.ref D) (.ref C) else none) = some b
  rw [if_pos g]
  exact s
theorem kit_ve {K : PySem.W.Frag} {D : Addr} (s : PySem.W.subIn K (.ref D) (.type "ValueError") = some true) : PySem.W.kitOne K (.ref D) (.type "ValueError") = some true := by
  refine (if_neg fun z => by cases (beq_iff_eq.mp z)).trans ?_
  show (if PySem.W.kitMeta "ValueError" = true then PySem.W.subIn K (.ref D) (.type "ValueError") else none) = some true
  rw [if_pos (show PySem.W.kitMeta "ValueError" = true by decide +kernel)]
  exact s
theorem exm_by {K : PySem.W.Frag} {D C : Addr} {b : Bool} (h : PySem.W.subIn K (.ref C) (.type "BaseException") = some true) (i : PySem.W.isClsIn K C = true) (t : PySem.W.typeIn K (.ref C) = some (.type "type")) (s : PySem.W.subIn K (.ref D) (.ref C) = some b) : PySem.W.exmOne K (.ref D) (.ref C) = some b := by
  have i' : (PySem.W.clsIn K C).isSome = true := i
  have g : ((PySem.W.clsIn K C).isSome && PySem.W.typeIn K (.ref C) == some (.type "type")) = true := by
    rw [i', t]
    rfl
  have e : (PySem.W.subIn K (.ref C) (.type "BaseException") == some true) = true := by
    rw [h]
    rfl
  refine (if_pos e).trans ?_
  show (if ((PySem.W.clsIn K C).isSome && PySem.W.typeIn K (.ref C) == some (.type "type")) = true then PySem.W.subIn K (.ref D) (.ref C) else none) = some b
  rw [if_pos g]
  exact s

set_option maxHeartbeats 0 in
theorem all_mk {l : PySem.W.OpenLaw} {w : World} {K : PySem.W.Frag} {h : Heap} {mg : Str → Option Value} {fa : Addr} (X : K.In h) (G : h.Ns mainGlobals mg) (hfa : mg "law" = some (.ref fa)) (OT : OwnTab K fa h)
    {f1 f2 f3 f4 f5 f6 f7 f8 f9 f10 f11 f12 f13 f14 f15 f16 f17 f18 fa0 c Pt : Addr}
    {C0 C1 C2 C3 C4 C5 C6 C7 C8 : Addr}
    {od1 an1 : Option Addr} {sl1 : Array (Option Value)} {oc1 kV1 dc1 pm1 cd1 ct1 : Value}
    {od2 an2 : Option Addr} {sl2 : Array (Option Value)} {oc2 kV2 dc2 pm2 cd2 ct2 : Value}
    {od3 an3 : Option Addr} {sl3 : Array (Option Value)} {oc3 kV3 dc3 pm3 cd3 ct3 : Value}
    {od4 an4 : Option Addr} {sl4 : Array (Option Value)} {oc4 kV4 dc4 pm4 cd4 ct4 : Value}
    {od5 an5 : Option Addr} {sl5 : Array (Option Value)} {oc5 kV5 dc5 pm5 cd5 ct5 : Value}
    {od6 an6 : Option Addr} {sl6 : Array (Option Value)} {oc6 kV6 dc6 pm6 cd6 ct6 : Value}
    {od7 an7 : Option Addr} {sl7 : Array (Option Value)} {oc7 kV7 dc7 pm7 cd7 ct7 : Value}
    {od8 an8 : Option Addr} {sl8 : Array (Option Value)} {oc8 kV8 dc8 pm8 cd8 ct8 : Value}
    {od9 an9 : Option Addr} {sl9 : Array (Option Value)} {oc9 kV9 dc9 pm9 cd9 ct9 : Value}
    {od10 an10 : Option Addr} {sl10 : Array (Option Value)} {oc10 kV10 dc10 pm10 cd10 ct10 : Value}
    {od11 an11 : Option Addr} {sl11 : Array (Option Value)} {oc11 kV11 dc11 pm11 cd11 ct11 : Value}
    {od12 an12 : Option Addr} {sl12 : Array (Option Value)} {oc12 kV12 dc12 pm12 cd12 ct12 : Value}
    {od13 an13 : Option Addr} {sl13 : Array (Option Value)} {oc13 kV13 dc13 pm13 cd13 ct13 : Value}
    {od14 an14 : Option Addr} {sl14 : Array (Option Value)} {oc14 kV14 dc14 pm14 cd14 ct14 : Value}
    {od15 an15 : Option Addr} {sl15 : Array (Option Value)} {oc15 kV15 dc15 pm15 cd15 ct15 : Value}
    {od16 an16 : Option Addr} {sl16 : Array (Option Value)} {oc16 kV16 dc16 pm16 cd16 ct16 : Value}
    {od17 an17 : Option Addr} {sl17 : Array (Option Value)} {oc17 kV17 dc17 pm17 cd17 ct17 : Value}
    {od18 an18 : Option Addr} {sl18 : Array (Option Value)} {oc18 kV18 dc18 pm18 cd18 ct18 : Value}
    {odL anL : Option Addr} {slL : Array (Option Value)} {ocL kVL dcL pmL ctL : Value} {cdd : Option Addr} {cvs : Array Value} {csl : Array (Option Value)} {cfi : Str} {ctf : Tok} {cfl : Int} {ctg : Tok} {cin : Bool} {ctx : Int} {ctt : Tok}
    {tk_MOST_THINGS : Tok}
    (a1 : PySem.W.nsIn K mainGlobals "is_integer" = some (some (.ref f1)))
    (l1 : K.lookup f1 = some ⟨oc1, od1, .func (PySem.W.fnOf "is_integer" "is_integer" (defArgs s_is_integer) (defBody s_is_integer) (defScope s_is_integer) .none kV1 dc1 pm1 an1 cd1 ct1), sl1⟩)
    (c1 : PySem.W.codeIn K cd1 "is_integer" = true)
    (k1 : PySem.W.keepIn K (.ref f1) = true)
    (a2 : PySem.W.nsIn K mainGlobals "is_within" = some (some (.ref f2)))
    (l2 : K.lookup f2 = some ⟨oc2, od2, .func (PySem.W.fnOf "is_within" "is_within" (defArgs s_is_within) (defBody s_is_within) (defScope s_is_within) .none kV2 dc2 pm2 an2 cd2 ct2), sl2⟩)
    (c2 : PySem.W.codeIn K cd2 "is_within" = true)
    (k2 : PySem.W.keepIn K (.ref f2) = true)
    (a3 : PySem.W.nsIn K mainGlobals "are_within" = some (some (.ref f3)))
    (l3 : K.lookup f3 = some ⟨oc3, od3, .func (PySem.W.fnOf "are_within" "are_within" (defArgs s_are_within) (defBody s_are_within) (defScope s_are_within) .none kV3 dc3 pm3 an3 cd3 ct3), sl3⟩)
    (c3 : PySem.W.codeIn K cd3 "are_within" = true)
    (k3 : PySem.W.keepIn K (.ref f3) = true)
    (a4 : PySem.W.nsIn K mainGlobals "are_ascending" = some (some (.ref f4)))
    (l4 : K.lookup f4 = some ⟨oc4, od4, .func (PySem.W.fnOf "are_ascending" "are_ascending" (defArgs s_are_ascending) (defBody s_are_ascending) (defScope s_are_ascending) .none kV4 dc4 pm4 an4 cd4 ct4), sl4⟩)
    (c4 : PySem.W.codeIn K cd4 "are_ascending" = true)
    (k4 : PySem.W.keepIn K (.ref f4) = true)
    (a5 : PySem.W.nsIn K mainGlobals "is_group" = some (some (.ref f5)))
    (l5 : K.lookup f5 = some ⟨oc5, od5, .func (PySem.W.fnOf "is_group" "is_group" (defArgs s_is_group) (defBody s_is_group) (defScope s_is_group) .none kV5 dc5 pm5 an5 cd5 ct5), sl5⟩)
    (c5 : PySem.W.codeIn K cd5 "is_group" = true)
    (k5 : PySem.W.keepIn K (.ref f5) = true)
    (a6 : PySem.W.nsIn K mainGlobals "check_many" = some (some (.ref f6)))
    (l6 : K.lookup f6 = some ⟨oc6, od6, .func (PySem.W.fnOf "check_many" "check_many" (defArgs s_check_many) (defBody s_check_many) (defScope s_check_many) .none kV6 dc6 pm6 an6 cd6 ct6), sl6⟩)
    (c6 : PySem.W.codeIn K cd6 "check_many" = true)
    (k6 : PySem.W.keepIn K (.ref f6) = true)
    (a7 : PySem.W.nsIn K mainGlobals "count_falls_at" = some (some (.ref f7)))
    (l7 : K.lookup f7 = some ⟨oc7, od7, .func (PySem.W.fnOf "count_falls_at" "count_falls_at" (defArgs s_count_falls_at) (defBody s_count_falls_at) (defScope s_count_falls_at) .none kV7 dc7 pm7 an7 cd7 ct7), sl7⟩)
    (c7 : PySem.W.codeIn K cd7 "count_falls_at" = true)
    (k7 : PySem.W.keepIn K (.ref f7) = true)
    (a8 : PySem.W.nsIn K mainGlobals "_law_drum" = some (some (.ref f8)))
    (l8 : K.lookup f8 = some ⟨oc8, od8, .func (PySem.W.fnOf "_law_drum" "_law_drum" (defArgs s__law_drum) (defBody s__law_drum) (defScope s__law_drum) .none kV8 dc8 pm8 an8 cd8 ct8), sl8⟩)
    (c8 : PySem.W.codeIn K cd8 "_law_drum" = true)
    (k8 : PySem.W.keepIn K (.ref f8) = true)
    (a9 : PySem.W.nsIn K mainGlobals "_law_roll" = some (some (.ref f9)))
    (l9 : K.lookup f9 = some ⟨oc9, od9, .func (PySem.W.fnOf "_law_roll" "_law_roll" (defArgs s__law_roll) (defBody s__law_roll) (defScope s__law_roll) .none kV9 dc9 pm9 an9 cd9 ct9), sl9⟩)
    (c9 : PySem.W.codeIn K cd9 "_law_roll" = true)
    (k9 : PySem.W.keepIn K (.ref f9) = true)
    (a10 : PySem.W.nsIn K mainGlobals "_law_some" = some (some (.ref f10)))
    (l10 : K.lookup f10 = some ⟨oc10, od10, .func (PySem.W.fnOf "_law_some" "_law_some" (defArgs s__law_some) (defBody s__law_some) (defScope s__law_some) .none kV10 dc10 pm10 an10 cd10 ct10), sl10⟩)
    (c10 : PySem.W.codeIn K cd10 "_law_some" = true)
    (k10 : PySem.W.keepIn K (.ref f10) = true)
    (a11 : PySem.W.nsIn K mainGlobals "_law_all" = some (some (.ref f11)))
    (l11 : K.lookup f11 = some ⟨oc11, od11, .func (PySem.W.fnOf "_law_all" "_law_all" (defArgs s__law_all) (defBody s__law_all) (defScope s__law_all) .none kV11 dc11 pm11 an11 cd11 ct11), sl11⟩)
    (c11 : PySem.W.codeIn K cd11 "_law_all" = true)
    (k11 : PySem.W.keepIn K (.ref f11) = true)
    (a12 : PySem.W.nsIn K mainGlobals "_law_falls" = some (some (.ref f12)))
    (l12 : K.lookup f12 = some ⟨oc12, od12, .func (PySem.W.fnOf "_law_falls" "_law_falls" (defArgs s__law_falls) (defBody s__law_falls) (defScope s__law_falls) .none kV12 dc12 pm12 an12 cd12 ct12), sl12⟩)
    (c12 : PySem.W.codeIn K cd12 "_law_falls" = true)
    (k12 : PySem.W.keepIn K (.ref f12) = true)
    (a13 : PySem.W.nsIn K mainGlobals "_law_factorial" = some (some (.ref f13)))
    (l13 : K.lookup f13 = some ⟨oc13, od13, .func (PySem.W.fnOf "_law_factorial" "_law_factorial" (defArgs s__law_factorial) (defBody s__law_factorial) (defScope s__law_factorial) .none kV13 dc13 pm13 an13 cd13 ct13), sl13⟩)
    (c13 : PySem.W.codeIn K cd13 "_law_factorial" = true)
    (k13 : PySem.W.keepIn K (.ref f13) = true)
    (a14 : PySem.W.nsIn K mainGlobals "_law_places" = some (some (.ref f14)))
    (l14 : K.lookup f14 = some ⟨oc14, od14, .func (PySem.W.fnOf "_law_places" "_law_places" (defArgs s__law_places) (defBody s__law_places) (defScope s__law_places) .none kV14 dc14 pm14 an14 cd14 ct14), sl14⟩)
    (c14 : PySem.W.codeIn K cd14 "_law_places" = true)
    (k14 : PySem.W.keepIn K (.ref f14) = true)
    (a15 : PySem.W.nsIn K mainGlobals "_law_parts" = some (some (.ref f15)))
    (l15 : K.lookup f15 = some ⟨oc15, od15, .func (PySem.W.fnOf "_law_parts" "_law_parts" (defArgs s__law_parts) (defBody s__law_parts) (defScope s__law_parts) .none kV15 dc15 pm15 an15 cd15 ct15), sl15⟩)
    (c15 : PySem.W.codeIn K cd15 "_law_parts" = true)
    (k15 : PySem.W.keepIn K (.ref f15) = true)
    (a16 : PySem.W.nsIn K mainGlobals "_law_within" = some (some (.ref f16)))
    (l16 : K.lookup f16 = some ⟨oc16, od16, .func (PySem.W.fnOf "_law_within" "_law_within" (defArgs s__law_within) (defBody s__law_within) (defScope s__law_within) .none kV16 dc16 pm16 an16 cd16 ct16), sl16⟩)
    (c16 : PySem.W.codeIn K cd16 "_law_within" = true)
    (k16 : PySem.W.keepIn K (.ref f16) = true)
    (a17 : PySem.W.nsIn K mainGlobals "_law_names" = some (some (.ref f17)))
    (l17 : K.lookup f17 = some ⟨oc17, od17, .func (PySem.W.fnOf "_law_names" "_law_names" (defArgs Wo.sNm) (defBody Wo.sNm) (defScope Wo.sNm) .none kV17 dc17 pm17 an17 cd17 ct17), sl17⟩)
    (c17 : PySem.W.codeIn K cd17 "_law_names" = true)
    (k17 : PySem.W.keepIn K (.ref f17) = true)
    (a18 : PySem.W.nsIn K mainGlobals "_law_error" = some (some (.ref f18)))
    (l18 : K.lookup f18 = some ⟨oc18, od18, .func (PySem.W.fnOf "_law_error" "_law_error" (defArgs Wo.sWd) (defBody Wo.sWd) (defScope Wo.sWd) .none kV18 dc18 pm18 an18 cd18 ct18), sl18⟩)
    (c18 : PySem.W.codeIn K cd18 "_law_error" = true)
    (k18 : PySem.W.keepIn K (.ref f18) = true)
    (aL : PySem.W.nsIn K mainGlobals "law" = some (some (.ref fa0)))
    (lL : K.lookup fa0 = some ⟨ocL, odL, .func (PySem.W.fnOf "law" "law" (defArgs s_law) (defBody s_law) (defScope s_law) .none kVL dcL pmL anL (.ref c) ctL), slL⟩)
    (cL : PySem.W.codeIn K (.ref c) "law" = true)
    (lc : K.lookup c = some ⟨.type "code", cdd, .fields cvs, csl⟩)
    (lv : cvs[11]? = some (.ref Pt))
    (lp : K.lookup Pt = none)
    (v11 : cvs.getD 11 .none = .ref Pt)
    (v18 : cvs.getD 18 .none = .str cfi ctf)
    (v7 : cvs.getD 7 .none = .int cfl ctg)
    (v9 : cvs.getD 9 .none = .bool cin)
    (v10 : cvs.getD 10 .none = .int ctx ctt)
    (ncp : c ≠ Pt)
    (aN_MOST_THINGS : PySem.W.nsIn K mainGlobals "MOST_THINGS" = some (some (.int 30 tk_MOST_THINGS)))
    (z_isinstance : PySem.W.nsIn K mainGlobals "isinstance" = some none)
    (z_int : PySem.W.nsIn K mainGlobals "int" = some none)
    (z_bool : PySem.W.nsIn K mainGlobals "bool" = some none)
    (z_tuple : PySem.W.nsIn K mainGlobals "tuple" = some none)
    (z_list : PySem.W.nsIn K mainGlobals "list" = some none)
    (z_str : PySem.W.nsIn K mainGlobals "str" = some none)
    (z_len : PySem.W.nsIn K mainGlobals "len" = some none)
    (z_sorted : PySem.W.nsIn K mainGlobals "sorted" = some none)
    (z_range : PySem.W.nsIn K mainGlobals "range" = some none)
    (z_reversed : PySem.W.nsIn K mainGlobals "reversed" = some none)
    (z_enumerate : PySem.W.nsIn K mainGlobals "enumerate" = some none)
    (z_zip : PySem.W.nsIn K mainGlobals "zip" = some none)
    (z_abs : PySem.W.nsIn K mainGlobals "abs" = some none)
    (z_all : PySem.W.nsIn K mainGlobals "all" = some none)
    (z_any : PySem.W.nsIn K mainGlobals "any" = some none)
    (z_sum : PySem.W.nsIn K mainGlobals "sum" = some none)
    (z_min : PySem.W.nsIn K mainGlobals "min" = some none)
    (z_max : PySem.W.nsIn K mainGlobals "max" = some none)
    (z_set : PySem.W.nsIn K mainGlobals "set" = some none)
    (z_ValueError : PySem.W.nsIn K mainGlobals "ValueError" = some none)
    (q0 : PySem.W.nsIn K mainGlobals "OrderError" = some (some (.ref C0)))
    (q1 : PySem.W.nsIn K mainGlobals "InvalidOrder" = some (some (.ref C1)))
    (q2 : PySem.W.nsIn K mainGlobals "InvalidMany" = some (some (.ref C2)))
    (q3 : PySem.W.nsIn K mainGlobals "InvalidNumber" = some (some (.ref C3)))
    (q4 : PySem.W.nsIn K mainGlobals "InvalidWord" = some (some (.ref C4)))
    (q5 : PySem.W.nsIn K mainGlobals "InvalidPattern" = some (some (.ref C5)))
    (q6 : PySem.W.nsIn K mainGlobals "InvalidPatterns" = some (some (.ref C6)))
    (q7 : PySem.W.nsIn K mainGlobals "InvalidPlaces" = some (some (.ref C7)))
    (q8 : PySem.W.nsIn K mainGlobals "TooMany" = some (some (.ref C8)))
    (hn : PySem.W.specialIn K (.builtin "object.__class__") "__get__" = some (some (.builtin "getset_descriptor.__get__")))
    (ht : PySem.W.takesIn K (.builtin "object.__class__") = some true)
    (sb0 : PySem.W.subIn K (.ref C0) (.type "BaseException") = some true)
    (ic0 : PySem.W.isClsIn K C0 = true)
    (ty0 : PySem.W.typeIn K (.ref C0) = some (.type "type"))
    (ic1 : PySem.W.isClsIn K C1 = true)
    (ty1 : PySem.W.typeIn K (.ref C1) = some (.type "type"))
    (ic2 : PySem.W.isClsIn K C2 = true)
    (ty2 : PySem.W.typeIn K (.ref C2) = some (.type "type"))
    (ic3 : PySem.W.isClsIn K C3 = true)
    (ty3 : PySem.W.typeIn K (.ref C3) = some (.type "type"))
    (ic4 : PySem.W.isClsIn K C4 = true)
    (ty4 : PySem.W.typeIn K (.ref C4) = some (.type "type"))
    (ic5 : PySem.W.isClsIn K C5 = true)
    (ty5 : PySem.W.typeIn K (.ref C5) = some (.type "type"))
    (ic6 : PySem.W.isClsIn K C6 = true)
    (ty6 : PySem.W.typeIn K (.ref C6) = some (.type "type"))
    (ic7 : PySem.W.isClsIn K C7 = true)
    (ty7 : PySem.W.typeIn K (.ref C7) = some (.type "type"))
    (ic8 : PySem.W.isClsIn K C8 = true)
    (ty8 : PySem.W.typeIn K (.ref C8) = some (.type "type"))
    (x2 : PySem.W.excIn K C2 [.type "ValueError", .type "Exception", .type "BaseException", .type "object"] "ValueError.__new__" = true)
    (kp2 : PySem.W.keepIn K (.ref C2) = true)
    (sb2 : PySem.W.subIn K (.ref C2) (.type "BaseException") = some true)
    (ve2 : PySem.W.subIn K (.ref C2) (.type "ValueError") = some true)
    (hg2 : PySem.W.findIn K (.ref C2) "__getattribute__" = some (some (.builtin "BaseException.__getattribute__")))
    (hk2 : PySem.W.findIn K (.ref C2) "__getattr__" = some none)
    (hd2 : PySem.W.hasDictIn K C2 = true)
    (ha2 : PySem.W.findIn K (.ref C2) "__class__" = some (some (.builtin "object.__class__")))
    (hm2 : PySem.W.mroIn K C2 (.type "object") = some true)
    (s2x0 : PySem.W.subIn K (.ref C2) (.ref C0) = some true)
    (s2x1 : PySem.W.subIn K (.ref C2) (.ref C1) = some false)
    (n2x1 : C2 ≠ C1)
    (s2x3 : PySem.W.subIn K (.ref C2) (.ref C3) = some false)
    (n2x3 : C2 ≠ C3)
    (s2x4 : PySem.W.subIn K (.ref C2) (.ref C4) = some false)
    (n2x4 : C2 ≠ C4)
    (s2x5 : PySem.W.subIn K (.ref C2) (.ref C5) = some false)
    (n2x5 : C2 ≠ C5)
    (s2x6 : PySem.W.subIn K (.ref C2) (.ref C6) = some false)
    (n2x6 : C2 ≠ C6)
    (s2x7 : PySem.W.subIn K (.ref C2) (.ref C7) = some false)
    (n2x7 : C2 ≠ C7)
    (s2x8 : PySem.W.subIn K (.ref C2) (.ref C8) = some false)
    (n2x8 : C2 ≠ C8)
    (x7 : PySem.W.excIn K C7 [.type "ValueError", .type "Exception", .type "BaseException", .type "object"] "ValueError.__new__" = true)
    (kp7 : PySem.W.keepIn K (.ref C7) = true)
    (sb7 : PySem.W.subIn K (.ref C7) (.type "BaseException") = some true)
    (ve7 : PySem.W.subIn K (.ref C7) (.type "ValueError") = some true)
    (hg7 : PySem.W.findIn K (.ref C7) "__getattribute__" = some (some (.builtin "BaseException.__getattribute__")))
    (hk7 : PySem.W.findIn K (.ref C7) "__getattr__" = some none)
    (hd7 : PySem.W.hasDictIn K C7 = true)
    (ha7 : PySem.W.findIn K (.ref C7) "__class__" = some (some (.builtin "object.__class__")))
    (hm7 : PySem.W.mroIn K C7 (.type "object") = some true)
    (s7x0 : PySem.W.subIn K (.ref C7) (.ref C0) = some true)
    (s7x1 : PySem.W.subIn K (.ref C7) (.ref C1) = some false)
    (n7x1 : C7 ≠ C1)
    (s7x2 : PySem.W.subIn K (.ref C7) (.ref C2) = some false)
    (n7x2 : C7 ≠ C2)
    (s7x3 : PySem.W.subIn K (.ref C7) (.ref C3) = some false)
    (n7x3 : C7 ≠ C3)
    (s7x4 : PySem.W.subIn K (.ref C7) (.ref C4) = some false)
    (n7x4 : C7 ≠ C4)
    (s7x5 : PySem.W.subIn K (.ref C7) (.ref C5) = some false)
    (n7x5 : C7 ≠ C5)
    (s7x6 : PySem.W.subIn K (.ref C7) (.ref C6) = some false)
    (n7x6 : C7 ≠ C6)
    (s7x8 : PySem.W.subIn K (.ref C7) (.ref C8) = some false)
    (n7x8 : C7 ≠ C8)
    : LawAtS l w K CX0 8 63 "_law_script" mg fa h := by
  have e := hfa.symm.trans (PySem.W.mg_of X G aL)
  cases e
  have Bn : BI mg := ⟨PySem.W.mg_none_of X G z_isinstance, PySem.W.mg_none_of X G z_int, PySem.W.mg_none_of X G z_bool, PySem.W.mg_none_of X G z_tuple, PySem.W.mg_none_of X G z_list, PySem.W.mg_none_of X G z_str, PySem.W.mg_none_of X G z_len, PySem.W.mg_none_of X G z_sorted, PySem.W.mg_none_of X G z_range, PySem.W.mg_none_of X G z_reversed, PySem.W.mg_none_of X G z_enumerate, PySem.W.mg_none_of X G z_zip, PySem.W.mg_none_of X G z_abs, PySem.W.mg_none_of X G z_all, PySem.W.mg_none_of X G z_any, PySem.W.mg_none_of X G z_sum, PySem.W.mg_none_of X G z_min, PySem.W.mg_none_of X G z_max, PySem.W.mg_none_of X G z_set⟩
  have Tw : Wo.Bi mg := ⟨PySem.W.mg_none_of X G z_isinstance, PySem.W.mg_none_of X G z_int, PySem.W.mg_none_of X G z_bool, PySem.W.mg_none_of X G z_tuple, PySem.W.mg_none_of X G z_all, PySem.W.mg_none_of X G z_len, PySem.W.mg_none_of X G z_sorted, PySem.W.mg_none_of X G z_list, PySem.W.mg_none_of X G z_range, PySem.W.mg_none_of X G z_reversed, PySem.W.mg_none_of X G z_enumerate, PySem.W.mg_none_of X G z_abs, PySem.W.mg_none_of X G z_zip⟩
  have F1 := fun_mk (st := s_is_integer) l1 c1 k1
  have b1 := F1.binds (ps := ["value"]) fun _ _ _ _ _ _ us hl => match us, hl with | [_], _ => rfl
  have g1 := PySem.W.mg_of X G a1
  have F2 := fun_mk (st := s_is_within) l2 c2 k2
  have b2 := F2.binds (ps := ["value", "low", "high"]) fun _ _ _ _ _ _ us hl => match us, hl with | [_, _, _], _ => rfl
  have g2 := PySem.W.mg_of X G a2
  have F3 := fun_mk (st := s_are_within) l3 c3 k3
  have b3 := F3.binds (ps := ["value", "low", "high"]) fun _ _ _ _ _ _ us hl => match us, hl with | [_, _, _], _ => rfl
  have g3 := PySem.W.mg_of X G a3
  have F4 := fun_mk (st := s_are_ascending) l4 c4 k4
  have b4 := F4.binds (ps := ["items"]) fun _ _ _ _ _ _ us hl => match us, hl with | [_], _ => rfl
  have g4 := PySem.W.mg_of X G a4
  have F5 := fun_mk (st := s_is_group) l5 c5 k5
  have b5 := F5.binds (ps := ["value", "count", "high"]) fun _ _ _ _ _ _ us hl => match us, hl with | [_, _, _], _ => rfl
  have g5 := PySem.W.mg_of X G a5
  have F6 := fun_mk (st := s_check_many) l6 c6 k6
  have b6 := F6.binds (ps := ["value"]) fun _ _ _ _ _ _ us hl => match us, hl with | [_], _ => rfl
  have g6 := PySem.W.mg_of X G a6
  have F7 := fun_mk (st := s_count_falls_at) l7 c7 k7
  have b7 := F7.binds (ps := ["many", "places"]) fun _ _ _ _ _ _ us hl => match us, hl with | [_, _], _ => rfl
  have g7 := PySem.W.mg_of X G a7
  have F8 := fun_mk (st := s__law_drum) l8 c8 k8
  have b8 := F8.binds (ps := ["_law_cell", "_law_turn"]) fun _ _ _ _ _ _ us hl => match us, hl with | [_, _], _ => rfl
  have g8 := PySem.W.mg_of X G a8
  have F9 := fun_mk (st := s__law_roll) l9 c9 k9
  have b9 := F9.binds (ps := ["_law_keg", "_law_many"]) fun _ _ _ _ _ _ us hl => match us, hl with | [_, _], _ => rfl
  have g9 := PySem.W.mg_of X G a9
  have F10 := fun_mk (st := s__law_some) l10 c10 k10
  have b10 := F10.binds (ps := ["_law_keg", "_law_things"]) fun _ _ _ _ _ _ us hl => match us, hl with | [_, _], _ => rfl
  have g10 := PySem.W.mg_of X G a10
  have F11 := fun_mk (st := s__law_all) l11 c11 k11
  have b11 := F11.binds (ps := ["_law_many"]) fun _ _ _ _ _ _ us hl => match us, hl with | [_], _ => rfl
  have g11 := PySem.W.mg_of X G a11
  have F12 := fun_mk (st := s__law_falls) l12 c12 k12
  have b12 := F12.binds (ps := ["_law_row"]) fun _ _ _ _ _ _ us hl => match us, hl with | [_], _ => rfl
  have g12 := PySem.W.mg_of X G a12
  have F13 := fun_mk (st := s__law_factorial) l13 c13 k13
  have b13 := F13.binds (ps := ["_law_many"]) fun _ _ _ _ _ _ us hl => match us, hl with | [_], _ => rfl
  have g13 := PySem.W.mg_of X G a13
  have F14 := fun_mk (st := s__law_places) l14 c14 k14
  have b14 := F14.binds (ps := ["_law_keg", "_law_many", "_law_part"]) fun _ _ _ _ _ _ us hl => match us, hl with | [_, _, _], _ => rfl
  have g14 := PySem.W.mg_of X G a14
  have F15 := fun_mk (st := s__law_parts) l15 c15 k15
  have b15 := F15.binds (ps := ["_law_places_so"]) fun _ _ _ _ _ _ us hl => match us, hl with | [_], _ => rfl
  have g15 := PySem.W.mg_of X G a15
  have F16 := fun_mk (st := s__law_within) l16 c16 k16
  have b16 := F16.binds (ps := ["_law_many", "_law_places_so"]) fun _ _ _ _ _ _ us hl => match us, hl with | [_, _], _ => rfl
  have g16 := PySem.W.mg_of X G a16
  have F17 := fun_mk (st := Wo.sNm) l17 c17 k17
  have b17 := F17.binds (ps := ["_law_e"]) fun _ _ _ _ _ _ us hl => match us, hl with | [_], _ => rfl
  have g17 := PySem.W.mg_of X G a17
  have F18 := fun_mk (st := Wo.sWd) l18 c18 k18
  have b18 := F18.binds (ps := ["_law_call"]) fun _ _ _ _ _ _ us hl => match us, hl with | [_], _ => rfl
  have g18 := PySem.W.mg_of X G a18
  have G_MOST_THINGS := PySem.W.mg_of X G aN_MOST_THINGS
  have E_InvalidMany : ErX K mg "InvalidMany" := ⟨C2, PySem.W.mg_of X G q2, x2, kp2, sb2, ty2⟩
  have X2 : ExcC K C2 := ⟨hg2, hk2, sb2, hd2, ha2, hn, ht, hm2⟩
  have B2 : Wo.BitsZ K mg C2 false true false false false false false false := ⟨⟨C1, PySem.W.mg_of X G q1, kit_no n2x1 ic1 ty1 s2x1⟩, ⟨C2, PySem.W.mg_of X G q2, kit_self⟩, ⟨C3, PySem.W.mg_of X G q3, kit_no n2x3 ic3 ty3 s2x3⟩, ⟨C4, PySem.W.mg_of X G q4, kit_no n2x4 ic4 ty4 s2x4⟩, ⟨C5, PySem.W.mg_of X G q5, kit_no n2x5 ic5 ty5 s2x5⟩, ⟨C6, PySem.W.mg_of X G q6, kit_no n2x6 ic6 ty6 s2x6⟩, ⟨C7, PySem.W.mg_of X G q7, kit_no n2x7 ic7 ty7 s2x7⟩, ⟨C8, PySem.W.mg_of X G q8, kit_no n2x8 ic8 ty8 s2x8⟩, kit_ve ve2⟩
  have N2 : Wo.NameZ K mg C2 "things value" := ⟨X2, _, _, _, _, _, _, _, _, B2, by decide +kernel⟩
  have ex2 : PySem.W.exmOne K (.ref C2) (.ref C0) = some true := exm_by sb0 ic0 ty0 s2x0
  have E_InvalidPlaces : ErX K mg "InvalidPlaces" := ⟨C7, PySem.W.mg_of X G q7, x7, kp7, sb7, ty7⟩
  have X7 : ExcC K C7 := ⟨hg7, hk7, sb7, hd7, ha7, hn, ht, hm7⟩
  have B7 : Wo.BitsZ K mg C7 false false false false false false true false := ⟨⟨C1, PySem.W.mg_of X G q1, kit_no n7x1 ic1 ty1 s7x1⟩, ⟨C2, PySem.W.mg_of X G q2, kit_no n7x2 ic2 ty2 s7x2⟩, ⟨C3, PySem.W.mg_of X G q3, kit_no n7x3 ic3 ty3 s7x3⟩, ⟨C4, PySem.W.mg_of X G q4, kit_no n7x4 ic4 ty4 s7x4⟩, ⟨C5, PySem.W.mg_of X G q5, kit_no n7x5 ic5 ty5 s7x5⟩, ⟨C6, PySem.W.mg_of X G q6, kit_no n7x6 ic6 ty6 s7x6⟩, ⟨C7, PySem.W.mg_of X G q7, kit_self⟩, ⟨C8, PySem.W.mg_of X G q8, kit_no n7x8 ic8 ty8 s7x8⟩, kit_ve ve7⟩
  have N7 : Wo.NameZ K mg C7 "places value" := ⟨X7, _, _, _, _, _, _, _, _, B7, by decide +kernel⟩
  have ex7 : PySem.W.exmOne K (.ref C7) (.ref C0) = some true := exm_by sb0 ic0 ty0 s7x0
  have LB : LabZ K mg C0 lab := ⟨fun x l D h1 h2 => by
    unfold lab at h1
    by_cases e : x = "InvalidMany"
    · rw [if_pos e] at h1
      cases h1
      rw [e, PySem.W.mg_of X G q2] at h2
      cases h2
      exact ⟨N2, ex2⟩
    rw [if_neg e] at h1
    clear e
    by_cases e : x = "InvalidPlaces"
    · rw [if_pos e] at h1
      cases h1
      rw [e, PySem.W.mg_of X G q7] at h2
      cases h2
      exact ⟨N7, ex7⟩
    rw [if_neg e] at h1
    clear e
    cases h1⟩
  have HE : Here mg lab := fun x l h1 => by
    unfold lab at h1
    by_cases e : x = "InvalidMany"
    · rw [e]
      exact ⟨_, PySem.W.mg_of X G q2⟩
    rw [if_neg e] at h1
    clear e
    by_cases e : x = "InvalidPlaces"
    · rw [e]
      exact ⟨_, PySem.W.mg_of X G q7⟩
    rw [if_neg e] at h1
    clear e
    cases h1
  refine ⟨PySem.W.fnOf "law" "law" (defArgs s_law) (defBody s_law) (defScope s_law) .none kVL dcL pmL anL (.ref c) ctL, [(c, Pt)], fun vs H Q _ => ∃ (L : Addr) (ns : List Int), vs = [.ref L] ∧ SqL K H L (ns.map V.int) ∧ ns.length ≤ 63 ∧ Tabs [(Pt, lamQ)] H ∧ ∀ H', Q (.bl true) H', ?_, ?_, ?_, fun s v => .of_eq rfl, ?_, ?_⟩
  · intro p hp
    rw [List.mem_singleton.mp hp]
    exact OT c Pt _ _ _ _ _ _ lL rfl rfl lc lv
  · intro p hp
    rw [List.mem_singleton.mp hp]
    exact lp
  · intro p hp
    rw [List.mem_singleton.mp hp]
    exact ⟨_, cvs, cfi, ctf, cfl, ctg, cin, ctx, ctt, X _ _ lc, rfl, rfl, lv, v11, v18, v7, v9, v10, ncp⟩
  · intro H a ns hl _ hT hS
    refine ⟨a, ns, rfl, hS, hl, fun p hp => ?_, fun _ => rfl⟩
    rw [List.mem_singleton.mp hp]
    exact TabS.nil (hT (c, Pt) (List.mem_singleton_self _))
  · intro base _ _ hTB
    have TB := hTB (c, Pt) (List.mem_singleton_self _)
    have TT : TbZ mg base [(Pt, lamQ)] c lamQ := ⟨Pt, TB, List.mem_singleton_self _, fun p hp _ => by rw [List.mem_singleton.mp hp]⟩
    have C_is_integer : CalD l.prog w K mg base "is_integer" 1 1 F_is_integer := ok_is_integer Bn ⟨f1, _, g1, F1, b1⟩ 
    have C_is_within : CalD l.prog w K mg base "is_within" 3 2 F_is_within := ok_is_within Bn ⟨f2, _, g2, F2, b2⟩ C_is_integer
    have C_are_within : CalD l.prog w K mg base "are_within" 3 3 F_are_within := ok_are_within Bn ⟨f3, _, g3, F3, b3⟩ C_is_within
    have C_are_ascending : CalD l.prog w K mg base "are_ascending" 1 1 F_are_ascending := ok_are_ascending Bn ⟨f4, _, g4, F4, b4⟩ 
    have C_is_group : CalD l.prog w K mg base "is_group" 3 4 F_is_group := ok_is_group Bn ⟨f5, _, g5, F5, b5⟩ C_are_ascending C_are_within
    have C_check_many : CalD l.prog w K mg base "check_many" 1 3 F_check_many := ok_check_many Bn ⟨f6, _, g6, F6, b6⟩ C_is_within E_InvalidMany G_MOST_THINGS
    have C_count_falls_at : CalD l.prog w K mg base "count_falls_at" 2 5 F_count_falls_at := ok_count_falls_at Bn ⟨f7, _, g7, F7, b7⟩ C_check_many C_is_group E_InvalidPlaces
    have C__law_drum : CalD l.prog w K mg base "_law_drum" 2 1 F__law_drum := ok__law_drum Bn ⟨f8, _, g8, F8, b8⟩ 
    have C__law_roll : CalO l.prog w K mg base "_law_roll" 2 1 F__law_roll := ok__law_roll Bn ⟨f9, _, g9, F9, b9⟩ 
    have C__law_some : CalO l.prog w K mg base "_law_some" 2 2 F__law_some := ok__law_some Bn ⟨f10, _, g10, F10, b10⟩ C__law_roll
    have C__law_all : CalD l.prog w K mg base "_law_all" 1 1 F__law_all := ok__law_all Bn ⟨f11, _, g11, F11, b11⟩ 
    have C__law_falls : CalD l.prog w K mg base "_law_falls" 1 1 F__law_falls := ok__law_falls Bn ⟨f12, _, g12, F12, b12⟩ 
    have C__law_factorial : CalD l.prog w K mg base "_law_factorial" 1 1 F__law_factorial := ok__law_factorial Bn ⟨f13, _, g13, F13, b13⟩ 
    have C__law_places : CalO l.prog w K mg base "_law_places" 3 2 F__law_places := ok__law_places Bn ⟨f14, _, g14, F14, b14⟩ C__law_roll
    have C__law_parts : CalD l.prog w K mg base "_law_parts" 1 1 F__law_parts := ok__law_parts Bn ⟨f15, _, g15, F15, b15⟩ 
    have C__law_within : CalD l.prog w K mg base "_law_within" 2 2 F__law_within := ok__law_within Bn ⟨f16, _, g16, F16, b16⟩ C__law_factorial
    have GN : FnZ l.prog w K mg base CX0 1 f17 _ ["_law_e"] (Wo.spNm K mg) := Wo.ok_nm F17 Tw (PySem.W.mg_none_of X G z_ValueError)
    have WB : WdZ l.prog w K mg base lab := ⟨C0, f18, _, ⟨F18, g18, b18, PySem.W.mg_of X G q0, ⟨_, _, GN, g17, k17, b17⟩⟩, LB, HE⟩
    refine fn_of (N := ["_law_script", "_law_cell", "_law_keg", "_law_few", "_law_places_so", "_law_many", "_law_due", "_law_rest", "_law_odd", "_law_row", "_law_part", "_law_place"]) lL cL sc_law (fun vs H Q E h => ?_) fun A outer s H vs Q E hr h => ?_
    · obtain ⟨L, ns, rfl, _⟩ := h
      rfl
    · obtain ⟨L, ns, rfl, hS, hl, hT, q⟩ := h
      obtain ⟨t, ht, hq⟩ := law_startF (N := ["_law_script", "_law_cell", "_law_keg", "_law_few", "_law_places_so", "_law_many", "_law_due", "_law_rest", "_law_odd", "_law_row", "_law_part", "_law_place"]) (T := [(Pt, lamQ)]) (st := s_law) (g := g_lawR lab) (f := fa) (cdv := .ref c) (E := E) (A := A) (outer := outer) (s := s) (by decide) rfl
        (ok_lawB Bn C__law_all C__law_drum C__law_falls C__law_parts C__law_places C__law_roll C__law_some C__law_within C_count_falls_at WB TT hr) (ok_lawR Bn C__law_all C__law_drum C__law_falls C__law_parts C__law_places C__law_roll C__law_some C__law_within C_count_falls_at WB TT hr) hS (Nat.le_trans hl (by decide)) hT (law_is ns hl) q
      exact ⟨t, ht.nox, hq⟩
end Lw
open PySem PyProof.Rows PySem.W
set_option maxHeartbeats 0 in
theorem PySem.Challenge.cw_wiredorders_k67_whole_orders_with_just_t_holds : PySem.Challenge.rw_wiredorders_k67_whole_orders_with_just_t.Holds := by
  w_on
  o_law
  k_head
  (case hw => w_witness2)
  k_fill
  refine LamX.walk_ofOwn (l := PySem.Challenge.rw_wiredorders_k67_whole_orders_with_just_t) (n := 63) (k := 8) (x := "_law_script") (CX := fun _ => L2.CX0) rfl (by decide) rfl ⟨rfl, by decide, by decide⟩ (by first | rfl | decide +kernel) (fun w h Y => PySem.W.km_in_of Y) ?F (fun _ _ _ _ _ h => h)
  case F =>
    intro w mg fa h Y KX G hmg OT
    refine' Lw.all_mk KX G hmg OT ?a1 ?l1 ?c1 ?k1 ?a2 ?l2 ?c2 ?k2 ?a3 ?l3 ?c3 ?k3 ?a4 ?l4 ?c4 ?k4 ?a5 ?l5 ?c5 ?k5 ?a6 ?l6 ?c6 ?k6 ?a7 ?l7 ?c7 ?k7 ?a8 ?l8 ?c8 ?k8 ?a9 ?l9 ?c9 ?k9 ?a10 ?l10 ?c10 ?k10 ?a11 ?l11 ?c11 ?k11 ?a12 ?l12 ?c12 ?k12 ?a13 ?l13 ?c13 ?k13 ?a14 ?l14 ?c14 ?k14 ?a15 ?l15 ?c15 ?k15 ?a16 ?l16 ?c16 ?k16 ?a17 ?l17 ?c17 ?k17 ?a18 ?l18 ?c18 ?k18 ?aL ?lL ?cL ?lc ?lv ?lp ?v11 ?v18 ?v7 ?v9 ?v10 ?ncp ?aN_MOST_THINGS ?z_isinstance ?z_int ?z_bool ?z_tuple ?z_list ?z_str ?z_len ?z_sorted ?z_range ?z_reversed ?z_enumerate ?z_zip ?z_abs ?z_all ?z_any ?z_sum ?z_min ?z_max ?z_set ?z_ValueError ?q0 ?q1 ?q2 ?q3 ?q4 ?q5 ?q6 ?q7 ?q8 ?hn ?ht ?sb0 ?ic0 ?ty0 ?ic1 ?ty1 ?ic2 ?ty2 ?ic3 ?ty3 ?ic4 ?ty4 ?ic5 ?ty5 ?ic6 ?ty6 ?ic7 ?ty7 ?ic8 ?ty8 ?x2 ?kp2 ?sb2 ?ve2 ?hg2 ?hk2 ?hd2 ?ha2 ?hm2 ?s2x0 ?s2x1 ?n2x1 ?s2x3 ?n2x3 ?s2x4 ?n2x4 ?s2x5 ?n2x5 ?s2x6 ?n2x6 ?s2x7 ?n2x7 ?s2x8 ?n2x8 ?x7 ?kp7 ?sb7 ?ve7 ?hg7 ?hk7 ?hd7 ?ha7 ?hm7 ?s7x0 ?s7x1 ?n7x1 ?s7x2 ?n7x2 ?s7x3 ?n7x3 ?s7x4 ?n7x4 ?s7x5 ?n7x5 ?s7x6 ?n7x6 ?s7x8 ?n7x8
    (case a1 => k_is)
    (case l1 => k_is)
    (case c1 => k_is)
    (case k1 => k_is)
    (case a2 => k_is)
    (case l2 => k_is)
    (case c2 => k_is)
    (case k2 => k_is)
    (case a3 => k_is)
    (case l3 => k_is)
    (case c3 => k_is)
    (case k3 => k_is)
    (case a4 => k_is)
    (case l4 => k_is)
    (case c4 => k_is)
    (case k4 => k_is)
    (case a5 => k_is)
    (case l5 => k_is)
    (case c5 => k_is)
    (case k5 => k_is)
    (case a6 => k_is)
    (case l6 => k_is)
    (case c6 => k_is)
    (case k6 => k_is)
    (case a7 => k_is)
    (case l7 => k_is)
    (case c7 => k_is)
    (case k7 => k_is)
    (case a8 => k_is)
    (case l8 => k_is)
    (case c8 => k_is)
    (case k8 => k_is)
    (case a9 => k_is)
    (case l9 => k_is)
    (case c9 => k_is)
    (case k9 => k_is)
    (case a10 => k_is)
    (case l10 => k_is)
    (case c10 => k_is)
    (case k10 => k_is)
    (case a11 => k_is)
    (case l11 => k_is)
    (case c11 => k_is)
    (case k11 => k_is)
    (case a12 => k_is)
    (case l12 => k_is)
    (case c12 => k_is)
    (case k12 => k_is)
    (case a13 => k_is)
    (case l13 => k_is)
    (case c13 => k_is)
    (case k13 => k_is)
    (case a14 => k_is)
    (case l14 => k_is)
    (case c14 => k_is)
    (case k14 => k_is)
    (case a15 => k_is)
    (case l15 => k_is)
    (case c15 => k_is)
    (case k15 => k_is)
    (case a16 => k_is)
    (case l16 => k_is)
    (case c16 => k_is)
    (case k16 => k_is)
    (case a17 => k_is)
    (case l17 => k_is)
    (case c17 => k_is)
    (case k17 => k_is)
    (case a18 => k_is)
    (case l18 => k_is)
    (case c18 => k_is)
    (case k18 => k_is)
    (case aL => k_is)
    (case lL => k_is)
    (case cL => k_is)
    (case lc => k_is)
    (case lv => first | rfl | k_is)
    (case lp => first | rfl | k_is)
    (case v11 => first | rfl | k_is)
    (case v18 => first | rfl | k_is)
    (case v7 => first | rfl | k_is)
    (case v9 => first | rfl | k_is)
    (case v10 => first | rfl | k_is)
    (case ncp => decide)
    (case aN_MOST_THINGS => k_is)
    (case z_isinstance => k_is)
    (case z_int => k_is)
    (case z_bool => k_is)
    (case z_tuple => k_is)
    (case z_list => k_is)
    (case z_str => k_is)
    (case z_len => k_is)
    (case z_sorted => k_is)
    (case z_range => k_is)
    (case z_reversed => k_is)
    (case z_enumerate => k_is)
    (case z_zip => k_is)
    (case z_abs => k_is)
    (case z_all => k_is)
    (case z_any => k_is)
    (case z_sum => k_is)
    (case z_min => k_is)
    (case z_max => k_is)
    (case z_set => k_is)
    (case z_ValueError => k_is)
    (case q0 => k_is)
    (case q1 => k_is)
    (case q2 => k_is)
    (case q3 => k_is)
    (case q4 => k_is)
    (case q5 => k_is)
    (case q6 => k_is)
    (case q7 => k_is)
    (case q8 => k_is)
    (case hn => k_is)
    (case ht => k_is)
    (case sb0 => k_is)
    (case ic0 => k_is)
    (case ty0 => k_is)
    (case ic1 => k_is)
    (case ty1 => k_is)
    (case ic2 => k_is)
    (case ty2 => k_is)
    (case ic3 => k_is)
    (case ty3 => k_is)
    (case ic4 => k_is)
    (case ty4 => k_is)
    (case ic5 => k_is)
    (case ty5 => k_is)
    (case ic6 => k_is)
    (case ty6 => k_is)
    (case ic7 => k_is)
    (case ty7 => k_is)
    (case ic8 => k_is)
    (case ty8 => k_is)
    (case x2 => k_exc)
    (case kp2 => k_is)
    (case sb2 => k_is)
    (case ve2 => k_is)
    (case hg2 => k_is)
    (case hk2 => k_is)
    (case hd2 => k_is)
    (case ha2 => k_is)
    (case hm2 => k_is)
    (case s2x0 => k_is)
    (case s2x1 => k_is)
    (case n2x1 => decide)
    (case s2x3 => k_is)
    (case n2x3 => decide)
    (case s2x4 => k_is)
    (case n2x4 => decide)
    (case s2x5 => k_is)
    (case n2x5 => decide)
    (case s2x6 => k_is)
    (case n2x6 => decide)
    (case s2x7 => k_is)
    (case n2x7 => decide)
    (case s2x8 => k_is)
    (case n2x8 => decide)
    (case x7 => k_exc)
    (case kp7 => k_is)
    (case sb7 => k_is)
    (case ve7 => k_is)
    (case hg7 => k_is)
    (case hk7 => k_is)
    (case hd7 => k_is)
    (case ha7 => k_is)
    (case hm7 => k_is)
    (case s7x0 => k_is)
    (case s7x1 => k_is)
    (case n7x1 => decide)
    (case s7x2 => k_is)
    (case n7x2 => decide)
    (case s7x3 => k_is)
    (case n7x3 => decide)
    (case s7x4 => k_is)
    (case n7x4 => decide)
    (case s7x5 => k_is)
    (case n7x5 => decide)
    (case s7x6 => k_is)
    (case n7x6 => decide)
    (case s7x8 => k_is)
    (case n7x8 => decide)
