import PyProof.Rows.All
import Wide.All
import OpenK.AllK
import Wide.FinOn
import HandS.Base
import HandS.Call
import HandS.List
import HandS.Comp
import HandS.Dict
import HandS.More
import HandS.Words
import HandS.Strs
import HandS.TupAny
import KE.DataFind
import KE.Datum
import KE.GoesMore
import KE.GoesComp
import HandS.ForMost
import HandS.IsInst
import HandS.Wide
import HandS.Style
import HandS.Walk
import HandS.Evl
import PyProof.Rows.SetFrom
import HandS.Rev
import PyProof.ListRange
import PySem.Challenge.RW_laidontop_k09_whole_fewest_readings_to_a
set_option Elab.async false
set_option linter.all false
set_option maxRecDepth 100000
set_option maxHeartbeats 4000000
/-! Rules for what this text needs beside the hand layer's: a text taken out of a list, a tuple of texts sorted, a dict of a constant over tuple keys, methods of tuples. -/
namespace Lt
open PySem PySem.Spec PyProof.Rows L2

theorem erase_map {a b : Type} (f : a → b) : ∀ (l : List a) (j : Nat), (l.map f).eraseIdx j = (l.eraseIdx j).map f
  | [], j => by simp
  | x :: r, 0 => by simp
  | x :: r, j + 1 => by simp [erase_map f r j]
theorem txts_data {K : PySem.W.Frag} {H : Hp} : ∀ ss : List Str, DpAll K H (ss.map V.str) (ss.map PySem.W.Datum.toD)
  | [] => .nil
  | x :: r => .cons (.str x) (txts_data r)
section
variable {X : Cx}
def rRemS : V → List V → Hp → VK → Prop := fun x xs H Q => ∃ (l : Addr) (ss : List Str) (z : Str) (j : Nat),
  x = .ref l ∧ xs = [.str z] ∧ H l = some (.lst (ss.map V.str)) ∧ ss[j]? = some z ∧ (∀ m : Nat, m < j → ss[m]? ≠ some z) ∧
  Q .non (upd H l (.lst ((ss.eraseIdx j).map V.str)))
/-- xs.remove(y), texts: the first place of y goes -/
theorem mt_removeS (hu : X.A.units + 1 < cLine) : MtM X "list.remove" rRemS := by
  rintro pins s σ H _ _ v us Q inv relx relxs ⟨l, ss, z, j, rfl, rfl, hH, hj, hno, q⟩
  cases relx
  obtain ⟨_, rfl, t, rfl⟩ := relxs.one
  obtain ⟨hz, its, n, vals, hl, ho⟩ := inv.lstM hH
  have isl : s.heap.IsList l its.toArray := ⟨_, ho, rfl, n, rfl⟩
  obtain ⟨as, rds⟩ := Dp.readsAll inv (ss.map PySem.W.Datum.toD) (ss.map V.str) its (txts_data ss) vals
  have gone := vals.eraseIdx j
  rw [erase_map] at gone
  rw [List.length_map] at hz hl
  refine PySem.W.remove_list_datum (xs := ss) (x := z) isl ⟨as, by simpa using rds⟩ ⟨_, Reads.str z t⟩ (show X.A.units + 1 + 0 < cLine from hu) hj hno (by rw [List.size_toArray]; omega)
    ⟨.non, _, inv.lset (its' := its.eraseIdx j) (t' := s.toks) hH ho (by simp) gone ?_, rfl, q⟩
  have le := List.length_eraseIdx_le ss j
  rw [List.length_map]
  omega
/-- sorted(t), t a tuple of fewer than 64 texts -/
def rSortedT (K : PySem.W.Frag) : List V → Hp → VK → Prop := fun vs H Q => ∃ (a : Addr) (xs : List Str), vs = [V.ref a] ∧ SqT K H a (xs.map V.str) ∧ xs.length < 64 ∧
  ∀ (ys : List Str) (p : Addr), ys.Perm xs → sortedS ys = true → H p = none →
    Q (.ref p) (upd H p (.lst (ys.map V.str)))
theorem cr_sortedT : CallR X (.builtin "sorted") (rSortedT X.K) := by
  rintro pins s σ H _ us Q inv rel ⟨a, xs, rfl, sq, few, q⟩
  rw [Vals.ref1 rel]
  obtain ⟨its, vals, ⟨o, ho, hc, n, hd⟩, _⟩ := inv.tuple sq
  have len : its.length = xs.length := by rw [← vals.length, List.length_map]
  have txt : StrsAre its xs := vals.strs
  have fits : its.length ≤ sizeLine := Nat.le_trans (Nat.le_of_lt (len ▸ few)) (by decide)
  refine Calls.call_function_entry kind_sorted plain_sorted entry_sorted (args_sorted1 _) (wpAny_bind (m := checkCount "sorted" 1 1 _) (wpAny_pure
    (wpAny_bind (wpAny_collect_seq a (.inr rfl) ho hc hd (fun h1 kept => ?_) (by rw [List.size_toArray]; exact fits)))))
  have back : its.toArray.toList = its := by simp
  rw [back]
  refine wpAny_bind (wpAny_newList ?_ fits)
  have lst : (h1.push (seqObj "list" its.toArray 0)).get? h1.objs.size = some (seqObj "list" its.toArray 0) := Heap.get?_push_size _ rfl
  have inv1 : Inv X pins σ H { s with heap := h1 } := inv.kept (t' := s.toks) kept
  show wpAny _ _ _ _ _ { s with heap := h1.push (seqObj "list" its.toArray 0) }
  refine wpAny_bind (wpAny_holding (wpAny_call_entry slot_list_sort ⟨_, lst, rfl⟩ entry_list_sort (list_sort_treeK strKind_oneLt (s := { s with heap := h1.push (seqObj "list" its.toArray 0) }) lst txt.keysOf
    (fun v1 v2 rest e => keyKind_strs (by rw [← e]; exact txt)) (len ▸ few) fun st perm ord => ⟨_, rfl, ?_⟩) (args_list_sort _)))
  obtain ⟨ys, are, permS, ordS⟩ := sorted_out_str txt perm ord
  obtain ⟨ep, at1⟩ := sortedHeap_at (vs := its) (out := (arrOf st).map (·.2)) lst
  have lys : (ys.map V.str).length ≤ sizeLine := by
    rw [List.length_map, permS.length_eq]
    exact small64 few
  refine wpAny_pure ⟨_, rfl, .ref h1.objs.size, _, inv1.laid (t' := s.toks) (fun b u e => ?_) (Nat.le_refl _) (show ObjOk X.prog X.w _ _ _ (.lst (ys.map V.str)) from ⟨lys, _, ep, vals_of_strs are, by rw [Array.toArray_toList]; exact at1⟩), rfl,
    q ys _ permS ordS (inv1.hok.fresh (Nat.le_refl _))⟩
  have lt : b < h1.objs.size := Heap.lt_size e
  rw [sortedHeap_old (Nat.ne_of_lt lt) (by rw [size_push']; exact Nat.lt_succ_of_lt lt)]
  exact Heap.get?_push_of_some _ e
end
/-! ### {x: c for x in rows}, the rows tuples of ints and texts: over the library's DictComp_goes -/
def consts (c : Int) (ks : List (List Key)) : List (List Key × V) := ks.foldl (fun acc k => putK acc k (.int c)) []
theorem consts_snoc (c : Int) (ks : List (List Key)) (k : List Key) : consts c (ks ++ [k]) = putK (consts c ks) k (.int c) := by
  unfold consts
  rw [List.foldl_append]
  rfl
theorem consts_len (c : Int) (ks : List (List Key)) : (consts c ks).length ≤ ks.length := by
  have key : ∀ (ks : List (List Key)) (acc : List (List Key × V)), (ks.foldl (fun acc k => putK acc k (V.int c)) acc).length ≤ acc.length + ks.length := by
    intro ks
    induction ks with
    | nil => intro acc; exact Nat.le_refl _
    | cons k r ih =>
      intro acc
      have z := ih (putK acc k (.int c))
      have z2 := length_putK acc k (V.int c)
      rw [List.foldl_cons, List.length_cons]
      omega
  have z := key ks []
  rw [List.length_nil, Nat.zero_add] at z
  exact z
theorem consts_val (c : Int) (ks : List (List Key)) : ∀ k ∈ ks, valV (consts c ks) k = some (.int c) := by
  have key : ∀ (ks : List (List Key)) (acc : List (List Key × V)) (k : List Key), (k ∈ ks ∨ valV acc k = some (V.int c)) → valV (ks.foldl (fun acc k => putK acc k (V.int c)) acc) k = some (V.int c) := by
    intro ks
    induction ks with
    | nil =>
      intro acc k h
      rcases h with h | h
      · cases h
      · exact h
    | cons x r ih =>
      intro acc k h
      rw [List.foldl_cons]
      refine ih _ k ?_
      rw [valV_put]
      by_cases e : k = x
      · exact .inr (if_pos e)
      · rw [if_neg e]
        rcases h with h | h
        · exact .inl ((List.mem_cons.mp h).resolve_left e)
        · exact .inr h
  exact fun k hk => key ks [] k (.inl hk)
theorem keys_all {H : Hp} : ∀ {ls : List (List Key × V)} {ms : List (List Key × Addr × Value)}, KT H ls ms → ∀ z ∈ ms, H z.2.1 = some (.tup (z.1.map kV))
  | _, _, .nil, z, hz => by cases hz
  | _, _, .cons h t, z, hz => by
    rcases List.mem_cons.mp hz with rfl | hz
    · rw [← h.1]
      exact h.2.1
    · exact keys_all t z hz
/-- a dict's entries as they stand at D -/
def Raw (P : Program) (w : World) (h : Heap) (D : Addr) (xs : List (List Key × Addr × Value)) : Prop :=
  ∃ o es ep, h.get? D = some o ∧ o.ExactDict ∧ o.data = .dict es ep ∧ es.toList = xs.map (entryOfKey (tupleKind (mixKind P w))) ∧ (xs.map (·.1)).Nodup
theorem Raw.at {P : Program} {w : World} {h h' : Heap} {D : Addr} {xs : List (List Key × Addr × Value)} (r : Raw P w h D xs) (k : ∀ o, h.get? D = some o → h'.get? D = some o) : Raw P w h' D xs := by
  obtain ⟨o, es, ep, a1, a2⟩ := r
  exact ⟨o, es, ep, k o a1, a2⟩
theorem Raw.dict {P : Program} {w : World} {h h0 : Heap} {H : Hp} {D : Addr} {ls : List (List Key × V)} {xs : List (List Key × Addr × Value)} (r : Raw P w h D xs) (ok : HOk P w H h0) (kp : ∀ b o, h0.get? b = some o → h.get? b = some o) (kt : KT H ls xs) :
    h.DictOfH (tupleKind (mixKind P w)) D xs := by
  obtain ⟨o, es, ep, a1, a2, a3, a4, a5⟩ := r
  refine ⟨o, es, ep, a1, a2, a3, a4, fun z hz => ?_, a5⟩
  obtain ⟨ob, its, n, b1, b2⟩ := key_of ok (keys_all kt z hz)
  exact ⟨ob, its, n, kp _ ob b1, b2⟩
theorem below {b N C : Nat} (hb : b < N) (hC : N + 1 ≤ C) : b ≠ C ∧ b ≠ N := by omega
section
variable {X : Cx}
def tDcK (K : PySem.W.Frag) (c : Int) (te : TE) : TE := fun σ H Q => te σ H fun v H1 => ∃ (l : Addr) (ts : List Addr) (ks : List (List Key)), v = .ref l ∧ SqL K H1 l (ts.map V.ref) ∧ ts.length = ks.length ∧
  (∀ (i : Nat) (t : Addr) (k : List Key), ts[i]? = some t → ks[i]? = some k → H1 t = some (.tup (k.map kV))) ∧ ks.length ≤ 1000 ∧ ∀ D, H1 D = none → Q (.ref D) (upd H1 D (.dT (consts c ks)))
theorem pe_dcK {x : Str} {c : Int} {jc : Nat} {px pk pc pos : Pos} {iter : Expr} {scope : Scope} {te : TE} (hu : X.A.units + 1 < cLine) (hcalm : X.calm = true) (he : PE X iter te)
    (names : scope.names.all (fun y => y.2 == .local) = true) (uniq : ∀ y ∈ scope.names, y.2 = .local → scope.names.lookup y.1 = some .local) (hx : scope.names.lookup x = some .local) (hkind : scope.kind = .function)
    (hdb : (x == ("__debug__" : Str)) = false := by decide) (hs : ∀ x, foldedSetIterable iter X.env x = pure x := by intro _; rfl) :
    PE X (.DictComp (.Name x pk) (.Constant (.int c) jc pc) [⟨.Name x px, iter, [], 0⟩] scope pos) (tDcK X.K c te) := by
  refine ⟨fun pins s σ H Q inv h => ?_⟩
  have loc : ∀ y ∈ scope.names, y.2 = .local := fun y hy => by simpa using List.all_eq_true.mp names y hy
  have calm := inv.ok.hd hcalm
  refine DictComp_goes (closure_ok fun y hy e => by rw [loc y hy] at e; cases e) (fun y hy e => by rw [loc y hy] at e; cases e) hkind uniq
    (thn (he.run pins s σ H _ inv h) fun xv s1 ⟨v, H1, inv1, rel, l, ts, ks, ev, sq, len, keys, small, q⟩ => ?_) hs
  subst ev
  cases rel
  obtain ⟨its, vals, pl, _⟩ := inv1.list sq
  have hlt : (l : Nat) < s1.heap.objs.size := by
    obtain ⟨o, ho, _⟩ := pl.isList
    exact Heap.lt_size ho
  refine wpAny_pyIter_list pl.isList ⟨_, _, _, _, _, _, rfl, Goes.list calm s1.heap.objs.size l (Nat.ne_of_lt hlt) its.toArray, ⟨⟨_, Heap.get?_push_size _ rfl, rfl, rfl⟩, pl.isList.push _⟩, fun D C s3 begins empty => ?_⟩
  obtain ⟨⟨h3, tk3, rfl⟩, old, newD, newC, ne, ns0⟩ := begins
  have gC : (s1.heap.objs.size + 1 : Nat) ≤ C := by
    have z : (s1.heap.push { cls := .type "list_iterator", data := .fields #[.ref l, .int 0 0] }).objs.size ≤ C := newC
    rwa [Heap.size_push] at z
  have gD : (s1.heap.objs.size + 1 : Nat) ≤ D := by
    have z : (s1.heap.push { cls := .type "list_iterator", data := .fields #[.ref l, .int 0 0] }).objs.size ≤ D := newD
    rwa [Heap.size_push] at z
  have gD' : s1.heap.objs.size ≤ D := Nat.le_trans (Nat.le_succ _) gD
  have freeD : H1 D = none := inv1.hok.fresh gD'
  have kx : ∀ cl, (compEnvC scope cl C X.env).kindOf x = some .local := fun cl => lookup_relabel_local hx
  have plain : ∀ cl, ((compEnvC scope cl C X.env).scope.kind == .class || ((compEnvC scope cl C X.env).scope.kind == .module && (compEnvC scope cl C X.env).locals != (compEnvC scope cl C X.env).globals)) = false := fun cl => by
    show (scope.kind == .class || (scope.kind == .module && _)) = false
    rw [hkind]
    rfl
  have lits : its.length = ts.length := by rw [← vals.length, List.length_map]
  have lit : ∀ (i : Nat) (u : Value), its.toArray[i]? = some u → ∃ t k, u = .ref t ∧ ks[i]? = some k ∧ H1 t = some (.tup (k.map kV)) := fun i u e => by
    have e' : its[i]? = some u := by simpa using e
    have hi : i < ts.length := by
      rw [← lits]
      exact (List.getElem?_eq_some_iff.mp e').1
    obtain ⟨u2, g1, g2⟩ := vals.get (i := i) (x := .ref ts[i]) (by simp [hi])
    rw [e'] at g1
    cases g1
    exact ⟨ts[i], ks[i]'(by omega), g2, List.getElem?_eq_getElem (by omega), keys i _ _ (List.getElem?_eq_getElem hi) (List.getElem?_eq_getElem (by omega))⟩
  have isz : its.toArray.size = ks.length := by rw [List.size_toArray, lits, len]
  refine ⟨fun i sv => ∃ (h' : Heap) (tk : Nat) (m : Str → Option Value) (xs : List (List Key × Addr × Value)), sv = { s1 with heap := h', toks := tk } ∧ h'.Ns C m ∧ Raw X.prog X.w h' D xs ∧ KT H1 (consts c (ks.take i)) xs ∧
      ∀ b o, s1.heap.get? b = some o → h'.get? b = some o,
    ⟨h3, tk3, _, [], rfl, ns0, ⟨_, #[], 0, empty, ⟨rfl, rfl, rfl⟩, rfl, rfl, List.nodup_nil⟩, .nil, fun b o e => old b o (Heap.get?_push_of_some _ e)⟩, ?_, ?_, ?_⟩
  · rintro i _ h' tk ⟨h4, tk4, m, xs, rfl, ns, dd, kt, kp⟩ keeps _
    have off : ∀ b : Addr, b ≠ s1.heap.objs.size → b ∉ [s1.heap.objs.size] := fun b hb hm => hb (by simpa using hm)
    have nC : C ≠ s1.heap.objs.size := Nat.ne_of_gt gC
    have nD : D ≠ s1.heap.objs.size := Nat.ne_of_gt gD
    exact ⟨h', tk, m, xs, rfl, ns.at' fun o e => keeps _ o (off _ nC) e, dd.at fun o e => keeps _ o (off _ nD) e, kt, fun b o e => keeps b o (off b (Nat.ne_of_lt (Heap.lt_size e))) (kp b o e)⟩
  · rintro i v _ hi hv st ⟨h4, tk4, m, xs, rfl, ns, dd, kt, kp⟩
    obtain ⟨t, k, rfl, ek, hk⟩ := lit i v hv
    refine wpAny_assign_Name (wpAny_storeName_local (kx _) ns (fun h5 ns5 same5 => ?_) (plain _))
    refine wpAny_tests_nil ?_
    show wpAny _ _ _ _ _ _
    rw [eval_Name _ _ _ hdb]
    refine wpAny_bind (wpAny_standAt (wpAny_loadName_local hkind (kx _) ns5 (v := .ref t) (if_pos rfl) (wpAny_Constant_int ?_)))
    have up5 : ∀ b o, b ≠ C → h4.get? b = some o → h5.get? b = some o := fun b o hb e => same5.extBut b o hb e
    have oldC : ∀ b o, s1.heap.get? b = some o → b ≠ C := fun b o e => (below (Heap.lt_size e) gC).1
    have kp5 : ∀ b o, s1.heap.get? b = some o → h5.get? b = some o := fun b o e => up5 b o (oldC b o e) (kp b o e)
    have dd5 := (dd.at fun o e => up5 D o ne e).dict inv1.hok kp5 kt
    have room : (tupleKind (mixKind X.prog X.w)).room X.A := Nat.lt_trans (Nat.lt_succ_self _) hu
    have isk : (tupleKind (mixKind X.prog X.w)).is h5 k t := by
      obtain ⟨ob, its2, n2, b1, b2⟩ := key_of inv1.hok hk
      exact ⟨ob, its2, n2, kp5 _ ob b1, b2⟩
    have lxs : xs.length ≤ sizeLine := by
      rw [← Paired.length kt]
      have z := consts_len c (ks.take i)
      rw [List.length_take] at z
      exact Nat.le_of_lt (small1000 (by omega))
    refine wpAny_dictSet_heap (hsz := lxs) room isk dd5 fun h6 dd6 same6 => ?_
    have step : consts c (ks.take (i + 1)) = putK (consts c (ks.take i)) k (.int c) := by
      rw [List.take_add_one, ek]
      exact consts_snoc c _ k
    have keep6 : ∀ b o, b ≠ D → h5.get? b = some o → h6.get? b = some o := fun b o hb e => (same6.2 b hb).trans e
    have oldD : ∀ b o, s1.heap.get? b = some o → b ≠ D := fun b o e => (below (Heap.lt_size e) gD).1
    obtain ⟨o6, es6, ep6, c1, c2, c3, c4, _, c6⟩ := dd6
    refine ⟨⟨h6, _, _, _, rfl, ns5.at' fun o e => keep6 _ o ne.symm e, ⟨o6, es6, ep6, c1, c2, c3, c4, c6⟩, ?_, fun b o e => keep6 b o (oldD b o e) (kp5 b o e)⟩, ?_⟩
    · rw [step]
      exact kt.put k hk ⟨_, rfl⟩
    · have nI : s1.heap.objs.size ≠ C := (Nat.ne_of_gt gC).symm
      have nI2 : s1.heap.objs.size ≠ D := (Nat.ne_of_gt gD).symm
      have nl := below hlt gC
      have nl2 := below hlt gD
      exact ⟨st.1.at fun o e => keep6 _ o nI2 (up5 _ o nI e), st.2.at fun o e => keep6 _ o nl2.1 (up5 _ o nl.1 e)⟩
  · rintro _ ⟨h4, tk4, m, xs, rfl, ns, dd, kt, kp⟩
    refine ⟨m, ns, fun h' same => ?_⟩
    have kp' : ∀ b o, s1.heap.get? b = some o → h'.get? b = some o := fun b o e => same.extBut b o (below (Heap.lt_size e) gC).1 (kp b o e)
    rw [isz, List.take_length] at kt
    have fit : (consts c ks).length ≤ sizeLine := Nat.le_of_lt (small1000 (Nat.le_trans (consts_len c ks) small))
    have sys : (D == sysModules) = false := beq_eq_false_iff_ne.mpr (Nat.ne_of_gt (Nat.lt_of_lt_of_le inv1.big gD'))
    obtain ⟨o, es, ep, a1, a2, a3, a4, a5⟩ := dd.at (h' := h') fun o e => same.extBut _ o ne e
    exact ⟨.ref D, _, inv1.laid (t' := tk4) kp' gD' (show ObjOk X.prog X.w _ h' D (.dT (consts c ks)) from ⟨fit, sys, xs, kt.keeps fun b ys e => by rw [upd_ne (ne_of_none e freeD)]; exact e, o, es, ep, a1, a2, a3, a4, a5⟩), rfl, q D freeD⟩
end
/-! ### tuples whose object is known to have no dict: their methods can be called -/
section
def IsFz (u : HO) (xs : List V) : Prop := ∃ o : Obj, u = .frz o (.tup xs) ∧ o.cls = .type "tuple" ∧ o.dict = none
def TpO (H : Hp) (a : Addr) (xs : List V) : Prop := ∃ u, H a = some u ∧ IsFz u xs
theorem TpO.sqt {K : PySem.W.Frag} {H : Hp} {a : Addr} {xs : List V} (h : TpO H a xs) : SqT K H a xs := by
  obtain ⟨u, h1, o, rfl, _⟩ := h
  exact .inl (.inr ⟨o, h1⟩)
theorem TpO.ne {H : Hp} {a b : Addr} {xs : List V} {v : HO} (h : TpO H a xs) (h' : H b = some v) (d : ∀ o : Obj, v ≠ .frz o (.tup xs)) : a ≠ b := by
  obtain ⟨u, h1, o, rfl, _⟩ := h
  exact ne_of h1 h' fun z => d o z.symm
theorem TpO.new {H : Hp} {a : Addr} {xs : List V} {u : HO} (h : IsFz u xs) : TpO (upd H a u) a xs := ⟨u, upd_same, h⟩
theorem TpO.taken {H : Hp} {a b : Addr} {xs : List V} (h : TpO H a xs) (n : H b = none) : a ≠ b := by
  obtain ⟨u, h1, _⟩ := h
  exact ne_of_none h1 n
theorem TpO.move {H H' : Hp} {a : Addr} {xs : List V} (h : TpO H a xs) (e : ∀ u, H a = some u → H' a = some u) : TpO H' a xs := by
  obtain ⟨u, h1, h2⟩ := h
  exact ⟨u, e u h1, h2⟩
variable {X : Cx}
/-- a new tuple is laid where nothing stood: what is known of it -/
theorem laid_fz {pins : List (Addr × Obj)} {σ : L2.St} {H : Hp} {s : Shared} {h' : Heap} {Q : VK} {xs : List V} {us : List Value} (inv : Inv X pins σ H { s with heap := h' }) (vals : Vals xs us) (fit : xs.length ≤ sizeLine)
    (q : ∀ p u, H p = none → IsFz u xs → Q (.ref p) (upd H p u)) : EP X pins σ Q (.ref h'.objs.size) { s with heap := h'.push { cls := .type "tuple", data := .seq us.toArray } } := by
  have at1 : (h'.push { cls := .type "tuple", data := .seq us.toArray }).get? h'.objs.size = some { cls := .type "tuple", data := .seq us.toArray } := Heap.get?_push_size _ rfl
  refine ⟨.ref h'.objs.size, _, inv.laid (t' := s.toks) (fun b u e => Heap.get?_push_of_some _ e) (Nat.le_refl _) ?_, rfl, q _ (.frz { cls := .type "tuple", data := .seq us.toArray } (.tup xs)) (inv.hok.fresh (Nat.le_refl _)) ⟨_, rfl, rfl, rfl⟩⟩
  exact ⟨at1, fit, us, vals, _, at1, rfl, _, rfl⟩
def tTupZ (t : TA) : TE := fun σ H Q => t σ H fun xs H1 => xs.length ≤ sizeLine ∧ ∀ p u, H1 p = none → IsFz u xs → Q (.ref p) (upd H1 p u)
theorem pe_tupZ {x1} {es : List Expr} {t : TA} {pos : Pos} (h : PA X es t) : PE X (.Tuple es x1 pos) (tTupZ t) :=
  ⟨fun pins s σ H Q inv hq => wpAny_Tuple_spliced (thn (h.run pos pins s σ H _ inv hq) fun us s1 ⟨xs, H1, inv1, vals, fit, q⟩ => ⟨vals.length ▸ fit, laid_fz (s := s1) inv1 vals fit q⟩)⟩
def rCatZ (K : PySem.W.Frag) : R2 := fun x y H Q => ∃ a b xs ys, x = .ref a ∧ y = .ref b ∧ SqT K H a xs ∧ SqT K H b ys ∧ xs ≠ [] ∧ xs.length + ys.length ≤ sizeLine ∧
  (ys = [] → Q (.ref a) H) ∧ (ys ≠ [] → ∀ p u, H p = none → IsFz u (xs ++ ys) → Q (.ref p) (upd H p u))
theorem op_catZ : OpR X (binaryOp .Add) (rCatZ X.K) := by
  rintro pins s σ H _ _ v u Q inv relx rely ⟨a, b, xs, ys, rfl, rfl, sa, sb, some1, fit, same, new⟩
  cases relx
  cases rely
  obtain ⟨us, valsA, tupA, _⟩ := inv.tuple sa
  obtain ⟨ws, valsB, tupB, _⟩ := inv.tuple sb
  exact HT.cat_tup tupA tupB (fun e => some1 (valsA.nil_iff.mp e)) (fun e => ⟨.ref a, H, inv, rfl, same (valsB.nil_iff.mp e)⟩)
    (fun e => laid_fz (s := s) inv (valsA.append valsB) (by rw [List.length_append]; exact fit) (new fun w => e (valsB.nil_iff.mpr w))) (by rw [← valsA.length, ← valsB.length]; exact fit)
def rTupZ (K : PySem.W.Frag) : List V → Hp → VK → Prop := fun xs H Q => ∃ p ys, xs = [.ref p] ∧ SqL K H p ys ∧ ∀ l u, H l = none → IsFz u ys → Q (.ref l) (upd H l u)
theorem call_tupleZ : CallR X (.type "tuple") (rTupZ X.K) := by
  rintro pins s σ H _ us Q inv rel ⟨p, ys, rfl, sq, q⟩
  rw [Vals.ref1 rel]
  obtain ⟨its, vals, pl, fit⟩ := inv.list sq
  exact call_tuple_list pl.isList (fun h' kp => laid_fz (s := s) (inv.kept (t' := s.toks) kp) vals fit q) (by rw [List.size_toArray, ← vals.length]; exact fit)
def tTM (r : V → List V → Hp → VK → Prop) (to : TE) (t : TA) : TE := fun σ H Q => to σ H fun x H1 => (∃ a xs, x = .ref a ∧ TpO H1 a xs) ∧ t σ H1 fun xs H2 => r x xs H2 Q
/-- t.m(e, ..), t such a tuple -/
theorem pe_tm {o e : Expr} {es : List Expr} {to : TE} {t : TA} {name : Str} {apos cpos : Pos} {id : String} {r : V → List V → Hp → VK → Prop} (slot : Slot "tuple" name id)
    (hty : typeOf (.builtin id) = pure (.type "method_descriptor")) (hm : MtR X id r) (ho : PE X o to) (ha : PA X (e :: es) t)
    (h1 : attributeBase o name X.env (eval o X.env) = eval o X.env := by rfl)
    (h2 : ((backTo cpos (starEach (e :: es) X.env)).all (fun x => !x.1) && (backToKw cpos (keywordEach [] X.env)).all (fun x => x.1.isSome) && decide ((e :: es).length + ([] : List Keyword).length + (if ([] : List Keyword).isEmpty then 0 else 1) < 30)) = true := by rfl)
    (h3 : (apos.endLine == cpos.line) = true := by rfl) (h4 : starEach (e :: es) X.env = (false, eval e X.env) :: starEach es X.env := by rfl)
    (h5 : (backTo cpos (starEach es X.env)).any (·.1) = false := by rfl) : PE X (.Call (.Attribute o name apos) (e :: es) [] cpos) (tTM r to t) := by
  refine ⟨fun pins s σ H Q inv h => wpAny_Call_method_late h1 h2 h3 rfl (thn (ho.run pins s σ H _ inv h) fun v s1 ⟨x, H1, inv1, rel, ty, q1⟩ => ?_)⟩
  obtain ⟨a, xs, rfl, _, hu, ob, rfl, hc, hd⟩ := ty
  cases rel
  have stands : s1.heap.get? a = some ob := (inv1.hok a _ hu).1
  have args := ha.run cpos pins s1 σ H1 _ inv1 q1
  rw [h4] at args
  refine ⟨"tuple", id, PySem.F.plainAttrs_tuple, slot, hty, ⟨ob, stands, hc⟩, fun b e => by cases e; exact ⟨ob, stands, hd⟩, ?_⟩
  rw [h4]
  have plain : ((false, eval e X.env) :: backTo cpos (starEach es X.env)).any (·.1) = false := by rw [List.any_cons, h5]; rfl
  exact Calls.callWith_builtin plain (Calls.evalArgs_plain (thn args fun us s2 ⟨vs, H2, inv2, rels, q2⟩ => hm pins s2 σ H2 (.ref a) vs _ us Q inv2 rfl rels q2))
end
end Lt

set_option Elab.async false
set_option linter.all false
set_option maxRecDepth 100000
set_option maxHeartbeats 4000000
namespace Lt
open PySem PySem.Spec PyProof.Rows L2
/-! ### heaps -/
theorem same_new {H : Hp} {p : Addr} (h : H p = none) (o : HO) : Same H (upd H p o) := fun b u q => by
  rw [upd_ne (ne_of_none q h)]
  exact q
theorem same_put {H H' : Hp} {p : Addr} {o : HO} (s : Same H H') (h : H p = none) : Same H (upd H' p o) := fun b u q => by
  rw [upd_ne (ne_of_none q h)]
  exact s _ _ q
theorem same_tup {K : PySem.W.Frag} {H H' : Hp} {a : Addr} {xs : List V} (e : Same H H') (h : SqT K H a xs) : SqT K H' a xs := by
  rcases h with (h | ⟨o, h⟩) | h
  · exact .inl (.inl (e _ _ h))
  · exact .inl (.inr ⟨o, e _ _ h⟩)
  · exact .inr h
theorem sqt {K : PySem.W.Frag} {H : Hp} {a : Addr} {xs : List V} (h : H a = some (.tup xs)) : SqT K H a xs := .inl (.inl h)
theorem sql {K : PySem.W.Frag} {H : Hp} {a : Addr} {xs : List V} (h : H a = some (.lst xs)) : SqL K H a xs := .inl (.inl h)
/-- all but what stands at T is as it was -/
def SameT (T : Addr) (H H' : Hp) : Prop := ∀ b o, b ≠ T → H b = some o → H' b = some o
theorem SameT.refl (T : Addr) (H : Hp) : SameT T H H := fun _ _ _ h => h
theorem SameT.trans {T : Addr} {H H1 H2 : Hp} (a : SameT T H H1) (b : SameT T H1 H2) : SameT T H H2 := fun c o n h => b c o n (a c o n h)
theorem SameT.of {T : Addr} {H H' : Hp} (s : Same H H') : SameT T H H' := fun c o _ h => s c o h
theorem SameT.free {T : Addr} {H H' : Hp} (e : SameT T H H') {l : Addr} (hl : l ≠ T) (h : H' l = none) : H l = none := by
  cases q : H l with
  | none => rfl
  | some o =>
    rw [e l o hl q] at h
    cases h
mutual
theorem dp_same {K : PySem.W.Frag} {H H' : Hp} (e : Same H H') : ∀ {v : V} {d : PyData}, Dp K H v d → Dp K H' v d
  | _, _, .non => .non
  | _, _, .bl b => .bl b
  | _, _, .int i => .int i
  | _, _, .str x => .str x
  | _, _, .lst h a => .lst (e.seq h) (dpAll_same e a)
  | _, _, .tup h a => .tup (same_tup e h) (dpAll_same e a)
theorem dpAll_same {K : PySem.W.Frag} {H H' : Hp} (e : Same H H') : ∀ {vs : List V} {ds : List PyData}, DpAll K H vs ds → DpAll K H' vs ds
  | _, _, .nil => .nil
  | _, _, .cons h t => .cons (dp_same e h) (dpAll_same e t)
end
theorem dpAll_strs {K : PySem.W.Frag} {H : Hp} : ∀ ss : List Str, DpAll K H (ss.map V.str) (ss.map PyData.str)
  | [] => .nil
  | x :: r => .cons (.str x) (dpAll_strs r)
theorem dpAll_ints {K : PySem.W.Frag} {H : Hp} : ∀ ns : List Int, DpAll K H (ns.map V.int) (ns.map PyData.int)
  | [] => .nil
  | x :: r => .cons (.int x) (dpAll_ints r)
theorem dpAll_snoc {K : PySem.W.Frag} {H : Hp} : ∀ {vs : List V} {ds : List PyData} {v : V} {d : PyData}, DpAll K H vs ds → Dp K H v d → DpAll K H (vs ++ [v]) (ds ++ [d])
  | _, _, _, _, .nil, h => .cons h .nil
  | _, _, _, _, .cons a t, h => .cons a (dpAll_snoc t h)
theorem dpAll_append {K : PySem.W.Frag} {H : Hp} : ∀ {vs ws : List V} {ds es : List PyData}, DpAll K H vs ds → DpAll K H ws es → DpAll K H (vs ++ ws) (ds ++ es)
  | _, _, _, _, .nil, h => h
  | _, _, _, _, .cons a t, h => .cons a (dpAll_append t h)
theorem dpAll_len {K : PySem.W.Frag} {H : Hp} : ∀ {vs : List V} {ds : List PyData}, DpAll K H vs ds → vs.length = ds.length
  | _, _, .nil => rfl
  | _, _, .cons _ t => congrArg (· + 1) (dpAll_len t)
theorem dpAll_get {K : PySem.W.Frag} {H : Hp} : ∀ {vs : List V} {ds : List PyData}, DpAll K H vs ds → ∀ {i : Nat} {v : V}, vs[i]? = some v → ∃ d, ds[i]? = some d ∧ Dp K H v d
  | _, _, .nil, i, v, h => by simp at h
  | _, _, .cons a t, 0, v, h => by
    simp only [List.getElem?_cons_zero, Option.some.injEq] at h
    exact ⟨_, rfl, h ▸ a⟩
  | _, _, .cons a t, i + 1, v, h => by
    simp only [List.getElem?_cons_succ] at h ⊢
    exact dpAll_get t h
theorem TpO.same {H H' : Hp} {a : Addr} {xs : List V} (h : TpO H a xs) (e : Same H H') : TpO H' a xs := h.move fun u q => e _ _ q
theorem TpO.sameT {T : Addr} {H H' : Hp} {a : Addr} {xs : List V} (h : TpO H a xs) (e : SameT T H H') (n : a ≠ T) : TpO H' a xs := h.move fun u q => e _ _ n q
/-! ### walks -/
theorem in_it {J : It} {n : Nat} {G : Hp → Prop} {Y : Nat → Hp → V → Hp → Prop} (w : Walk J n G Y) {Qd : Hp → Prop} {R : V → Hp → (Hp → Prop) → Prop} {H0 : Hp} (Pv : Nat → Hp → Prop) (h0 : Pv 0 H0)
    (hG : ∀ i H, i ≤ n → Pv i H → G H) (hs : ∀ i x H H', i < n → Pv i H → Y i H x H' → R x H' (Pv (i + 1))) (hd : ∀ H, Pv n H → Qd H) :
    ∃ W : Nat → Nat → Hp → Prop, (∃ m, W 0 m H0) ∧ ∀ i m H, W i m H → (J.stop i H ∧ Qd H) ∨
      (J.go i H ∧ ∃ Nx : Hp → Prop, (∀ H', Nx H' → ∃ m', m' < m ∧ W (i + 1) m' H') ∧ ∀ x H', J.yld i H x H' → R x H' Nx) := by
  refine ⟨fun i m H => m = n - i ∧ i ≤ n ∧ Pv i H, ⟨n, by simp, Nat.zero_le _, h0⟩, ?_⟩
  rintro i m H ⟨rfl, hi, p⟩
  by_cases hlt : i < n
  · exact .inr ⟨w.goes i H hlt (hG i H hi p), Pv (i + 1), fun H' p' => ⟨n - (i + 1), by omega, rfl, hlt, p'⟩, fun x H' y => hs i x H H' hlt p (w.yields i H x H' hlt (hG i H hi p) y)⟩
  · have e : i = n := by omega
    subst e
    exact .inl ⟨w.stops H (hG i H hi p), hd H p⟩
/-! ### the tape -/
structure Tape (H : Hp) (T S : Addr) (ns : List Int) : Prop where
  at_ : ∃ i c : Int, H T = some (.lst [.ref S, .int i, .int c])
  scr : H S = some (.lst (ns.map V.int))
theorem Tape.ne {H : Hp} {T S : Addr} {ns : List Int} (t : Tape H T S ns) : S ≠ T := by
  obtain ⟨i, c, h⟩ := t.at_
  refine ne_of t.scr h fun z => ?_
  injection z with z
  cases ns with
  | nil => cases z
  | cons a r => cases z
theorem Tape.same {H H' : Hp} {T S : Addr} {ns : List Int} (t : Tape H T S ns) (s : Same H H') : Tape H' T S ns := by
  obtain ⟨i, c, h⟩ := t.at_
  exact ⟨⟨i, c, s _ _ h⟩, s _ _ t.scr⟩
theorem Tape.put {H : Hp} {T S : Addr} {ns : List Int} (t : Tape H T S ns) (i c : Int) : Tape (upd H T (.lst [.ref S, .int i, .int c])) T S ns :=
  ⟨⟨i, c, upd_same⟩, by rw [upd_ne t.ne]; exact t.scr⟩
theorem Tape.taken {H : Hp} {T S : Addr} {ns : List Int} (t : Tape H T S ns) : ∃ o, H T = some o := by
  obtain ⟨i, c, h⟩ := t.at_
  exact ⟨_, h⟩
theorem sameT_put {T : Addr} {H : Hp} (o : HO) : SameT T H (upd H T o) := fun b u n q => by rw [upd_ne n]; exact q
theorem new_ne {H' : Hp} {T p : Addr} {o : HO} (h : H' T = some o) (n : H' p = none) : p ≠ T := fun e => by
  rw [e, h] at n
  cases n
/-! ### texts in order -/
abbrev ltS (a b : Str) : Prop := a.cps.toList < b.cps.toList
theorem str_ext {a b : Str} (h : a.cps.toList = b.cps.toList) : a = b := by
  cases a with
  | mk x =>
    cases b with
    | mk y =>
      have e : x = y := Array.toList_inj.mp h
      rw [e]
theorem ltS_tri {a b : Str} (h1 : ¬ ltS a b) (h2 : ¬ ltS b a) : a = b := by
  apply str_ext
  rw [List.not_lt] at h1 h2
  exact List.le_antisymm h2 h1
theorem ltS_asymm {a b : Str} (h : ltS a b) : ¬ ltS b a := List.lt_asymm h
theorem ltS_irrefl (a : Str) : ¬ ltS a a := List.lt_irrefl _
theorem rising_pw : ∀ (p : Str) (l : List Str), risingS p l = true → (p :: l).Pairwise fun a b => ¬ ltS b a
  | p, [], _ => List.pairwise_singleton _ _
  | p, x :: r, h => by
    have h' : (!ltCps x.cps.toList p.cps.toList && risingS x r) = true := h
    rw [Bool.and_eq_true] at h'
    have ih := rising_pw x r h'.2
    have hx : ¬ ltS x p := by
      have q := h'.1
      rw [ltCps_eq] at q
      simpa using q
    refine List.pairwise_cons.mpr ⟨fun y hy => ?_, ih⟩
    rcases List.mem_cons.mp hy with e | hy
    · rw [e]
      exact hx
    · have q := (List.pairwise_cons.mp ih).1 y hy
      intro z
      by_cases e : ltS p x
      · exact q (List.lt_trans z e)
      · rw [ltS_tri e hx] at z
        exact q z
theorem sorted_pw {l : List Str} (h : sortedS l = true) : l.Pairwise fun a b => ¬ ltS b a := by
  cases l with
  | nil => exact List.Pairwise.nil
  | cons x r => exact rising_pw x r h
theorem sorted_one {l m : List Str} (hl : sortedS l = true) (hm : sortedS m = true) (p : l.Perm m) : l = m :=
  List.Perm.eq_of_pairwise (fun a b _ _ h1 h2 => ltS_tri h2 h1) (sorted_pw hl) (sorted_pw hm) p
/-- both of a pair, the lesser first -/
def asPair (q : Str × Str) : Str × Str := if ltS q.1 q.2 then (q.1, q.2) else (q.2, q.1)
theorem sorted_two {a b : Str} {l : List Str} (p : l.Perm [a, b]) (h : sortedS l = true) : l = [(asPair (a, b)).1, (asPair (a, b)).2] := by
  refine sorted_one h ?_ (p.trans ?_)
  · unfold asPair
    by_cases c : ltS a b
    · rw [if_pos c]
      show (!ltCps b.cps.toList a.cps.toList && true) = true
      rw [ltCps_eq, decide_eq_false (ltS_asymm c)]
      rfl
    · rw [if_neg c]
      show (!ltCps a.cps.toList b.cps.toList && true) = true
      rw [ltCps_eq, decide_eq_false c]
      rfl
  · unfold asPair
    by_cases c : ltS a b
    · rw [if_pos c]
    · rw [if_neg c]
      exact List.Perm.swap b a []
/-- the pairs of a row of texts, by the place of the first -/
def prs (ys : List Str) : Nat → List (Str × Str)
  | 0 => []
  | i + 1 => prs ys i ++ match ys[i]? with
    | some a => (ys.drop (i + 1)).map fun b => (a, b)
    | none => []
theorem prs_succ {ys : List Str} {i : Nat} {a : Str} (h : ys[i]? = some a) : prs ys (i + 1) = prs ys i ++ (ys.drop (i + 1)).map fun b => (a, b) := by
  show prs ys i ++ (match ys[i]? with | some a => (ys.drop (i + 1)).map fun b => (a, b) | none => []) = _
  rw [h]
theorem prs_mem {ys : List Str} {i j : Nat} {a b : Str} (hi : ys[i]? = some a) (hj : ys[j]? = some b) (h : i < j) : ∀ n, i < n → (a, b) ∈ prs ys n
  | 0, z => by omega
  | n + 1, z => by
    by_cases e : i = n
    · subst e
      rw [prs_succ hi]
      refine List.mem_append_right _ (List.mem_map.mpr ⟨b, ?_, rfl⟩)
      have q : (ys.drop (i + 1))[j - (i + 1)]? = some b := by
        rw [List.getElem?_drop, show i + 1 + (j - (i + 1)) = j by omega]
        exact hj
      exact List.mem_of_getElem? q
    · exact List.mem_append_left _ (prs_mem hi hj h n (by omega))
theorem prs_len (ys : List Str) : ∀ n, (prs ys n).length ≤ n * ys.length
  | 0 => by simp [prs]
  | n + 1 => by
    have ih := prs_len ys n
    rw [Nat.succ_mul]
    cases h : ys[n]? with
    | none =>
      have e : prs ys (n + 1) = prs ys n ++ (match ys[n]? with | some a => (ys.drop (n + 1)).map fun b => (a, b) | none => []) := rfl
      rw [e, h, List.append_nil]
      omega
    | some a =>
      rw [prs_succ h, List.length_append, List.length_map, List.length_drop]
      omega
theorem pair_in {ys bs : List Str} {a b : Str} (p : ys.Perm bs) (hs : sortedS ys = true) (ha : a ∈ bs) (hb : b ∈ bs) (ne : a ≠ b) : asPair (a, b) ∈ prs ys ys.length := by
  have key : ∀ {c d : Str}, c ∈ bs → d ∈ bs → ltS c d → (c, d) ∈ prs ys ys.length := fun {c d} hc hd lt => by
    obtain ⟨i, hi⟩ := List.getElem?_of_mem (p.mem_iff.mpr hc)
    obtain ⟨j, hj⟩ := List.getElem?_of_mem (p.mem_iff.mpr hd)
    have li := (List.getElem?_eq_some_iff.mp hi).1
    have lj := (List.getElem?_eq_some_iff.mp hj).1
    refine prs_mem hi hj ?_ _ li
    by_cases h : i < j
    · exact h
    · exfalso
      by_cases e : i = j
      · subst e
        rw [hi] at hj
        cases hj
        exact ltS_irrefl _ lt
      · have pw := List.pairwise_iff_getElem.mp (sorted_pw hs) j i lj li (by omega)
        rw [(List.getElem?_eq_some_iff.mp hi).2, (List.getElem?_eq_some_iff.mp hj).2] at pw
        exact pw lt
  unfold asPair
  by_cases c : ltS a b
  · rw [if_pos c]
    exact key ha hb c
  · rw [if_neg c]
    refine key hb ha ?_
    by_cases d : ltS b a
    · exact d
    · exact absurd (ltS_tri c d) ne
/-! ### what readings do -/
/-- the pile behind one reading -/
def lay (bs : List Str) (b : Str) : List Str := b :: bs.eraseIdx (bs.idxOf b)
/-- the books above -/
def over (bs : List Str) (b : Str) : List Str := bs.take (bs.idxOf b)
def behindM : List Str → List Str → List Str
  | bs, [] => bs
  | bs, b :: r => behindM (lay bs b) r
def liftedM : List Str → List Str → List Nat
  | _, [] => []
  | bs, b :: r => bs.idxOf b :: liftedM (lay bs b) r
def rowsM : List Str → List Str → List (Str × Str)
  | _, [] => []
  | bs, b :: r => (over bs b).map (fun o => (b, o)) ++ rowsM (lay bs b) r
theorem behindM_snoc (bs : List Str) : ∀ (rs : List Str) (b : Str), behindM bs (rs ++ [b]) = lay (behindM bs rs) b := by
  intro rs
  induction rs generalizing bs with
  | nil => intro b; rfl
  | cons x r ih => intro b; exact ih (lay bs x) b
theorem liftedM_snoc (bs : List Str) : ∀ (rs : List Str) (b : Str), liftedM bs (rs ++ [b]) = liftedM bs rs ++ [(behindM bs rs).idxOf b] := by
  intro rs
  induction rs generalizing bs with
  | nil => intro b; rfl
  | cons x r ih =>
    intro b
    show bs.idxOf x :: liftedM (lay bs x) (r ++ [b]) = bs.idxOf x :: (liftedM (lay bs x) r ++ [(behindM (lay bs x) r).idxOf b])
    rw [ih]
theorem rowsM_snoc (bs : List Str) : ∀ (rs : List Str) (b : Str), rowsM bs (rs ++ [b]) = rowsM bs rs ++ (over (behindM bs rs) b).map fun o => (b, o) := by
  intro rs
  induction rs generalizing bs with
  | nil => intro b; exact List.append_nil _
  | cons x r ih =>
    intro b
    show (over bs x).map (fun o => (x, o)) ++ rowsM (lay bs x) (r ++ [b]) = ((over bs x).map (fun o => (x, o)) ++ rowsM (lay bs x) r) ++ (over (behindM (lay bs x) r) b).map fun o => (b, o)
    rw [ih, List.append_assoc]
theorem idx_lt {bs : List Str} {b : Str} (h : b ∈ bs) : bs.idxOf b < bs.length := List.idxOf_lt_length_iff.mpr h
theorem idx_get {bs : List Str} {b : Str} (h : b ∈ bs) : bs[bs.idxOf b]? = some b := by
  rw [List.getElem?_eq_getElem (idx_lt h), List.getElem_idxOf (idx_lt h)]
theorem idx_first {bs : List Str} {b : Str} : ∀ m, m < bs.idxOf b → bs[m]? ≠ some b := by
  induction bs with
  | nil => intro m h; simp at h
  | cons x r ih =>
    intro m h
    rw [List.idxOf_cons] at h
    by_cases e : x == b
    · rw [e] at h
      simp at h
    · have e' : (x == b) = false := by simpa using e
      rw [e'] at h
      simp only [cond_false] at h
      cases m with
      | zero =>
        intro z
        simp only [List.getElem?_cons_zero, Option.some.injEq] at z
        rw [z] at e'
        simp at e'
      | succ m =>
        simp only [List.getElem?_cons_succ]
        exact ih m (by omega)
theorem lay_perm {bs : List Str} {b : Str} (h : b ∈ bs) : (lay bs b).Perm bs := by
  have q := (List.perm_cons_erase h).symm
  rw [List.erase_eq_eraseIdx_of_idxOf rfl] at q
  exact q
theorem behindM_perm : ∀ {bs : List Str} (rs : List Str), (∀ b ∈ rs, b ∈ bs) → (behindM bs rs).Perm bs
  | bs, [], _ => List.Perm.refl _
  | bs, b :: r, h => by
    have hb := h b (List.mem_cons_self ..)
    have p := lay_perm hb
    exact (behindM_perm r fun c hc => p.mem_iff.mpr (h c (List.mem_cons_of_mem _ hc))).trans p
/-- a book above another is another -/
theorem over_ne {bs : List Str} {b o : Str} (h : o ∈ over bs b) : o ≠ b := by
  obtain ⟨m, hm⟩ := List.getElem?_of_mem h
  have l := (List.getElem?_eq_some_iff.mp hm).1
  unfold over at hm l
  rw [List.length_take] at l
  rw [List.getElem?_take_of_lt (by omega)] at hm
  intro e
  subst e
  exact idx_first m (by omega) hm
theorem over_mem {bs : List Str} {b o : Str} (h : o ∈ over bs b) : o ∈ bs := List.mem_of_mem_take h
/-- how often both passed one another -/
def cnt (rows : List (Str × Str)) (q : Str × Str) : Nat := (rows.filter fun r => decide (asPair r = q)).length
theorem cnt_nil (q : Str × Str) : cnt [] q = 0 := rfl
theorem cnt_snoc (rows : List (Str × Str)) (r q : Str × Str) : cnt (rows ++ [r]) q = cnt rows q + if asPair r = q then 1 else 0 := by
  unfold cnt
  rw [List.filter_append, List.length_append]
  by_cases h : asPair r = q
  · rw [if_pos h, List.filter_cons_of_pos (by simpa using h)]
    rfl
  · rw [if_neg h, List.filter_cons_of_neg (by simpa using h)]
    rfl
/-! ### slices -/
theorem cut_to {xs : List V} {j : Nat} (h : j ≤ xs.length) : cutV xs none (some (j : Int)) = xs.take j := by
  unfold cutV
  rw [HT.sIx_none, HT.sIx_nat, Nat.min_eq_left h]
  simp
theorem cut_from {xs : List V} {j : Nat} (h : j ≤ xs.length) : cutV xs (some (j : Int)) none = xs.drop j := by
  unfold cutV
  rw [HT.sIx_none, HT.sIx_nat, Nat.min_eq_left h]
  rw [List.take_of_length_le (by rw [List.length_drop]; omega)]
/-! ### shapes -/
theorem shaped_of {d : PyData} (h1 : d.canLay0 = true) (h2 : d.depth ≤ 64) : SeqAt.shaped d = true := by
  unfold SeqAt.shaped
  rw [h1, decide_eq_true h2]
  rfl
theorem canAll : ∀ ds : List PyData, (∀ d ∈ ds, d.canLay0 = true) → PyData.canLayAll0 ds = true
  | [], _ => by rw [PyData.canLayAll0]
  | d :: r, h => by
    rw [PyData.canLayAll0, h d (List.mem_cons_self ..), canAll r fun x hx => h x (List.mem_cons_of_mem _ hx)]
    rfl
theorem depthAll_le {n : Nat} : ∀ ds : List PyData, (∀ d ∈ ds, d.depth ≤ n) → PyData.depthAll ds ≤ n
  | [], _ => by rw [PyData.depthAll]; exact Nat.zero_le _
  | d :: r, h => by
    rw [PyData.depthAll]
    exact Nat.max_le.mpr ⟨h d (List.mem_cons_self ..), depthAll_le r fun x hx => h x (List.mem_cons_of_mem _ hx)⟩
/-! ### rules within a comprehension: the written part is named -/
section
variable {X : Cx} {K : PySem.W.Frag}
theorem ixL (e : X.K = K) : IxR X (rIxL K) := by
  subst e
  exact ix_list
theorem ixT (e : X.K = K) : IxR X (rIxT K) := by
  subst e
  exact ix_tup
theorem cLen (e : X.K = K) : CallR X (.builtin "len") (Evl.rLenS K) := by
  subst e
  exact call_len_seq
theorem cSortT (e : X.K = K) : CallR X (.builtin "sorted") (rSortedT K) := by
  subst e
  exact cr_sortedT
theorem oEqD (hu : X.A.units + 64 < cLine) (e : X.K = K) : OpR X (compareOp .Eq) (rEqD K) := by
  subst e
  exact op_eqD hu
end
end Lt

set_option Elab.async false
set_option linter.all false
set_option maxRecDepth 100000
set_option maxHeartbeats 4000000
/-! len(set(xs)) of texts, whatever stands in xs more than once. -/
namespace Lt
open PySem PySem.Spec PyProof.Rows L2
/-! ### how many unlike texts -/
def nub (l : List Str) : List Str := l.foldl (fun acc x => if x ∈ acc then acc else acc ++ [x]) []
theorem nub_snoc (l : List Str) (x : Str) : nub (l ++ [x]) = if x ∈ nub l then nub l else nub l ++ [x] := by
  unfold nub
  rw [List.foldl_append]
  rfl
theorem snoc_ind {p : List Str → Prop} (h0 : p []) (h1 : ∀ l x, p l → p (l ++ [x])) : ∀ l, p l := by
  intro l
  have z : ∀ r : List Str, p r.reverse := by
    intro r
    induction r with
    | nil => exact h0
    | cons a r ih =>
      rw [List.reverse_cons]
      exact h1 _ a ih
  have q := z l.reverse
  rwa [List.reverse_reverse] at q
theorem nub_mem (l : List Str) : ∀ z, z ∈ nub l ↔ z ∈ l := by
  refine snoc_ind (p := fun l => ∀ z, z ∈ nub l ↔ z ∈ l) (fun z => Iff.rfl) (fun l x ih z => ?_) l
  rw [nub_snoc]
  by_cases c : x ∈ nub l
  · rw [if_pos c, ih z, List.mem_append, List.mem_singleton]
    exact ⟨.inl, fun h => h.elim id fun e => by rw [e]; exact (ih x).mp c⟩
  · rw [if_neg c, List.mem_append, List.mem_append, ih z]
theorem nub_nodup (l : List Str) : (nub l).Nodup := by
  refine snoc_ind (p := fun l => (nub l).Nodup) List.nodup_nil (fun l x ih => ?_) l
  rw [nub_snoc]
  by_cases c : x ∈ nub l
  · rw [if_pos c]
    exact ih
  · rw [if_neg c]
    exact nd_snoc ih c
def dist (l : List Str) : Nat := (nub l).length
theorem dist_snoc (l : List Str) (x : Str) : dist (l ++ [x]) = if x ∈ l then dist l else dist l + 1 := by
  unfold dist
  rw [nub_snoc]
  by_cases c : x ∈ nub l
  · rw [if_pos c, if_pos ((nub_mem l x).mp c)]
  · rw [if_neg c, if_neg fun z => c ((nub_mem l x).mpr z), List.length_append]
    rfl
theorem dist_le (l : List Str) : dist l ≤ l.length := by
  refine snoc_ind (p := fun l => dist l ≤ l.length) (Nat.le_refl _) (fun l x ih => ?_) l
  rw [dist_snoc, List.length_append, List.length_singleton]
  split <;> omega
/-- unlike texts, the same ones: as many -/
theorem dist_of {l ys : List Str} (nd : ys.Nodup) (mem : ∀ z, z ∈ ys ↔ z ∈ l) : ys.length = dist l := by
  have p : ys.Perm (nub l) := by
    rw [List.perm_ext_iff_of_nodup nd (nub_nodup l)]
    exact fun z => (mem z).trans (nub_mem l z).symm
  exact p.length_eq
/-! ### the set -/
section
variable {prog : Program} {w : World} {A : Around} {R : Result → Shared → Prop} {I : Addr} {fp wr : List Addr} {G : Array GenState → Array GenState → Prop} {n : Nat} {P : Nat → Value → Prop} {St : Nat → Shared → Prop}
theorem txt_loop (W : WalksS prog w A.in1 I fp wr G n P St) (S : Addr) (off : S ∉ fp) (ss : List Str) (len : n = ss.length) (room : n + 1 < scanBound) (val : ∀ i v, P i v → ∃ z t, ss[i]? = some z ∧ v = .str z t) :
    ∀ (m i : Nat) (s : Shared), i + m = n → St i s → s.heap.SetOf (PySem.strKind prog w) S (fun z => decide (z ∈ ss.take i)) (dist (ss.take i)) →
      (∀ s', Moved (S :: wr) G s s' → s'.heap.SetOf (PySem.strKind prog w) S (fun z => decide (z ∈ ss)) (dist ss) → R (.ok (.ret .none)) s') →
      codeAny (model prog w) A (.builtin "set.update.loop" ⟨[.ref S, .ref I], []⟩) R s := by
  have offW : S ∉ wr := fun h => off (W.sub _ h)
  have more : ∀ b ∈ wr, b ∈ S :: wr := fun b hb => .tail _ hb
  have carry : ∀ {s1 s2 : Shared} {M : Str → Bool} {c : Nat}, Moved wr G s1 s2 → s1.heap.SetOf (PySem.strKind prog w) S M c → s2.heap.SetOf (PySem.strKind prog w) S M c := fun mv st => by
    obtain ⟨o, es, ep, tb, ho, rest⟩ := st
    exact ⟨o, es, ep, tb, mv.heap S _ offW ho, rest⟩
  intro m
  induction m with
  | zero =>
    intro i s him st set done
    have hin : i = n := by omega
    subst hin
    refine codeAny_builtin F.entry_set_update_loop ?_
    rw [Around.under_plainId F.plain_set_update_loop _]
    show wpAny _ A.in1 (pyNext (.ref I) >>= _) _ _ s
    refine wpAny_bind (W.done s _ _ st fun s2 mv => ?_)
    rw [List.take_of_length_le (Nat.le_of_eq len.symm)] at set
    exact wpAny_pure (done s2 (mv.mono more) (carry mv set))
  | succ m ih =>
    intro i s him st set done
    refine codeAny_builtin F.entry_set_update_loop ?_
    rw [Around.under_plainId F.plain_set_update_loop _]
    show wpAny _ A.in1 (pyNext (.ref I) >>= _) _ _ s
    refine wpAny_bind (W.item i s _ _ (by omega) st fun v s2 pv st2 mv => ?_)
    obtain ⟨z, t, hz, rfl⟩ := val i v pv
    have isz : (PySem.strKind prog w).is z (.str z t) = true := strKind_is _ _ _ _
    have few : dist (ss.take i) ≤ i := Nat.le_trans (dist_le _) (by rw [List.length_take]; omega)
    have set2 := carry mv set
    show wpAny _ A.in1 (holding [Value.str z t] (setAdd S (.str z t)) >>= _) _ _ s2
    refine wpAny_bind (wpAny_holding ?_)
    unfold setAdd
    refine wpAny_holding (wpAny_bind ((PySem.strKind prog w).pyHash (k := z) isz (wpAny_setAddHashed_of (knd := PySem.strKind prog w) (s := { s2 with toks := s2.toks + 1 }) isz rfl set2 (by omega) fun h3 same set3 => ?_)))
    have set4 : h3.SetOf (PySem.strKind prog w) S (fun y => decide (y ∈ ss.take (i + 1))) (dist (ss.take (i + 1))) := by
      have e1 : ss.take (i + 1) = ss.take i ++ [z] := by
        rw [List.take_add_one, hz]
        rfl
      refine SetOf_congr set3 (fun y => ?_) ?_
      · rw [e1]
        simp [List.mem_append]
      · rw [e1, dist_snoc]
        simp
    have keep : ∀ b o, b ≠ S → s2.heap.get? b = some o → h3.get? b = some o := fun b o hb e => (same.2 b hb).trans e
    refine wpAny_pure ⟨plainId_quiet F.plain_set_update_loop _, ih (i + 1) _ (by omega) (W.frame _ s2 _ _ st2 (Nat.le_succ _) fun b hb o e => keep b o (fun h => off (h ▸ hb)) e) set4 fun s5 mv5 set5 => ?_⟩
    exact done s5 (Moved.trans W.gtrans ((mv.mono more).then_heap (Nat.le_succ _) fun b o hb e => keep b o (fun h => hb (h ▸ List.mem_cons_self)) e) mv5) set5
end
section
variable {prog : Program} {w : World} {A : Around} {E : Value → Shared → Prop} {s : Shared}
/-- set(v): what is left is to fill the new set -/
theorem set_call {v : Value} {Q : Value → Shared → Prop} (fill : ∀ led : Bool, wpAny (model prog w) A.in1.in1 (Builtin.«set.__init__» ⟨[.ref s.heap.objs.size, v], []⟩)
      (fun fin s' => match fin with
        | .done f => wants (fun r s2 => r = .none ∧ Q (.ref s.heap.objs.size) s2) E (.ok f) s'
        | .again c => c.quiet = true ∧ codeAny (model prog w) A.in1 c (wants (fun r s2 => r = .none ∧ Q (.ref s.heap.objs.size) s2) E) s')
      (fun e s' => wants (fun r s2 => r = .none ∧ Q (.ref s.heap.objs.size) s2) E (.error e) s')
      { s with heap := s.heap.push { cls := .type "set", dict := none, data := .set #[] 0 (.fresh 0 0 led) } }) : wpAny (model prog w) A (call (.type "set") [v]) Q E s := by
  have ft := PySem.F.called_set
  obtain ⟨c, tl, mro⟩ := ft.mro
  have made := ft.made
  have sub := ft.sub
  have notT := ft.notType
  have can := ft.canCreate
  have okT := PySem.F.typeCall_set_1 v
  refine wpAny_call (codeAny_of_tree (show wpAny _ _ (callAny (.type "set") _) _ _ _ from wpAny_pure ⟨Code.quiet_builtin _ (by decide +kernel), codeAny_builtin PySem.F.entry_type_call ?_⟩))
  rw [Around.under_plain (weight_type_call_type "set" [v] []) rfl]
  repeat (any_goals (first | assumption | wp_step))
  refine codeAny_mono (code_set_new_1 v (E := E) (Q₁ := fun obj s1 => ∃ led : Bool, obj = .ref s.heap.objs.size ∧ s1 = { s with heap := s.heap.push { cls := .type "set", dict := none, data := .set #[] 0 (.fresh 0 0 led) } }) fun led => ⟨led, rfl, rfl⟩) fun r s1 got => ?_
  cases r with
  | error e => exact got
  | ok fl =>
    cases fl with
    | ret obj =>
      obtain ⟨led, rfl, rfl⟩ := got
      have isSet : Shared.TypeIs { s with heap := s.heap.push { cls := .type "set", dict := none, data := .set #[] 0 (.fresh 0 0 led) } } (.ref s.heap.objs.size) "set" := ⟨_, Heap.get?_push_size _ rfl, rfl⟩
      have look := ft.init.lookup
      have bound := ft.init.bind (.ref s.heap.objs.size)
      repeat (any_goals (first | assumption | wp_step))
      refine codeAny_mono (codeAny_call_builtin ft.init.plain PySem.F.entry_set_init (check_set_init_1 isSet (fill led))) fun r2 s2 got2 => ?_
      cases r2 with
      | error e => exact got2
      | ok fl2 =>
        cases fl2 with
        | ret r =>
          obtain ⟨rfl, q⟩ := got2
          repeat (any_goals (first | assumption | wp_step))
        | _ => exact got2.elim
    | _ => exact got.elim
theorem set_txts {l : Addr} {items : Array Value} {ss : List Str} {Q : Value → Shared → Prop} (calm : A.handled = none) (hl : s.heap.IsList l items) (val : ∀ (i : Nat) (v : Value), items[i]? = some v → ∃ z t, ss[i]? = some z ∧ v = .str z t)
    (len : items.size = ss.length) (room : items.size + 1 < scanBound)
    (h : ∀ (h' : Heap) (tk : Nat), h'.SetOf (PySem.strKind prog w) s.heap.objs.size (fun z => decide (z ∈ ss)) (dist ss) → (∀ b o, s.heap.get? b = some o → h'.get? b = some o) → Q (.ref s.heap.objs.size) { s with heap := h', toks := tk }) :
    wpAny (model prog w) A (call (.type "set") [.ref l]) Q E s := by
  refine set_call fun led => ?_
  have below : (l : Nat) < s.heap.objs.size := by
    obtain ⟨o, ho, _⟩ := hl
    exact Heap.lt_size ho
  have atS : (s.heap.push { cls := .type "set", dict := none, data := .set #[] 0 (.fresh 0 0 led) }).get? s.heap.objs.size = some { cls := .type "set", dict := none, data := .set #[] 0 (.fresh 0 0 led) } := Heap.get?_push_size _ rfl
  have hl1 : (s.heap.push { cls := .type "set", dict := none, data := .set #[] 0 (.fresh 0 0 led) }).IsList l items := hl.push _
  obtain ⟨⟨oc, od, odt, osl⟩, ho1, hc1, n1, hd1⟩ := id hl1
  simp only at hc1 hd1
  subst hc1 hd1
  have no1 := PySem.F.sub_list_set
  have no2 := PySem.F.sub_list_frozenset
  have no3 : (Value.type "list" == Value.type "dict") = false := by decide
  unfold Builtin.«set.__init__» noKeywords Builtin.Frozenset.updateFrom
  generalize hPI : pyIter = PI
  wp_walk
  subst hPI
  refine wpAny_pyIter_list hl1 (wpAny_bind (wpAny_runValue ?_))
  have top1 : (s.heap.push { cls := .type "set", dict := none, data := .set #[] 0 (.fresh 0 0 led) }).objs.size = s.heap.objs.size + 1 := Heap.size_push _ _
  have calm3 : A.in1.in1.in1.handled = none := by simp [calm]
  have neI : l ≠ (s.heap.push { cls := .type "set", dict := none, data := .set #[] 0 (.fresh 0 0 led) }).objs.size := by
    rw [top1]
    exact Nat.ne_of_lt (Nat.lt_succ_of_lt below)
  have offS : s.heap.objs.size ∉ [(s.heap.push { cls := .type "set", dict := none, data := .set #[] 0 (.fresh 0 0 led) }).objs.size, l] := by
    rw [top1]
    intro z
    rcases List.mem_cons.mp z with e | e
    · exact Nat.succ_ne_self _ e.symm
    · exact absurd (List.mem_singleton.mp e) (Nat.ne_of_gt below)
  refine txt_loop ((Walks.list calm3 _ l neI items).toS) s.heap.objs.size offS ss len room val items.size 0 _ (Nat.zero_add _) ⟨⟨_, Heap.get?_push_size _ rfl, rfl, rfl⟩, hl1.push _⟩ ?empty ?filled
  case empty =>
    refine SetOf_congr ((setObjOf_fresh (knd := PySem.strKind prog w) led).setOf (Heap.get?_push_of_some _ atS) (by unfold scanBound; omega)) (fun z => ?_) rfl
    simp
  case filled =>
    intro s5 mv set5
    obtain ⟨h5, g5, d5, tk5, os5⟩ := s5
    obtain rfl : g5 = s.gens := mv.gens
    obtain rfl : d5 = s.drawn := mv.drawn
    obtain rfl : os5 = s.os := mv.os
    show wpAny _ _ _ _ _ _
    refine wpAny_pure (show wpAny _ _ (ret Value.none) _ _ _ from wpAny_pure ⟨rfl, h h5 tk5 set5 fun b o e => ?_⟩)
    have lt : b < s.heap.objs.size := Heap.lt_size e
    refine mv.heap b o (fun z => ?_) (Heap.get?_push_of_some _ (Heap.get?_push_of_some _ e))
    rcases List.mem_cons.mp z with e2 | e2
    · exact absurd e2 (Nat.ne_of_lt lt)
    · rw [List.mem_singleton.mp e2, top1] at lt
      exact absurd lt (Nat.not_lt.mpr (Nat.le_succ _))
end
section
variable {X : Cx}
def tLenSetS (K : PySem.W.Frag) (ta : TE) : TE := fun σ H Q => ta σ H fun x H1 => ∃ (l : Addr) (ss : List Str), x = .ref l ∧ SqL K H1 l (ss.map V.str) ∧ ss.length ≤ 1000 ∧ Q (.int (dist ss : Nat)) H1
theorem pe_lenSetS {a : Expr} {ta : TE} {p p2 q pos : Pos} (hcalm : X.calm = true) (g1 : Gl X "len") (m1 : X.mg "len" = none) (g2 : Gl X "set") (m2 : X.mg "set" = none) (ha : PE X a ta)
    (one : starEach [a] X.env = (false, eval a X.env) :: starEach [] X.env := by rfl) : PE X (.Call (.Name "len" p) [.Call (.Name "set" p2) [a] [] q] [] pos) (tLenSetS X.K ta) := by
  refine ⟨fun pins s σ H Q inv h => Call_ (ld_blt inv g1 m1 boot_len (callWith_builtin1 (args_cons ?_ rfl) rfl rfl))⟩
  refine Call_ (ld_blt inv g2 m2 boot_set (callWith_type1 (args_cons (thn (ha.run pins s σ H _ inv h) fun v s1 ⟨x, H1, inv1, rel, l, ss, ev, sq, few, q1⟩ => args_nil ?_) one) one rfl))
  subst ev
  cases rel
  obtain ⟨its, vals, pl, _⟩ := inv1.list sq
  have len : its.toArray.size = ss.length := by rw [List.size_toArray, ← vals.length, List.length_map]
  refine set_txts (ss := ss) (inv1.ok.hd hcalm) pl.isList (fun i v e => ?_) len (by rw [len]; unfold scanBound; omega) fun h' tk set kept => args_nil ?_
  · have e' : its[i]? = some v := by simpa using e
    have hi : i < ss.length := by
      have z := (List.getElem?_eq_some_iff.mp e').1
      rw [← len, List.size_toArray]
      exact z
    obtain ⟨u, g3, t, g4⟩ := vals.get (i := i) (x := .str ss[i]) (by simp [hi])
    rw [e'] at g3
    cases g3
    exact ⟨ss[i], t, List.getElem?_eq_getElem hi, g4⟩
  · obtain ⟨o, es, ep, tb, ho, ex, hd, _, _, _, fits, num⟩ := set
    have small : dist ss ≤ 1000 := Nat.le_trans (dist_le ss) few
    have inv2 : Inv X pins σ H1 { s1 with heap := h', toks := tk } := inv1.kept kept
    exact call_len_set ho ex hd fits (by rw [num]; omega) ⟨.int (dist ss : Nat), H1, inv2.tok _, ⟨_, by rw [num]⟩, q1⟩
end
end Lt

set_option Elab.async false
set_option linter.all false
set_option maxRecDepth 100000
set_option maxHeartbeats 4000000
namespace Lt
open PySem PySem.Spec PyProof.Rows L2
/-! ### who lies above was wanted since -/
theorem nub_cons (b : Str) (l : List Str) : nub (b :: l) = b :: (nub l).filter (fun z => decide (z ≠ b)) := by
  refine snoc_ind (p := fun l => nub (b :: l) = b :: (nub l).filter fun z => decide (z ≠ b)) rfl (fun l x ih => ?_) l
  have e : b :: (l ++ [x]) = (b :: l) ++ [x] := rfl
  have m1 : x ∈ nub (b :: l) ↔ x = b ∨ x ∈ nub l := by rw [nub_mem, nub_mem, List.mem_cons]
  rw [e, nub_snoc, nub_snoc]
  by_cases c : x ∈ nub l
  · rw [if_pos c, if_pos (m1.mpr (.inr c)), ih]
  · rw [if_neg c, List.filter_append]
    by_cases d : x = b
    · rw [if_pos (m1.mpr (.inl d)), ih, List.filter_cons_of_neg (by simpa using d), List.filter_nil, List.append_nil]
    · rw [if_neg fun z => (m1.mp z).elim d c, ih, List.filter_cons_of_pos (by simpa using d), List.filter_nil]
      rfl
theorem lay_filter {cur : List Str} {b : Str} (nd : cur.Nodup) : lay cur b = b :: cur.filter (fun z => decide (z ≠ b)) := by
  unfold lay
  rw [← List.erase_eq_eraseIdx_of_idxOf rfl, nd.erase_eq_filter]
  congr 1
  apply List.filter_congr
  intro z _
  by_cases e : z = b
  · subst e
    simp
  · have z1 : (z != b) = true := by simpa using e
    rw [z1]
    simp [e]
theorem behind_is {bs : List Str} (nd : bs.Nodup) : ∀ rs : List Str, (∀ b ∈ rs, b ∈ bs) → behindM bs rs = nub rs.reverse ++ bs.filter fun z => decide (z ∉ rs) := by
  refine snoc_ind (p := fun rs => (∀ b ∈ rs, b ∈ bs) → behindM bs rs = nub rs.reverse ++ bs.filter fun z => decide (z ∉ rs)) (fun _ => ?_) (fun rs b ih h => ?_)
  · show bs = [] ++ bs.filter fun z => decide (z ∉ ([] : List Str))
    rw [List.nil_append, List.filter_eq_self.mpr fun z _ => by simp]
  · have h1 : ∀ c ∈ rs, c ∈ bs := fun c hc => h c (List.mem_append_left _ hc)
    have nd2 : (behindM bs rs).Nodup := (behindM_perm rs h1).nodup_iff.mpr nd
    rw [behindM_snoc, lay_filter nd2, ih h1, List.filter_append, List.reverse_append, List.reverse_singleton]
    show b :: _ = nub (b :: rs.reverse) ++ _
    rw [nub_cons, List.filter_filter]
    show b :: _ = b :: ((nub rs.reverse).filter (fun z => decide (z ≠ b)) ++ bs.filter fun z => decide (z ∉ rs ++ [b]))
    congr 2
    apply List.filter_congr
    intro z _
    by_cases c1 : z ∈ rs
    · simp [c1]
    · by_cases c2 : z = b
      · simp [c2]
      · simp [c1, c2]
theorem nub_prefix (l : List Str) : ∀ r : List Str, ∃ t, nub (l ++ r) = nub l ++ t := by
  refine snoc_ind (p := fun r => ∃ t, nub (l ++ r) = nub l ++ t) ⟨[], by rw [List.append_nil, List.append_nil]⟩ (fun r x ih => ?_)
  obtain ⟨t, e⟩ := ih
  rw [← List.append_assoc, nub_snoc, e]
  by_cases c : x ∈ nub l ++ t
  · rw [if_pos c]
    exact ⟨t, rfl⟩
  · rw [if_neg c]
    exact ⟨t ++ [x], by rw [List.append_assoc]⟩
theorem idx_mid {l r : List Str} {b : Str} (h : b ∉ l) : (l ++ b :: r).idxOf b = l.length := by
  rw [List.idxOf_append, if_neg h, List.idxOf_cons_self, Nat.zero_add]
theorem nub_idx {l r : List Str} {b : Str} (h : b ∉ l) : (nub (l ++ b :: r)).idxOf b = (nub l).length := by
  obtain ⟨t, e⟩ := nub_prefix (l ++ [b]) r
  rw [List.append_assoc] at e
  have e2 : l ++ ([b] ++ r) = l ++ b :: r := rfl
  have nb : b ∉ nub l := fun z => h ((nub_mem l b).mp z)
  rw [e2, nub_snoc, if_neg nb, List.append_assoc] at e
  rw [e]
  exact idx_mid nb
theorem split_at {l : List Str} {b : Str} (h : b ∈ l) : l = l.take (l.idxOf b) ++ b :: l.drop (l.idxOf b + 1) ∧ b ∉ l.take (l.idxOf b) := by
  refine ⟨?_, fun z => over_ne (bs := l) (b := b) (o := b) z rfl⟩
  have i := idx_lt h
  have e := List.take_append_drop (l.idxOf b) l
  rw [List.drop_eq_getElem_cons i, List.getElem_idxOf i] at e
  exact e.symm
theorem lifted_seen {bs a : List Str} {b : Str} (nd : bs.Nodup) (ha : ∀ c ∈ a, c ∈ bs) (hb : b ∈ a) : (behindM bs a).idxOf b = dist (a.drop (a.length - a.reverse.idxOf b)) := by
  have hr : b ∈ a.reverse := List.mem_reverse.mpr hb
  obtain ⟨e, no⟩ := split_at hr
  have hn : b ∈ nub a.reverse := (nub_mem _ b).mpr hr
  rw [behind_is nd a ha, List.idxOf_append, if_pos hn]
  have k := nub_idx (l := a.reverse.take (a.reverse.idxOf b)) (r := a.reverse.drop (a.reverse.idxOf b + 1)) no
  rw [← e] at k
  rw [k]
  refine dist_of (nub_nodup _) fun z => ?_
  rw [nub_mem, List.take_reverse, List.mem_reverse]
theorem lifted_new {bs a : List Str} {b : Str} (nd : bs.Nodup) (ha : ∀ c ∈ a, c ∈ bs) (hbs : b ∈ bs) (hb : b ∉ a) : (behindM bs a).idxOf b = dist (a ++ over bs b) := by
  have hr : b ∉ nub a.reverse := fun z => hb (List.mem_reverse.mp ((nub_mem _ b).mp z))
  obtain ⟨e, no⟩ := split_at hbs
  have ef : (bs.filter fun z => decide (z ∉ a)).idxOf b = ((over bs b).filter fun z => decide (z ∉ a)).length := by
    have e2 : bs.filter (fun z => decide (z ∉ a)) = ((over bs b).filter fun z => decide (z ∉ a)) ++ b :: (bs.drop (bs.idxOf b + 1)).filter fun z => decide (z ∉ a) := by
      conv =>
        lhs
        rw [e]
      rw [List.filter_append, List.filter_cons_of_pos (by simpa using hb)]
      rfl
    rw [e2]
    exact idx_mid fun z => no ((List.mem_filter.mp z).1)
  rw [behind_is nd a ha, List.idxOf_append, if_neg hr, ef, Nat.add_comm, ← List.length_append]
  refine dist_of ?_ fun z => ?_
  · rw [List.nodup_append]
    refine ⟨nub_nodup _, (nd.sublist (List.take_sublist _ _)).filter _, fun x hx y hy xy => ?_⟩
    subst xy
    have z1 := List.mem_reverse.mp ((nub_mem _ _).mp hx)
    have z2 := (List.mem_filter.mp hy).2
    simp [z1] at z2
  · rw [List.mem_append, List.mem_append, nub_mem, List.mem_reverse, List.mem_filter]
    by_cases c : z ∈ a
    · simp [c]
    · simp [c]
theorem behindM_append (bs : List Str) : ∀ one two : List Str, behindM bs (one ++ two) = behindM (behindM bs one) two := by
  intro one
  induction one generalizing bs with
  | nil => intro two; rfl
  | cons x r ih => intro two; exact ih (lay bs x) two
theorem liftedM_append (bs : List Str) : ∀ one two : List Str, liftedM bs (one ++ two) = liftedM bs one ++ liftedM (behindM bs one) two := by
  intro one
  induction one generalizing bs with
  | nil => intro two; rfl
  | cons x r ih =>
    intro two
    show bs.idxOf x :: liftedM (lay bs x) (r ++ two) = bs.idxOf x :: (liftedM (lay bs x) r ++ liftedM (behindM (lay bs x) r) two)
    rw [ih]
theorem liftedM_get (bs : List Str) : ∀ (rs : List Str) (i : Nat) (b : Str), rs[i]? = some b → (liftedM bs rs)[i]? = some ((behindM bs (rs.take i)).idxOf b) := by
  intro rs
  induction rs generalizing bs with
  | nil => intro i b h; simp at h
  | cons x r ih =>
    intro i b h
    cases i with
    | zero =>
      simp only [List.getElem?_cons_zero, Option.some.injEq] at h
      subst h
      rfl
    | succ i =>
      simp only [List.getElem?_cons_succ] at h
      exact ih (lay bs x) i b h
/-! ### all that were lifted are all passings -/
theorem rows_count : ∀ {bs : List Str} (rs : List Str), (∀ b ∈ rs, b ∈ bs) → (rowsM bs rs).length = (liftedM bs rs).sum
  | bs, [], _ => rfl
  | bs, b :: r, h => by
    have hb := h b (List.mem_cons_self ..)
    have p := lay_perm hb
    have ih := rows_count (bs := lay bs b) r fun c hc => p.mem_iff.mpr (h c (List.mem_cons_of_mem _ hc))
    show ((over bs b).map (fun o => (b, o)) ++ rowsM (lay bs b) r).length = (bs.idxOf b :: liftedM (lay bs b) r).sum
    have i := idx_lt hb
    rw [List.length_append, List.length_map, ih, List.sum_cons]
    unfold over
    rw [List.length_take, Nat.min_eq_left (Nat.le_of_lt i)]
theorem sum_one {ps : List (Str × Str)} {q : Str × Str} (nd : ps.Nodup) (h : q ∈ ps) : (ps.map fun z => if q = z then 1 else 0).sum = 1 := by
  induction ps with
  | nil => cases h
  | cons a r ih =>
    rw [List.map_cons, List.sum_cons]
    obtain ⟨n1, n2⟩ := List.nodup_cons.mp nd
    by_cases e : q = a
    · subst e
      have z : (r.map fun z => if q = z then 1 else 0).sum = 0 := by
        have all : ∀ z ∈ r, q ≠ z := fun z hz e => n1 (e ▸ hz)
        clear ih h nd n1 n2
        induction r with
        | nil => rfl
        | cons c r ih2 =>
          rw [List.map_cons, List.sum_cons, if_neg (all c (List.mem_cons_self ..)), ih2 fun z hz => all z (List.mem_cons_of_mem _ hz)]
      rw [if_pos rfl, z]
    · rw [if_neg e, Nat.zero_add]
      exact ih n2 ((List.mem_cons.mp h).resolve_left e)
theorem cnt_sum {ps : List (Str × Str)} (nd : ps.Nodup) : ∀ rows : List (Str × Str), (∀ r ∈ rows, asPair r ∈ ps) → (ps.map fun q => cnt rows q).sum = rows.length := by
  intro rows
  have key : ∀ l : List (Str × Str), (∀ r ∈ l.reverse, asPair r ∈ ps) → (ps.map fun q => cnt l.reverse q).sum = l.length := by
    intro l
    induction l with
    | nil =>
      intro _
      have z : ∀ ps : List (Str × Str), (ps.map fun q => cnt [] q).sum = 0 := by
        intro ps
        induction ps with
        | nil => rfl
        | cons a r ih => rw [List.map_cons, List.sum_cons, cnt_nil, ih]
      exact z ps
    | cons r l ih =>
      intro h
      rw [List.reverse_cons] at h ⊢
      have hr := h r (by simp)
      have e : (ps.map fun q => cnt (l.reverse ++ [r]) q) = ps.map fun q => cnt l.reverse q + if asPair r = q then 1 else 0 := by
        apply List.map_congr_left
        intro q _
        exact cnt_snoc _ _ _
      have add : ∀ (ps : List (Str × Str)) (f g : Str × Str → Nat), (ps.map fun q => f q + g q).sum = (ps.map f).sum + (ps.map g).sum := by
        intro ps f g
        induction ps with
        | nil => rfl
        | cons a r ih =>
          rw [List.map_cons, List.sum_cons, List.map_cons, List.sum_cons, List.map_cons, List.sum_cons, ih]
          omega
      rw [e, add, ih fun z hz => h z (List.mem_append_left _ hz), sum_one nd hr, List.length_cons]
  intro h
  have z := key rows.reverse (by rw [List.reverse_reverse]; exact h)
  rw [List.reverse_reverse, List.length_reverse] at z
  exact z
theorem prs_fst {ys : List Str} : ∀ {n : Nat} {q : Str × Str}, q ∈ prs ys n → ∃ k, k < n ∧ ys[k]? = some q.1
  | 0, q, h => by cases h
  | n + 1, q, h => by
    cases e : ys[n]? with
    | none =>
      have e2 : prs ys (n + 1) = prs ys n ++ (match ys[n]? with | some a => (ys.drop (n + 1)).map fun b => (a, b) | none => []) := rfl
      rw [e2, e, List.append_nil] at h
      obtain ⟨k, h1, h2⟩ := prs_fst h
      exact ⟨k, by omega, h2⟩
    | some a =>
      rw [prs_succ e] at h
      rcases List.mem_append.mp h with h | h
      · obtain ⟨k, h1, h2⟩ := prs_fst h
        exact ⟨k, by omega, h2⟩
      · obtain ⟨b, hb, rfl⟩ := List.mem_map.mp h
        exact ⟨n, by omega, e⟩
theorem prs_nodup {ys : List Str} (nd : ys.Nodup) : ∀ n, (prs ys n).Nodup
  | 0 => List.nodup_nil
  | n + 1 => by
    cases e : ys[n]? with
    | none =>
      have e2 : prs ys (n + 1) = prs ys n ++ (match ys[n]? with | some a => (ys.drop (n + 1)).map fun b => (a, b) | none => []) := rfl
      rw [e2, e, List.append_nil]
      exact prs_nodup nd n
    | some a =>
      rw [prs_succ e, List.nodup_append]
      refine ⟨prs_nodup nd n, ?_, fun x hx y hy xy => ?_⟩
      · have nd2 : (ys.drop (n + 1)).Nodup := nd.sublist (List.drop_sublist _ _)
        exact List.Pairwise.map _ (fun x y ne z => ne (Prod.mk.inj z).2) nd2
      · subst xy
        obtain ⟨k, h1, h2⟩ := prs_fst hx
        obtain ⟨b, hb, rfl⟩ := List.mem_map.mp hy
        have z := nd_ix nd h2 e
        omega
end Lt

set_option Elab.async false
set_option linter.all false
set_option maxRecDepth 100000
set_option maxHeartbeats 4000000
namespace Lt
open PySem PySem.Spec PyProof.Rows L2
section
variable {P : Program} {w : World} {K : PySem.W.Frag} {mg : Str → Option Value} {base : Heap} {X : Cx}
theorem log_of {m : Int} (h0 : 0 < m) (h1 : m ≤ 1000000000000000000) : m.natAbs.log2 < 9000 := by
  have z : m.natAbs.log2 < 60 := (Nat.log2_lt (by omega)).mpr (Nat.lt_of_le_of_lt (show m.natAbs ≤ 1000000000000000000 by omega) (by decide))
  omega
theorem upd_self {H : Hp} {a : Addr} {o : HO} (h : H a = some o) : upd H a o = H := by
  funext b
  unfold upd
  by_cases e : b = a
  · rw [if_pos e, e, h]
  · rw [if_neg e]
def spDraw : Sp := fun vs H Q _ => ∃ (T S : Addr) (ns : List Int) (m : Int), vs = [.ref T, .int m] ∧ Tape H T S ns ∧ 0 < m ∧ m ≤ 1000000000000000000 ∧
  ∀ r i c : Int, 0 ≤ r → r < m → Q (.int r) (upd H T (.lst [.ref S, .int i, .int c]))
def Has (P : Program) (w : World) (K : PySem.W.Frag) (mg : Str → Option Value) (base : Heap) (k : Nat) (x : Str) (ps : List Str) (sp : Sp) : Prop :=
  ∃ (f : Addr) (fd : FuncData), FnOk P w K mg base CX0 k f fd ps sp ∧ mg x = some (.ref f) ∧ PySem.W.keepIn K (.ref f) = true ∧ Binds K fd ps []
theorem pe_go {k j : Nat} {x : Str} {ps : List Str} {sp : Sp} {e : Expr} {es : List Expr} {p pos : Pos} {t : TA} (c : Has X.prog X.w X.K X.mg X.base k x ps sp) (hr : Room j X.A) (hk : k ≤ j) (hg : Gl X x) (h : PA X (e :: es) t)
    (h1 : (x == ("__debug__" : Str)) = false := by decide) (h2 : starEach (e :: es) X.env = (false, eval e X.env) :: starEach es X.env := by rfl)
    (h3 : (backTo pos (starEach es X.env)).any (·.1) = false := by rfl) : PE X (.Call (.Name x p) (e :: es) [] pos) (tCall sp [] E0 t) := by
  obtain ⟨f, fd, F, m, kp, b⟩ := c
  exact pe_call F (hr.mono hk) hg m kp b .nil pass0 h h1 h2 h3
theorem pe_go0 {k j : Nat} {x : Str} {ps : List Str} {sp : Sp} {p pos : Pos} (c : Has X.prog X.w X.K X.mg X.base k x ps sp) (hr : Room j X.A) (hk : k ≤ j) (hg : Gl X x)
    (h1 : (x == ("__debug__" : Str)) = false := by decide) : PE X (.Call (.Name x p) [] [] pos) (tCall sp [] E0 tNil) := by
  obtain ⟨f, fd, F, m, kp, b⟩ := c
  exact pe_call0 F (hr.mono hk) hg m kp b .nil pass0 h1
structure Bi (mg : Str → Option Value) : Prop where
  len : mg "len" = none
  range : mg "range" = none
  tuple : mg "tuple" = none
  list : mg "list" = none
  sorted : mg "sorted" = none
  enumerate : mg "enumerate" = none
  isinstance : mg "isinstance" = none
  bool : mg "bool" = none
  set : mg "set" = none
  sum : mg "sum" = none
  min : mg "min" = none
  max : mg "max" = none
  dict : mg "dict" = none
  reversed : mg "reversed" = none
  all : mg "all" = none
  any : mg "any" = none
  int : mg "int" = none
  str : mg "str" = none
  zip : mg "zip" = none
def books : List Str := ["atlas", "bible", "comics", "diary", "essays", "fables", "guide"]
theorem books_nd : books.Nodup := by decide +kernel
theorem books_ok : ∀ b ∈ books, PyData.strOk b = true := by decide +kernel
structure IsPile (bs : List Str) : Prop where
  nd : bs.Nodup
  pos : 0 < bs.length
  most : bs.length ≤ 7
  ok : ∀ b ∈ bs, b ∈ books
abbrev natV (k : Nat) : V := .int (k : Int)
def spOrder : Sp := fun vs H Q _ => ∃ (T S : Addr) (ns : List Int) (n : Nat), vs = [.ref T, .int n] ∧ Tape H T S ns ∧ n ≤ 1000 ∧
  ∀ (p : Addr) (H' : Hp) (qs : List Nat), SameT T H H' → Tape H' T S ns → H p = none → H' p = some (.tup (qs.map natV)) → qs.Perm (List.range n) → Q (.ref p) H'
def spBooks : Sp := fun vs H Q _ => vs = [] ∧ ∀ p, H p = none → Q (.ref p) (upd H p (.lst (books.map V.str)))
def pick (bs : List Str) (qs : List Nat) : List Str := qs.map fun k => (bs[k]?).getD Str.empty
theorem pick_range (bs : List Str) : pick bs (List.range bs.length) = bs := by
  apply List.ext_getElem?
  intro i
  unfold pick
  rw [List.getElem?_map]
  by_cases h : i < bs.length
  · rw [List.getElem?_range h, List.getElem?_eq_getElem h]
    show some ((bs[i]?).getD Str.empty) = some bs[i]
    rw [List.getElem?_eq_getElem h]
    rfl
  · rw [List.getElem?_eq_none (by rw [List.length_range]; omega), List.getElem?_eq_none (by omega)]
    rfl
theorem pick_perm {bs : List Str} {qs : List Nat} (h : qs.Perm (List.range bs.length)) : (pick bs qs).Perm bs := by
  have q := h.map fun k => (bs[k]?).getD Str.empty
  have e : (List.range bs.length).map (fun k => (bs[k]?).getD Str.empty) = bs := pick_range bs
  rw [e] at q
  exact q
theorem pile_of {n : Nat} {qs : List Nat} (h0 : 0 < n) (h7 : n ≤ 7) (h : qs.Perm (List.range n)) : IsPile (pick (books.take n) qs) := by
  have hl : (books.take n).length = n := by
    rw [List.length_take]
    show min n 7 = n
    omega
  have p : (pick (books.take n) qs).Perm (books.take n) := pick_perm (by rw [hl]; exact h)
  refine ⟨p.nodup_iff.mpr (books_nd.sublist (List.take_sublist _ _)), ?_, ?_, fun b hb => List.mem_of_mem_take (p.mem_iff.mp hb)⟩
  · rw [p.length_eq, hl]
    exact h0
  · rw [p.length_eq, hl]
    exact h7
def spPile : Sp := fun vs H Q _ => ∃ (T S : Addr) (ns : List Int) (m : Int), vs = [.ref T, .int m] ∧ Tape H T S ns ∧ 0 < m ∧ m ≤ 7 ∧
  ∀ (p : Addr) (H' : Hp) (bs : List Str), SameT T H H' → Tape H' T S ns → H p = none → TpO H' p (bs.map V.str) → IsPile bs → (bs.length : Int) ≤ m → Q (.ref p) H'
def spReadings : Sp := fun vs H Q _ => ∃ (T S p : Addr) (ns : List Int) (bs : List Str) (m : Int), vs = [.ref T, .ref p, .int m] ∧ Tape H T S ns ∧ TpO H p (bs.map V.str) ∧ 0 < bs.length ∧ bs.length ≤ 7 ∧ 0 ≤ m ∧ m ≤ 60 ∧
  ∀ (l : Addr) (H' : Hp) (rs : List Str), SameT T H H' → Tape H' T S ns → H l = none → H' l = some (.lst (rs.map V.str)) → (rs.length : Int) ≤ m → (∀ b ∈ rs, b ∈ bs) → Q (.ref l) H'
theorem lay_map (bs : List Str) (b : Str) : (lay bs b).map V.str = [V.str b] ++ ((bs.take (bs.idxOf b)).map V.str ++ (bs.drop (bs.idxOf b + 1)).map V.str) := by
  unfold lay
  rw [List.map_cons, List.eraseIdx_eq_take_drop_succ, List.map_append]
  rfl
def spLaid : Sp := fun vs H Q _ => ∃ (p : Addr) (bs : List Str) (b : Str), vs = [.ref p, .str b] ∧ TpO H p (bs.map V.str) ∧ b ∈ bs ∧ bs.length ≤ 1000 ∧
  ∀ (q : Addr) (H' : Hp), Same H H' → TpO H' q ((lay bs b).map V.str) → Q (.ref q) H'
def spAbove : Sp := fun vs H Q _ => ∃ (p : Addr) (bs : List Str) (b : Str), vs = [.ref p, .str b] ∧ TpO H p (bs.map V.str) ∧ b ∈ bs ∧
  ∀ (q : Addr) (H' : Hp), Same H H' → H' q = some (.tup ((over bs b).map V.str)) → Q (.ref q) H'
def spAsPair : Sp := fun vs H Q _ => ∃ a b : Str, vs = [.str a, .str b] ∧ ∀ q : Addr, H q = none → Q (.ref q) (upd H q (.tup [.str (asPair (a, b)).1, .str (asPair (a, b)).2]))
def spBehind : Sp := fun vs H Q _ => ∃ (p r : Addr) (bs rs : List Str), vs = [.ref p, .ref r] ∧ TpO H p (bs.map V.str) ∧ H r = some (.lst (rs.map V.str)) ∧ bs.length ≤ 1000 ∧ (∀ b ∈ rs, b ∈ bs) ∧
  ∀ (q : Addr) (H' : Hp), Same H H' → TpO H' q ((behindM bs rs).map V.str) → Q (.ref q) H'
theorem take_step {rs : List Str} {i : Nat} {b : Str} (h : rs[i]? = some b) : rs.take (i + 1) = rs.take i ++ [b] := by
  rw [List.take_add_one, h]
  rfl
theorem take_sub {bs rs : List Str} (h : ∀ b ∈ rs, b ∈ bs) (i : Nat) : ∀ b ∈ rs.take i, b ∈ bs := fun b hb => h b (List.mem_of_mem_take hb)
theorem strs_get {rs : List Str} {i : Nat} {x : V} (h : (rs.map V.str)[i]? = some x) : ∃ b, rs[i]? = some b ∧ x = .str b := by
  rw [List.getElem?_map] at h
  cases e : rs[i]? with
  | none =>
    rw [e] at h
    cases h
  | some b =>
    rw [e] at h
    cases h
    exact ⟨b, rfl, rfl⟩
def spLifted : Sp := fun vs H Q _ => ∃ (p r : Addr) (bs rs : List Str), vs = [.ref p, .ref r] ∧ TpO H p (bs.map V.str) ∧ H r = some (.lst (rs.map V.str)) ∧ bs.length ≤ 1000 ∧ rs.length ≤ 1000 ∧ (∀ b ∈ rs, b ∈ bs) ∧
  ∀ (l : Addr) (H' : Hp), Same H H' → H l = none → H' l = some (.lst ((liftedM bs rs).map natV)) → Q (.ref l) H'
theorem liftedM_len (bs : List Str) : ∀ rs : List Str, (liftedM bs rs).length = rs.length := by
  intro rs
  induction rs generalizing bs with
  | nil => rfl
  | cons x r ih => exact congrArg (· + 1) (ih (lay bs x))
def KeepT (H H' : Hp) : Prop := ∀ b xs, H b = some (.tup xs) → H' b = some (.tup xs)
theorem KeepT.of {H H' : Hp} (s : Same H H') : KeepT H H' := fun b xs h => s _ _ h
theorem KeepT.put {H : Hp} {D : Addr} {o : HO} {u : HO} (h : H D = some u) (n : ∀ xs, u ≠ .tup xs) : KeepT H (upd H D o) := fun b xs q => by
  rw [upd_ne (ne_of q h fun z => n xs z.symm)]
  exact q
theorem KeepT.trans {H H1 H2 : Hp} (a : KeepT H H1) (b : KeepT H1 H2) : KeepT H H2 := fun c xs h => b c xs (a c xs h)
def PairsL (H : Hp) (ts : List Addr) (ps : List (Str × Str)) : Prop := ts.length = ps.length ∧ ∀ (i : Nat) (t : Addr) (q : Str × Str), ts[i]? = some t → ps[i]? = some q → H t = some (.tup [.str q.1, .str q.2])
theorem PairsL.nil (H : Hp) : PairsL H [] [] := ⟨rfl, fun i t q h => by simp at h⟩
theorem PairsL.move {H H' : Hp} {ts : List Addr} {ps : List (Str × Str)} (h : PairsL H ts ps) (k : KeepT H H') : PairsL H' ts ps := ⟨h.1, fun i t q a b => k _ _ (h.2 i t q a b)⟩
theorem PairsL.snoc {H : Hp} {ts : List Addr} {ps : List (Str × Str)} {t : Addr} {q : Str × Str} (h : PairsL H ts ps) (ht : H t = some (.tup [.str q.1, .str q.2])) : PairsL H (ts ++ [t]) (ps ++ [q]) := by
  refine ⟨by rw [List.length_append, List.length_append, h.1]; rfl, fun i t' q' a b => ?_⟩
  by_cases hi : i < ts.length
  · rw [List.getElem?_append_left hi] at a
    rw [List.getElem?_append_left (by rw [← h.1]; exact hi)] at b
    exact h.2 i t' q' a b
  · rw [List.getElem?_append_right (by omega)] at a
    rw [List.getElem?_append_right (by rw [← h.1]; omega), ← h.1] at b
    by_cases hz : i - ts.length = 0
    · rw [hz] at a b
      cases a
      cases b
      exact ht
    · rw [List.getElem?_eq_none (by rw [List.length_singleton]; omega)] at a
      cases a
abbrev sPairsData (ps : List (Str × Str)) : List PyData := ps.map fun q => .tuple [.str q.1, .str q.2]
theorem PairsL.dp {K : PySem.W.Frag} {H : Hp} : ∀ {ts : List Addr} {ps : List (Str × Str)}, PairsL H ts ps → DpAll K H (ts.map V.ref) (sPairsData ps)
  | [], [], _ => .nil
  | [], q :: r, h => by cases h.1
  | t :: ts, [], h => by cases h.1
  | t :: ts, q :: r, h => by
    refine .cons (.tup (sqt (h.2 0 t q rfl rfl)) (.cons (.str _) (.cons (.str _) .nil))) (PairsL.dp ⟨by simpa using h.1, fun i t' q' a b => h.2 (i + 1) t' q' a b⟩)
def spPairs (K : PySem.W.Frag) : Sp := fun vs H Q _ => ∃ (p : Addr) (bs : List Str), vs = [.ref p] ∧ SqT K H p (bs.map V.str) ∧ bs.length ≤ 20 ∧
  ∀ (l : Addr) (H' : Hp) (ys : List Str) (ts : List Addr), Same H H' → ys.Perm bs → sortedS ys = true → H l = none → H' l = some (.lst (ts.map V.ref)) → PairsL H' ts (prs ys ys.length) → Q (.ref l) H'
def key (q : Str × Str) : List Key := [Sum.inr q.1, Sum.inr q.2]
theorem key_inj {q r : Str × Str} (h : key q = key r) : q = r := by
  unfold key at h
  injection h with h1 h2
  injection h2 with h2 _
  injection h1 with h1
  injection h2 with h2
  exact Prod.ext h1 h2
theorem key_map (q : Str × Str) : (key q).map kV = [V.str q.1, V.str q.2] := rfl
def Counts (kvs : List (List Key × V)) (ps : List (Str × Str)) (rows : List (Str × Str)) : Prop := ∀ q ∈ ps, valV kvs (key q) = some (natV (cnt rows q))
theorem Counts.more {kvs : List (List Key × V)} {ps rows : List (Str × Str)} (h : Counts kvs ps rows) {r : Str × Str} (hr : asPair r ∈ ps) :
    Counts (putK kvs (key (asPair r)) (.int ((cnt rows (asPair r) : Int) + 1))) ps (rows ++ [r]) := fun q hq => by
  rw [valV_put, cnt_snoc]
  by_cases e : asPair r = q
  · subst e
    rw [if_pos rfl, if_pos rfl]
    rfl
  · rw [if_neg (fun z => e (key_inj z).symm), if_neg e, Nat.add_zero]
    exact h q hq
abbrev tri (rows : List (Str × Str)) (q : Str × Str) : PyData := .tuple [.str q.1, .str q.2, .int (cnt rows q : Nat)]
def TriL (rows : List (Str × Str)) (H : Hp) (ts : List Addr) (ps : List (Str × Str)) : Prop := ts.length = ps.length ∧
  ∀ (i : Nat) (t : Addr) (q : Str × Str), ts[i]? = some t → ps[i]? = some q → H t = some (.tup [.str q.1, .str q.2, natV (cnt rows q)])
theorem TriL.move {rows : List (Str × Str)} {H H' : Hp} {ts : List Addr} {ps : List (Str × Str)} (h : TriL rows H ts ps) (k : KeepT H H') : TriL rows H' ts ps := ⟨h.1, fun i t q a b => k _ _ (h.2 i t q a b)⟩
theorem TriL.snoc {rows : List (Str × Str)} {H : Hp} {ts : List Addr} {ps : List (Str × Str)} {t : Addr} {q : Str × Str} (h : TriL rows H ts ps) (ht : H t = some (.tup [.str q.1, .str q.2, natV (cnt rows q)])) : TriL rows H (ts ++ [t]) (ps ++ [q]) := by
  refine ⟨by rw [List.length_append, List.length_append, h.1]; rfl, fun i t' q' a b => ?_⟩
  by_cases hi : i < ts.length
  · rw [List.getElem?_append_left hi] at a
    rw [List.getElem?_append_left (by rw [← h.1]; exact hi)] at b
    exact h.2 i t' q' a b
  · rw [List.getElem?_append_right (by omega)] at a
    rw [List.getElem?_append_right (by rw [← h.1]; omega), ← h.1] at b
    by_cases hz : i - ts.length = 0
    · rw [hz] at a b
      cases a
      cases b
      exact ht
    · rw [List.getElem?_eq_none (by rw [List.length_singleton]; omega)] at a
      cases a
theorem TriL.dp {rows : List (Str × Str)} {K : PySem.W.Frag} {H : Hp} : ∀ {ts : List Addr} {ps : List (Str × Str)}, TriL rows H ts ps → DpAll K H (ts.map V.ref) (ps.map (tri rows))
  | [], [], _ => .nil
  | [], q :: r, h => by cases h.1
  | t :: ts, [], h => by cases h.1
  | t :: ts, q :: r, h =>
    .cons (.tup (sqt (h.2 0 t q rfl rfl)) (.cons (.str _) (.cons (.str _) (.cons (.int _) .nil)))) (TriL.dp ⟨by simpa using h.1, fun i t' q' a b => h.2 (i + 1) t' q' a b⟩)
theorem rowsM_len : ∀ {bs : List Str} (rs : List Str), (∀ b ∈ rs, b ∈ bs) → (rowsM bs rs).length ≤ rs.length * bs.length
  | bs, [], _ => Nat.zero_le _
  | bs, b :: r, h => by
    have p := lay_perm (h b (List.mem_cons_self ..))
    have ih := rowsM_len (bs := lay bs b) r fun c hc => p.mem_iff.mpr (h c (List.mem_cons_of_mem _ hc))
    rw [p.length_eq] at ih
    show ((over bs b).map (fun o => (b, o)) ++ rowsM (lay bs b) r).length ≤ (r.length + 1) * bs.length
    rw [List.length_append, List.length_map, Nat.succ_mul]
    have z : (over bs b).length ≤ bs.length := by
      unfold over
      rw [List.length_take]
      omega
    omega
def spPassings (K : PySem.W.Frag) : Sp := fun vs H Q _ => ∃ (p r : Addr) (bs rs : List Str), vs = [.ref p, .ref r] ∧ TpO H p (bs.map V.str) ∧ H r = some (.lst (rs.map V.str)) ∧ bs.length ≤ 7 ∧ rs.length ≤ 60 ∧ (∀ b ∈ rs, b ∈ bs) ∧
  ∀ (l : Addr) (H' : Hp) (ys : List Str) (xs : List V), Same H H' → H l = none → ys.Perm bs → sortedS ys = true → H' l = some (.lst xs) → DpAll K H' xs ((prs ys ys.length).map (tri (rowsM bs rs))) → Q (.ref l) H'
def spRead : Sp := fun vs H Q _ => ∃ (p r : Addr) (bs rs : List Str), vs = [.ref p, .ref r] ∧ TpO H p (bs.map V.str) ∧ H r = some (.lst (rs.map V.str)) ∧ bs.length ≤ 7 ∧ rs.length ≤ 60 ∧ (∀ b ∈ rs, b ∈ bs) ∧
  ∀ (t a n o : Addr) (H' : Hp) (ts : List Addr), Same H H' → H' t = some (.tup [.ref a, .ref n, .ref o]) → H' a = some (.tup ((behindM bs rs).map V.str)) → H' n = some (.lst ((liftedM bs rs).map natV)) →
    H' o = some (.lst (ts.map V.ref)) → PairsL H' ts (rowsM bs rs) → Q (.ref t) H'
theorem flat_map (ss : List Str) : (ss.map V.str).all flatV = true := flat_strs ss
theorem eqv_two (a b c d : Str) : PyData.eqv (.list [.str a, .str b]) (.list [.str c, .str d]) = decide ((a, b) = (c, d)) := by
  simp only [PyData.eqv, PyData.eqvAll, Bool.and_true]
  by_cases h1 : a = c
  · by_cases h2 : b = d
    · subst h1 h2
      simp
    · have z : (b == d) = false := beq_eq_false_iff_ne.mpr h2
      rw [z, Bool.and_false]
      exact (decide_eq_false fun e => h2 (Prod.mk.inj e).2).symm
  · have z : (a == c) = false := beq_eq_false_iff_ne.mpr h1
    rw [z, Bool.false_and]
    exact (decide_eq_false fun e => h1 (Prod.mk.inj e).1).symm
theorem shaped_two {a b : Str} (ha : PyData.strOk a = true) (hb : PyData.strOk b = true) : SeqAt.shaped (.list [.str a, .str b]) = true :=
  shaped_of (by simp [PyData.canLay0, PyData.canLayAll0, ha, hb]) (by simp [PyData.depth, PyData.depthAll])
def spTwo (K : PySem.W.Frag) : Sp := fun vs H Q _ => ∃ (p r : Addr) (bs : List Str) (ts : List Addr) (rows : List (Str × Str)), vs = [.ref p, .ref r] ∧ SqT K H p (bs.map V.str) ∧ bs.length ≤ 7 ∧ (∀ b ∈ bs, PyData.strOk b = true) ∧
  H r = some (.lst (ts.map V.ref)) ∧ PairsL H ts rows ∧ rows.length ≤ 900 ∧ (∀ z ∈ rows, PyData.strOk z.1 = true ∧ PyData.strOk z.2 = true) ∧
  ∀ (l : Addr) (H' : Hp) (ys : List Str) (xs : List V), Same H H' → H l = none → ys.Perm bs → sortedS ys = true → H' l = some (.lst xs) → DpAll K H' xs ((prs ys ys.length).map (tri rows)) → Q (.ref l) H'
def kindName : PyData → String
  | .none => "NoneType"
  | .bool _ => "bool"
  | .int _ => "int"
  | .str _ => "str"
  | .list _ => "list"
  | .tuple _ => "tuple"
  | .dict _ => "dict"
theorem ty_dp {H : Hp} {v : V} {d : PyData} (h : Dp K H v d) : TyX K H v (.type (kindName d)) := by
  cases h with
  | non => exact .base .non
  | bl b => exact .base (.bl b)
  | int i => exact .base (.int i)
  | str x => exact .base (.str x)
  | lst h a =>
    rcases h with (h | ⟨o, h⟩) | ⟨o, its, n, h, hc, _⟩
    · exact .base (.lst h)
    · exact .base (.frz h)
    · exact .kList h hc
  | tup h a =>
    rcases h with (h | ⟨o, h⟩) | ⟨o, its, n, h, hc, _⟩
    · exact .base (.tup h)
    · exact .fTuple h
    · exact .kTuple h hc
def Fine : Nat → PyData → Prop
  | _, .none => True
  | _, .bool _ => True
  | _, .int _ => True
  | _, .str x => PyData.strOk x = true
  | 0, .list _ => False
  | 0, .tuple _ => False
  | n + 1, .list ds => ds.length ≤ 1000 ∧ ∀ d ∈ ds, Fine n d
  | n + 1, .tuple ds => ds.length ≤ 1000 ∧ ∀ d ∈ ds, Fine n d
  | _, .dict _ => False
theorem kit_yes {K : PySem.W.Frag} {a : String} {cs : List Value} {b : String} (h : kitB a b = some true) : PySem.W.kitAny K (.type a) (.type b :: cs) = some true :=
  kitAny_cons (kit_ty h) (fun z => nomatch z) fun _ => rfl
theorem kit_no {K : PySem.W.Frag} {a : String} {cs : List Value} {b : String} {r : Bool} (h : kitB a b = some false) (t : PySem.W.kitAny K (.type a) cs = some r) : PySem.W.kitAny K (.type a) (.type b :: cs) = some r :=
  kitAny_cons (kit_ty h) (fun _ => t) fun z => nomatch z
theorem ixS (e : X.K = K) : IxR X (rIx K) := by
  subst e
  exact ix_seq
def spLike (K : PySem.W.Frag) (n : Nat) : Sp := fun vs H Q _ => ∃ (v1 v2 : V) (d : PyData) (m : Nat), n = m + 1 ∧ vs = [v1, v2] ∧ Dp K H v1 d ∧ Dp K H v2 d ∧ Fine m d ∧ ∀ H', Same H H' → Q (.bl true) H'
theorem fine_strs {ss : List Str} (hl : ss.length ≤ 1000) (ok : ∀ b ∈ ss, PyData.strOk b = true) (n : Nat) : Fine (n + 1) (.tuple (ss.map PyData.str)) := by
  refine ⟨by rw [List.length_map]; exact hl, fun d hd => ?_⟩
  obtain ⟨b, hb, rfl⟩ := List.mem_map.mp hd
  cases n <;> exact ok b hb
theorem fine_nats {ns : List Nat} (hl : ns.length ≤ 1000) (n : Nat) : Fine (n + 1) (.list ((ns.map fun k : Nat => (k : Int)).map PyData.int)) := by
  refine ⟨by rw [List.length_map, List.length_map]; exact hl, fun d hd => ?_⟩
  obtain ⟨b, hb, rfl⟩ := List.mem_map.mp hd
  cases n <;> exact True.intro
theorem natV_map (ns : List Nat) : ns.map natV = (ns.map fun k : Nat => (k : Int)).map V.int := by
  rw [List.map_map]
  rfl
theorem prs_sub {ys : List Str} : ∀ {n : Nat} {q : Str × Str}, q ∈ prs ys n → q.1 ∈ ys ∧ q.2 ∈ ys
  | 0, q, h => by cases h
  | n + 1, q, h => by
    cases e : ys[n]? with
    | none =>
      have e2 : prs ys (n + 1) = prs ys n ++ (match ys[n]? with | some a => (ys.drop (n + 1)).map fun b => (a, b) | none => []) := rfl
      rw [e2, e, List.append_nil] at h
      exact prs_sub h
    | some a =>
      rw [prs_succ e] at h
      rcases List.mem_append.mp h with h | h
      · exact prs_sub h
      · obtain ⟨b, hb, rfl⟩ := List.mem_map.mp h
        exact ⟨List.mem_of_getElem? e, List.mem_of_mem_drop hb⟩
theorem fine_tri {ys : List Str} {rows : List (Str × Str)} (hl : ys.length ≤ 7) (ok : ∀ b ∈ ys, PyData.strOk b = true) (n : Nat) : Fine (n + 2) (.list ((prs ys ys.length).map (tri rows))) := by
  have lp : (prs ys ys.length).length ≤ 49 := by
    have z := prs_len ys ys.length
    have z2 : ys.length * ys.length ≤ 7 * 7 := Nat.mul_le_mul hl hl
    omega
  refine ⟨by rw [List.length_map]; omega, fun d hd => ?_⟩
  obtain ⟨q, hq, rfl⟩ := List.mem_map.mp hd
  have z := prs_sub hq
  refine ⟨by show 3 ≤ 1000; decide, fun d hd => ?_⟩
  simp only [List.mem_cons, List.not_mem_nil, or_false] at hd
  rcases hd with rfl | rfl | rfl
  · cases n <;> exact ok _ z.1
  · cases n <;> exact ok _ z.2
  · cases n <;> exact True.intro
theorem fine_can : ∀ (n : Nat) (d : PyData), Fine n d → d.canLay0 = true ∧ d.depth ≤ n
  | n, .none, _ => ⟨by simp [PyData.canLay0], by simp [PyData.depth]⟩
  | n, .bool _, _ => ⟨by simp [PyData.canLay0], by simp [PyData.depth]⟩
  | n, .int _, _ => ⟨by simp [PyData.canLay0], by simp [PyData.depth]⟩
  | n, .str x, h => by
    have h' : PyData.strOk x = true := by cases n <;> exact h
    exact ⟨by simp [PyData.canLay0, h'], by simp [PyData.depth]⟩
  | 0, .list _, h => h.elim
  | 0, .tuple _, h => h.elim
  | n + 1, .list ds, h => by
    have a := fun d hd => fine_can n d (h.2 d hd)
    refine ⟨by rw [PyData.canLay0]; exact canAll ds fun d hd => (a d hd).1, ?_⟩
    rw [PyData.depth]
    exact Nat.succ_le_succ (depthAll_le ds fun d hd => (a d hd).2)
  | n + 1, .tuple ds, h => by
    have a := fun d hd => fine_can n d (h.2 d hd)
    refine ⟨by rw [PyData.canLay0]; exact canAll ds fun d hd => (a d hd).1, ?_⟩
    rw [PyData.depth]
    exact Nat.succ_le_succ (depthAll_le ds fun d hd => (a d hd).2)
  | n, .dict _, h => by cases n <;> exact h.elim
theorem fine_shaped {n : Nat} {d : PyData} (h : Fine n d) (hn : n ≤ 64) : SeqAt.shaped d = true := shaped_of (fine_can n d h).1 (Nat.le_trans (fine_can n d h).2 hn)
theorem fine_eqv {n : Nat} {d : PyData} (h : Fine n d) : PyData.eqv d d = true := PySem.SeqAt.eqv_refl d (fine_can n d h).1
theorem rowsM_sub : ∀ {bs : List Str} (rs : List Str), (∀ b ∈ rs, b ∈ bs) → ∀ z ∈ rowsM bs rs, z.1 ∈ bs ∧ z.2 ∈ bs
  | bs, [], _, z, hz => by cases hz
  | bs, b :: r, h, z, hz => by
    have hb := h b (List.mem_cons_self ..)
    have p := lay_perm hb
    rcases List.mem_append.mp (show z ∈ (over bs b).map (fun o => (b, o)) ++ rowsM (lay bs b) r from hz) with hz | hz
    · obtain ⟨o, ho, rfl⟩ := List.mem_map.mp hz
      exact ⟨hb, over_mem ho⟩
    · have q := rowsM_sub (bs := lay bs b) r (fun c hc => p.mem_iff.mpr (h c (List.mem_cons_of_mem _ hc))) z hz
      exact ⟨p.mem_iff.mp q.1, p.mem_iff.mp q.2⟩
def spLaw (K : PySem.W.Frag) : Sp := fun vs H Q _ => ∃ (a : Addr) (ns : List Int), vs = [.ref a] ∧ SqL K H a (ns.map V.int) ∧ ns.length ≤ 63 ∧ ∀ H', Q (.bl true) H'
end
end Lt

set_option Elab.async false
set_option linter.all false
set_option maxRecDepth 100000
set_option maxHeartbeats 4000000
namespace Lt
open PySem PySem.Spec PyProof.Rows L2
/-! rows of texts compared, asked, cut -/
theorem eqvAll_strs : ∀ xs ys : List Str, PyData.eqvAll (xs.map PyData.str) (ys.map PyData.str) = decide (xs = ys)
  | [], [] => rfl
  | [], y :: r => rfl
  | x :: r, [] => rfl
  | x :: r, y :: t => by
    show ((x == y) && PyData.eqvAll (r.map PyData.str) (t.map PyData.str)) = _
    rw [eqvAll_strs r t]
    by_cases c : x = y
    · subst c
      rw [beq_self_eq_true, Bool.true_and, decide_eq_decide]
      exact ⟨fun h => by rw [h], fun h => (List.cons.inj h).2⟩
    · rw [beq_eq_false_iff_ne.mpr c, Bool.false_and]
      exact (decide_eq_false fun h => c (List.cons.inj h).1).symm
theorem eqvL_strs (xs ys : List Str) : PyData.eqv (.list (xs.map PyData.str)) (.list (ys.map PyData.str)) = decide (xs = ys) := by
  rw [← eqvAll_strs]
  simp only [PyData.eqv]
theorem eqvT_strs (xs ys : List Str) : PyData.eqv (.tuple (xs.map PyData.str)) (.tuple (ys.map PyData.str)) = decide (xs = ys) := by
  rw [← eqvAll_strs]
  simp only [PyData.eqv]
theorem inV_strs (b : Str) (l : List Str) : inV (.str b) (l.map V.str) = decide (b ∈ l) := by
  unfold inV
  induction l with
  | nil => rfl
  | cons x r ih =>
    rw [List.map_cons, List.any_cons, ih]
    show ((x == b) || decide (b ∈ r)) = decide (b ∈ x :: r)
    by_cases e : x = b
    · subst e
      simp
    · have z : (x == b) = false := beq_eq_false_iff_ne.mpr e
      rw [z, Bool.false_or]
      by_cases c : b ∈ r
      · simp [c]
      · simp [c, Ne.symm e]
theorem oIn {X : Cx} {K : PySem.W.Frag} (e : X.K = K) : OpR X (compareOp .In) (rIn K false) := by
  subst e
  exact op_in_seq
theorem cut_all {xs : List V} {lo hi : Option Int} (h : HT.sIx xs.length 0 lo = 0 ∧ HT.sIx xs.length xs.length hi = xs.length) : cutV xs lo hi = xs := by
  unfold cutV
  rw [h.1, h.2, List.drop_zero, Nat.sub_zero, List.take_length]
/-- a tuple's slice: some tuple of the cut -/
theorem sl_of {K : PySem.W.Frag} {H : Hp} {a : Addr} {xs ys : List V} {lo hi : Option Int} {Q : VK} (sq : SqT K H a xs) (e : cutV xs lo hi = ys) (h : ∀ (b : Addr) (H2 : Hp), Same H H2 → SqT K H2 b ys → Q (.ref b) H2) : rSlA K (.ref a) lo hi H Q := by
  refine ⟨a, xs, rfl, sq, fun z => ?_, fun _ p hp => ?_⟩
  · rw [cut_all z] at e
    subst e
    exact h a H (fun _ _ h => h) sq
  · rw [e]
    exact h p _ (same_new hp _) (sqt upd_same)
theorem sl_lo {K : PySem.W.Frag} {σ : L2.St} {H : Hp} {a : Addr} {xs ys : List V} {lo : Option Int} {Q : VK} (sq : SqT K H a xs) (e : cutV xs lo none = ys) (h : ∀ (b : Addr) (H2 : Hp), Same H H2 → SqT K H2 b ys → Q (.ref b) H2) :
    tNoPart σ H fun u H3 => rSlA K (.ref a) lo u H3 Q := sl_of (lo := lo) (hi := none) sq e h
theorem filt_y {α : Type} {p : α → Bool} {b : α} (c : p b = true) : [b].filter p = [b] := by
  rw [List.filter_cons_of_pos c, List.filter_nil]
theorem filt_n {α : Type} {p : α → Bool} {b : α} (c : ¬ p b = true) : [b].filter p = [] := by
  rw [List.filter_cons_of_neg c, List.filter_nil]
/-- an expression with a word behind it: what follows is shown once -/
def tMid (te : TE) : TE := fun σ H Q => ∃ Mid : V → Hp → Prop, te σ H Mid ∧ ∀ v H', Mid v H' → Q v H'
theorem pe_mid {X : Cx} {e : Expr} {te : TE} (h : PE X e te) : PE X e (tMid te) :=
  ⟨fun pins s σ H Q I ⟨Mid, h1, h2⟩ => thn (h.run pins s σ H Mid I h1) fun v s1 ⟨x, H1, I1, r1, q1⟩ => ⟨x, H1, I1, r1, h2 _ _ q1⟩⟩
/-! a reading's first step, by its name -/
theorem un_seq {t u : TS} {D : Ends} {σ : L2.St} {H : Hp} (h : t { D with nx := u D } σ H) : tSeq t u D σ H := h
theorem un_if {r : R2} {a b : TE} {t u : TS} {D : Ends} {σ : L2.St} {H : Hp} (h : a σ H fun x H1 => b σ H1 fun y H2 => r x y H2 fun v H3 => ∃ k, v = .bl k ∧ if k = true then t D σ H3 else u D σ H3) : tIfS (tTest (tOp r a b)) t u D σ H := h
theorem un_asg {te : TE} {g : TG} {D : Ends} {σ : L2.St} {H : Hp} (h : te σ H fun x H1 => g x σ H1 D.nx) : tAsg te g D σ H := h
theorem un_for {wi : TI} {g : TG} {tb : TS} {D : Ends} {σ : L2.St} {H : Hp} (h : wi σ H fun J H1 => ∃ W : Nat → Nat → L2.St → Hp → Prop, (∃ m, W 0 m σ H1) ∧ ∀ i m σ H, W i m σ H →
  (J.stop i H ∧ D.nx σ H) ∨ (J.go i H ∧ ∃ N : L2.St → Hp → Prop, (∀ σ' H', N σ' H' → ∃ m', m' < m ∧ W (i + 1) m' σ' H') ∧ ∀ x H', J.yld i H x H' → g x σ H' fun σ2 H2 => tb { D with nx := N, ct := N, bk := D.nx } σ2 H2)) : tFor wi g tb D σ H := h
theorem cut_low {xs : List V} {j : Nat} {z : Int} (e : z = (j : Int)) (h : j ≤ xs.length) : cutV xs (some z) none = xs.drop j := by
  rw [e]
  exact cut_from h
theorem cut_high {xs : List V} {j : Nat} {z : Int} (e : z = (j : Int)) (h : j ≤ xs.length) : cutV xs none (some z) = xs.take j := by
  rw [e]
  exact cut_to h
end Lt

set_option Elab.async false
set_option linter.all false
set_option maxRecDepth 100000
set_option maxHeartbeats 4000000
namespace Lt
open PySem PySem.Spec PyProof.Rows L2
/-! ### the lowest books that lie in the other's order already -/
/-- how many of the first of os come in l one behind the other -/
def gre (os l : List Str) : Nat := l.foldl (fun k b => if os[k]? = some b then k + 1 else k) 0
theorem gre_snoc (os l : List Str) (b : Str) : gre os (l ++ [b]) = if os[gre os l]? = some b then gre os l + 1 else gre os l := by
  unfold gre
  rw [List.foldl_append]
  rfl
theorem gre_mono (os l : List Str) (b : Str) : gre os l ≤ gre os (l ++ [b]) := by
  rw [gre_snoc]
  split <;> omega
theorem gre_sub (os : List Str) : ∀ l : List Str, gre os l ≤ os.length ∧ (os.take (gre os l)).Sublist l := by
  refine snoc_ind (p := fun l => gre os l ≤ os.length ∧ (os.take (gre os l)).Sublist l) ⟨Nat.zero_le _, by show (os.take 0).Sublist []; rw [List.take_zero]; exact List.Sublist.refl _⟩ (fun l b ih => ?_)
  rw [gre_snoc]
  by_cases c : os[gre os l]? = some b
  · rw [if_pos c]
    have lt := (List.getElem?_eq_some_iff.mp c).1
    refine ⟨lt, ?_⟩
    rw [List.take_add_one, c]
    exact ih.2.append (List.Sublist.refl _)
  · rw [if_neg c]
    exact ⟨ih.1, ih.2.trans (List.sublist_append_left _ _)⟩
theorem gre_best (os : List Str) : ∀ (l : List Str) (k : Nat), k ≤ os.length → (os.take k).Sublist l → k ≤ gre os l := by
  refine snoc_ind (p := fun l => ∀ k : Nat, k ≤ os.length → (os.take k).Sublist l → k ≤ gre os l) (fun k hk h => ?_) (fun l b ih k hk h => ?_)
  · have z := h.length_le
    rw [List.length_take, List.length_nil] at z
    omega
  · cases k with
    | zero => exact Nat.zero_le _
    | succ j =>
      have hj : os[j]? = some os[j] := List.getElem?_eq_getElem (by omega)
      rw [List.take_add_one, hj] at h
      obtain ⟨r1, r2, e, h1, h2⟩ := List.sublist_append_iff.mp h
      rcases List.sublist_cons_iff.mp h2 with h3 | ⟨r, er, h3⟩
      · have e2 : r2 = [] := List.eq_nil_of_sublist_nil h3
        rw [e2, List.append_nil] at e
        have q := ih (j + 1) hk (by rw [List.take_add_one, hj]; rw [← e] at h1; exact h1)
        exact Nat.le_trans q (gre_mono os l b)
      · have er0 : r = [] := List.eq_nil_of_sublist_nil h3
        rw [er, er0] at e
        obtain ⟨e1, e2⟩ := List.append_inj' e rfl
        have eb : os[j] = b := by
          have z : [os[j]] = [b] := e2
          exact (List.cons.inj z).1
        rw [← e1] at h1
        have q := ih j (by omega) h1
        rw [gre_snoc]
        by_cases c : j = gre os l
        · rw [← c, hj, eb, if_pos rfl]
          omega
        · split <;> omega
theorem gre_iff (os l : List Str) {k : Nat} (hk : k ≤ os.length) : (os.take k).Sublist l ↔ k ≤ gre os l :=
  ⟨gre_best os l k hk, fun h => ((List.take_sublist_take_left h).trans (gre_sub os l).2)⟩
/-- how many of the lowest books of os lie in its order in bs -/
def stay (bs os : List Str) : Nat := gre os.reverse bs.reverse
theorem stay_le (bs os : List Str) : stay bs os ≤ os.length := by
  have z := (gre_sub os.reverse bs.reverse).1
  rw [List.length_reverse] at z
  exact z
theorem low_rev (os : List Str) {k : Nat} (hk : k ≤ os.length) : os.drop (os.length - k) = (os.reverse.take k).reverse := by
  rw [List.take_reverse, List.reverse_reverse]
theorem low_sub {bs os : List Str} {k : Nat} (hk : k ≤ os.length) : (os.drop (os.length - k)).Sublist bs ↔ k ≤ stay bs os := by
  rw [low_rev os hk]
  refine Iff.trans ?_ (gre_iff os.reverse bs.reverse (by rw [List.length_reverse]; exact hk))
  constructor
  · intro h
    have z := h.reverse
    rw [List.reverse_reverse] at z
    exact z
  · intro h
    have z := h.reverse
    rw [List.reverse_reverse] at z
    exact z
theorem filter_sub {bs ss : List Str} (nd : bs.Nodup) (h : ss.Sublist bs) : bs.filter (fun z => decide (z ∈ ss)) = ss := by
  have s1 : ss.Sublist (bs.filter fun z => decide (z ∈ ss)) := by
    have z := h.filter fun z => decide (z ∈ ss)
    rw [List.filter_eq_self.mpr (fun z hz => by simpa using hz)] at z
    exact z
  refine (s1.eq_of_length ?_).symm
  have p : ss.Perm (bs.filter fun z => decide (z ∈ ss)) := by
    rw [List.perm_ext_iff_of_nodup (nd.sublist h) (nd.sublist List.filter_sublist)]
    intro z
    rw [List.mem_filter]
    exact ⟨fun hz => ⟨h.subset hz, by simpa using hz⟩, fun hz => by simpa using hz.2⟩
  exact p.length_eq
theorem filter_iff {bs ss : List Str} (nd : bs.Nodup) : bs.filter (fun z => decide (z ∈ ss)) = ss ↔ ss.Sublist bs :=
  ⟨fun h => by rw [← h]; exact List.filter_sublist, filter_sub nd⟩
theorem nub_self {l : List Str} (nd : l.Nodup) : nub l = l := by
  refine snoc_ind (p := fun l => l.Nodup → nub l = l) (fun _ => rfl) (fun l x ih nd => ?_) l nd
  have nd1 : l.Nodup := nd.sublist (List.sublist_append_left _ _)
  have nx : x ∉ l := fun h => (List.nodup_append.mp nd).2.2 x h x (List.mem_singleton.mpr rfl) rfl
  rw [nub_snoc, ih nd1, if_neg nx]
theorem nub_full (l : List Str) : (nub l).length = l.length → nub l = l := by
  refine snoc_ind (p := fun l => (nub l).length = l.length → nub l = l) (fun _ => rfl) (fun l x ih h => ?_) l
  have z := dist_le l
  unfold dist at z
  rw [nub_snoc] at h ⊢
  by_cases c : x ∈ nub l
  · rw [if_pos c, List.length_append, List.length_singleton] at h
    omega
  · rw [if_neg c] at h ⊢
    rw [List.length_append, List.length_append] at h
    rw [ih (by simpa using h)]
/-- the fewest readings -/
def few (bs os : List Str) : List Str := (os.take (os.length - stay bs os)).reverse
theorem few_len (bs os : List Str) : (few bs os).length = os.length - stay bs os := by
  unfold few
  rw [List.length_reverse, List.length_take]
  omega
theorem few_mem {bs os : List Str} (p : os.Perm bs) : ∀ b ∈ few bs os, b ∈ bs := fun b hb => by
  unfold few at hb
  exact p.mem_iff.mp (List.mem_of_mem_take (List.mem_reverse.mp hb))
theorem few_leads {bs os : List Str} (nd : bs.Nodup) (p : os.Perm bs) : behindM bs (few bs os) = os := by
  have ndo : os.Nodup := p.nodup_iff.mpr nd
  have hs := stay_le bs os
  have sub := (low_sub (bs := bs) (os := os) (k := stay bs os) hs).mpr (Nat.le_refl _)
  rw [behind_is nd _ (few_mem p)]
  unfold few
  rw [List.reverse_reverse, nub_self (ndo.sublist (List.take_sublist _ _))]
  have e : bs.filter (fun z => decide (z ∉ (os.take (os.length - stay bs os)).reverse)) = os.drop (os.length - stay bs os) := by
    refine Eq.trans ?_ (filter_sub nd sub)
    apply List.filter_congr
    intro z hz
    have hz2 : z ∈ os := p.mem_iff.mpr hz
    rw [← List.take_append_drop (os.length - stay bs os) os] at hz2 ndo
    have dj := (List.nodup_append.mp ndo).2.2
    rw [decide_eq_decide, List.mem_reverse]
    constructor
    · intro h
      exact (List.mem_append.mp hz2).resolve_left h
    · intro h h2
      exact dj z h2 z h rfl
  rw [e, List.take_append_drop]
theorem few_least {bs os rs : List Str} (nd : bs.Nodup) (p : os.Perm bs) (hm : ∀ b ∈ rs, b ∈ bs) (h : behindM bs rs = os) : (few bs os).length ≤ rs.length ∧ (rs.length = (few bs os).length → rs = few bs os) := by
  rw [behind_is nd _ hm] at h
  have hd : os.drop (nub rs.reverse).length = bs.filter fun z => decide (z ∉ rs) := by rw [← h, List.drop_left]
  have ht : os.take (nub rs.reverse).length = nub rs.reverse := by rw [← h, List.take_left]
  have hle : (nub rs.reverse).length ≤ os.length := by
    rw [← h, List.length_append]
    omega
  have sub : (os.drop (os.length - (os.length - (nub rs.reverse).length))).Sublist bs := by
    rw [show os.length - (os.length - (nub rs.reverse).length) = (nub rs.reverse).length by omega, hd]
    exact List.filter_sublist
  have q := (low_sub (by omega)).mp sub
  have d := dist_le rs.reverse
  rw [List.length_reverse] at d
  unfold dist at d
  have s1 := stay_le bs os
  rw [few_len]
  refine ⟨by omega, fun e => ?_⟩
  have full : nub rs.reverse = rs.reverse := nub_full _ (by rw [List.length_reverse]; omega)
  unfold few
  rw [full, List.length_reverse] at ht
  rw [← e, ht, List.reverse_reverse]
/-! ### all readings of a length -/
def allRows (bs : List Str) : Nat → List (List Str)
  | 0 => [[]]
  | n + 1 => (allRows bs n).flatMap fun r => bs.map fun b => r ++ [b]
theorem allRows_mem (bs : List Str) : ∀ (n : Nat) (r : List Str), r ∈ allRows bs n ↔ r.length = n ∧ ∀ b ∈ r, b ∈ bs
  | 0, r => by
    show r ∈ [[]] ↔ _
    rw [List.mem_singleton]
    exact ⟨fun h => by rw [h]; exact ⟨rfl, fun b hb => nomatch hb⟩, fun h => List.eq_nil_of_length_eq_zero h.1⟩
  | n + 1, r => by
    show r ∈ (allRows bs n).flatMap _ ↔ _
    rw [List.mem_flatMap]
    constructor
    · rintro ⟨q, hq, hr⟩
      obtain ⟨b, hb, rfl⟩ := List.mem_map.mp hr
      obtain ⟨l, m⟩ := (allRows_mem bs n q).mp hq
      refine ⟨by rw [List.length_append, l]; rfl, fun c hc => ?_⟩
      rcases List.mem_append.mp hc with hc | hc
      · exact m c hc
      · rw [List.mem_singleton.mp hc]
        exact hb
    · rintro ⟨l, m⟩
      have ne : r ≠ [] := fun e => by rw [e] at l; cases l
      have er : r.dropLast ++ [r.getLast ne] = r := List.dropLast_concat_getLast ne
      refine ⟨r.dropLast, (allRows_mem bs n _).mpr ⟨by rw [List.length_dropLast, l]; rfl, fun c hc => m c ((List.dropLast_sublist r).subset hc)⟩, List.mem_map.mpr ⟨r.getLast ne, m _ (List.getLast_mem ne), er⟩⟩
theorem allRows_nodup {bs : List Str} (nd : bs.Nodup) : ∀ n, (allRows bs n).Nodup
  | 0 => by
    show [[]].Nodup
    exact List.nodup_cons.mpr ⟨fun h => (nomatch h), List.nodup_nil⟩
  | n + 1 => by
    show ((allRows bs n).flatMap fun r => bs.map fun b => r ++ [b]).Nodup
    have ih := allRows_nodup nd n
    have key : ∀ ls : List (List Str), ls.Nodup → (ls.flatMap fun r => bs.map fun b => r ++ [b]).Nodup := by
      intro ls
      induction ls with
      | nil => intro _; exact List.nodup_nil
      | cons q t ih2 =>
        intro h
        obtain ⟨h1, h2⟩ := List.nodup_cons.mp h
        rw [List.flatMap_cons]
        refine List.nodup_append.mpr ⟨?_, ih2 h2, ?_⟩
        · rw [List.nodup_iff_pairwise_ne, List.pairwise_map]
          exact nd.imp fun hne e => hne (List.cons.inj (List.append_cancel_left e)).1
        · intro x hx y hy e
          obtain ⟨b, _, rfl⟩ := List.mem_map.mp hx
          obtain ⟨q2, hq2, hy2⟩ := List.mem_flatMap.mp hy
          obtain ⟨b2, _, rfl⟩ := List.mem_map.mp hy2
          have e2 := (List.append_inj' e rfl).1
          rw [e2] at h1
          exact h1 hq2
    exact key _ ih
theorem allRows_len (bs : List Str) : ∀ n, (allRows bs n).length = bs.length ^ n
  | 0 => rfl
  | n + 1 => by
    have key : ∀ ls : List (List Str), (ls.flatMap fun r => bs.map fun b => r ++ [b]).length = ls.length * bs.length := by
      intro ls
      induction ls with
      | nil => rw [List.flatMap_nil, List.length_nil, Nat.zero_mul]
      | cons q t ih => rw [List.flatMap_cons, List.length_append, List.length_map, ih, List.length_cons, Nat.succ_mul, Nat.add_comm]
    show ((allRows bs n).flatMap fun r => bs.map fun b => r ++ [b]).length = _
    rw [key, allRows_len bs n, Nat.pow_succ]
theorem filter_one {α : Type} [DecidableEq α] {l : List α} {x : α} (nd : l.Nodup) (h : x ∈ l) : l.filter (fun z => decide (z = x)) = [x] := by
  induction l with
  | nil => cases h
  | cons a r ih =>
    obtain ⟨n1, n2⟩ := List.nodup_cons.mp nd
    by_cases e : a = x
    · rw [List.filter_cons_of_pos (by simpa using e), e]
      congr 1
      rw [List.filter_eq_nil_iff]
      intro z hz c
      have c' : z = x := of_decide_eq_true c
      rw [e, ← c'] at n1
      exact n1 hz
    · rw [List.filter_cons_of_neg (by simpa using e)]
      exact ih n2 ((List.mem_cons.mp h).resolve_left fun z => e z.symm)
/-- of all readings as long as the fewest, these alone -/
theorem few_only {bs os : List Str} (nd : bs.Nodup) (p : os.Perm bs) : (allRows bs (few bs os).length).filter (fun r => decide (behindM bs r = os)) = [few bs os] := by
  have e : (allRows bs (few bs os).length).filter (fun r => decide (behindM bs r = os)) = (allRows bs (few bs os).length).filter fun r => decide (r = few bs os) := by
    apply List.filter_congr
    intro r hr
    obtain ⟨l, m⟩ := (allRows_mem bs _ r).mp hr
    rw [decide_eq_decide]
    exact ⟨fun h => (few_least nd p m h).2 l, fun h => by rw [h]; exact few_leads nd p⟩
  rw [e]
  exact filter_one (allRows_nodup nd _) ((allRows_mem bs _ _).mpr ⟨rfl, few_mem p⟩)
theorem few_none {bs os : List Str} (nd : bs.Nodup) (p : os.Perm bs) {n : Nat} (h : n < (few bs os).length) : (allRows bs n).filter (fun r => decide (behindM bs r = os)) = [] := by
  rw [List.filter_eq_nil_iff]
  intro r hr c
  obtain ⟨l, m⟩ := (allRows_mem bs _ r).mp hr
  have z := (few_least nd p m (of_decide_eq_true c)).1
  omega
end Lt

set_option Elab.async false
set_option linter.all false
set_option maxRecDepth 100000
set_option maxHeartbeats 4000000
/-! list(reversed(t)), t a tuple. -/
namespace Lt
open PySem PySem.Spec PyProof.Rows L2 RT
theorem rv_noLen : typeLookup (.type "reversed") "__len__" = pure none := by
  rw [typeLookup_type, builtinLookup_eq_fast]
  kernel_rfl
theorem rv_hint : Slot "reversed" "__length_hint__" "reversed.__length_hint__" := by
  refine Slot.of (owner := "reversed") (n := "__length_hint__") ?_ (by decide +kernel) (by decide +kernel) (by decide +kernel) ?_ ?_
  · rw [typeLookup_type, builtinLookup_eq_fast]
    kernel_rfl
  · first
    | exact .inl (by decide +kernel)
    | exact .inr (by decide +kernel)
  · rw [isSubtype_type]
    kernel_rfl
theorem rv_hintE : entryFor table "reversed.__length_hint__" = some Builtin.«reversed.__length_hint__» := entryFor_of_tree (by kernel_rfl)
theorem rv_hintA (a : Value) : argsOk "reversed.__length_hint__" ⟨[a], []⟩ := by
  unfold argsOk
  rw [signature?_of (id := "reversed.__length_hint__") (n := ['_', '_', 't', 'n', 'i', 'h', '_', 'h', 't', 'g', 'n', 'e', 'l', '_', '_']) (o := ['d', 'e', 's', 'r', 'e', 'v', 'e', 'r']) (by kernel_rfl) owner_rt]
  kernel_rfl
section
variable {prog : Program} {w : World} {A : Around} {E : Value → Shared → Prop} {s : Shared}
theorem rv_walks (hh : A.handled = none) (I t : Addr) (ne : t ≠ I) (items : Array Value) (fit : items.size ≤ sizeLine) :
    Walks prog w A I [I, t] [I] items.size (fun i v => items[items.size - 1 - i]? = some v) (fun i h => i ≤ items.size ∧ IsRt h I t ((items.size : Int) - 1 - (i : Int)) ∧ IsTup h t items) := by
  refine ⟨fun b hb => ?_, fun i h h' z k => ?_, fun i s Q E hi z hQ => ?_, fun s Q E z hQ => ?_, fun i s Q E z hQ => iter_rt z.2.1 hQ⟩
  · rw [List.mem_singleton.mp hb]
    exact List.mem_cons_self ..
  · refine ⟨z.1, z.2.1.at fun o e => k I (by simp) o e, ?_⟩
    obtain ⟨o, e, c⟩ := z.2.2
    exact ⟨o, k t (by simp) o e, c⟩
  · obtain ⟨z0, z1, z2⟩ := z
    have at1 : (items.size : Int) - 1 - (i : Int) = ((items.size - 1 - i : Nat) : Int) := by omega
    rw [at1] at z1
    have lt : items.size - 1 - i < items.size := by omega
    have got : items[items.size - 1 - i]? = some items[items.size - 1 - i] := Array.getElem?_eq_getElem lt
    refine next_rt_item z1 z2 got fit fun h' z' same => ?_
    have at2 : ((items.size - 1 - i : Nat) : Int) - 1 = (items.size : Int) - 1 - ((i + 1 : Nat) : Int) := by omega
    rw [at2] at z'
    refine hQ _ h' (s.toks + 1) got ⟨hi, z', ?_⟩ fun b o hb e => (same.2 b fun q => hb (by rw [q]; exact List.mem_singleton.mpr rfl)).trans e
    obtain ⟨o, e, c⟩ := z2
    exact ⟨o, (same.2 t ne).trans e, c⟩
  · obtain ⟨_, z1, _⟩ := z
    have at1 : (items.size : Int) - 1 - (items.size : Int) = -1 := by omega
    rw [at1] at z1
    exact next_rt_end hh z1 fun h' ext => hQ h' s.toks fun b o hb e => ext b o (fun q => hb (by rw [q]; exact List.mem_singleton.mpr rfl)) e
theorem rv_len {t : Addr} {items : Array Value} {Q : Value → Shared → Prop} (ht : IsTup s.heap t items) (fit : items.size ≤ sizeLine) (h : Q (.int items.size (s.toks + 1)) { s with toks := s.toks + 1 + 1 }) :
    wpAny (model prog w) A (call (.builtin "len") [.ref t]) Q E s := len_tuple ht (by have z := line63; omega) h
theorem rv_hintC {it t : Addr} {items : Array Value} {i : Nat} {Q : Value → Shared → Prop} (hi : i < items.size ∨ i = items.size) (hit : IsRt s.heap it t ((i : Int) - 1)) (ht : IsTup s.heap t items) (fit : items.size ≤ sizeLine)
    (h : ∀ (s2 : Shared) (tk : Tok), (∃ k, s2 = { s with toks := k }) → Q (.int (i : Int) tk) s2) : wpAny (model prog w) A (call (.builtin "reversed.__length_hint__") [.ref it]) Q E s := by
  obtain ⟨o, ho, hc, hd⟩ := id hit
  refine wpAny_call_entry rv_hint hit.typeIs rv_hintE ?_ (rv_hintA _)
  unfold Builtin.«reversed.__length_hint__»
  refine wpAny_bind (wpAny_of_eq (a := Value.ref it) rfl ?_)
  refine wpAny_bind (wpAny_field ho hd (x := .ref t) rfl ?_)
  have no : (Value.ref t == Value.none) = false := rfl
  simp only [no, Bool.false_eq_true, if_false]
  refine wpAny_bind (rv_len ht fit ?_)
  refine wpAny_bind (m := asInt? _) (wpAny_pure ?_)
  refine wpAny_bind (wpAny_field (s := { s with toks := s.toks + 1 + 1 }) ho hd (x := rawInt ((i : Int) - 1)) rfl ?_)
  show wpAny _ _ (if ((items.size : Nat) : Int) < (i : Int) - 1 + 1 then _ else _) _ _ _
  rw [if_neg (by omega)]
  rw [show (i : Int) - 1 + 1 = (i : Int) by omega]
  unfold retInt
  refine wpAny_bind (wpAny_mkInt ?_)
  exact wpAny_pure ⟨_, rfl, h _ _ ⟨_, rfl⟩⟩
theorem rv_hintB {it t : Addr} {items : Array Value} {i : Nat} {Q : Bool → Shared → Prop} (hi : i < items.size ∨ i = items.size) (hit : IsRt s.heap it t ((i : Int) - 1)) (ht : IsTup s.heap t items) (fit : items.size ≤ sizeLine)
    (h : ∀ (b : Bool) (k : Nat), Q b { s with toks := k }) : wpAny (model prog w) A (Builtin.List.listLengthHint (.ref it)) Q E s := by
  unfold Builtin.List.listLengthHint
  refine wpAny_bind (wpAny_specialOf hit.typeIs rv_noLen ?_)
  show wpAny _ A (specialOf (Value.ref it) (Str.ofString "__length_hint__") >>= _) _ _ _
  refine wpAny_bind (wpAny_specialOf hit.typeIs rv_hint.lookup ?_)
  generalize hid : ("reversed.__length_hint__" : String) = id0
  wp_delta
  rw [show splitId id0 = some ("reversed", "__length_hint__") from by subst hid; decide +kernel]
  subst hid
  refine wpAny_bind (wpAny_isInstance (b := true) hit.typeIs (by rw [isSubtype_type]; kernel_rfl) ?_)
  refine wpAny_ite_split (fun hab => absurd hab (by decide)) (fun _ => ?_)
  refine wpAny_ite_split (fun hab => absurd hab (by decide +kernel)) (fun _ => ?_)
  refine wpAny_bind (wpAny_rule ?_)
  refine wpAny_bind (wpAny_of_eq (rv_hint.bind _) ?_)
  refine wpAny_bind (wpAny_attempt (rv_hintC hi hit ht fit fun s2 tk ⟨k, e⟩ => ?_))
  subst e
  have f0 : i ≤ sizeLine := by omega
  have f1 : Builtin.List.listFitsIndex (i : Int) = true := by
    have z := line63
    simp [Builtin.List.listFitsIndex]
    omega
  have f2 : Builtin.List.listTooLong ((i : Int).toNat) = false := by
    simp [Builtin.List.listTooLong]
    omega
  show wpAny _ _ (asInt? (Value.int (i : Int) tk) >>= _) _ _ _
  have ea : asInt? (Value.int (i : Int) tk) = pure (some (i : Int)) := rfl
  have f3 : ¬ (i : Int) < 0 := by omega
  generalize (i : Int) = j at ea f1 f2 f3 ⊢
  refine wpAny_bind ?_
  rw [ea]
  refine wpAny_pure ?_
  dsimp only
  refine wpAny_ite_split (fun hab => absurd hab (by rw [f1]; decide)) (fun _ => ?_)
  refine wpAny_ite_split (fun hab => absurd hab f3) (fun _ => ?_)
  rw [if_neg (by rw [f2]; decide)]
  exact wpAny_pure (h _ _)
theorem rv_extend {R : Result → Shared → Prop} {it t : Addr} {items : Array Value} (hh : A.handled = none) (hit : IsRt s.heap it t ((items.size : Int) - 1)) (ht : IsTup s.heap t items) (fit : items.size ≤ sizeLine) (ne : t ≠ it) (S : Addr) (c0 : Nat)
    (hS : s.heap.get? S = some { cls := .type "list", data := .seq #[] c0 })
    (hR : ∀ (h' : Heap) (tk : Nat) (acc : Array Value) (c : Nat), (∀ b o, b ≠ S → b ≠ it → s.heap.get? b = some o → h'.get? b = some o) → h'.get? S = some { cls := .type "list", dict := none, data := .seq acc c, slots := #[] } →
      ItemsOf (fun i v => items[items.size - 1 - i]? = some v) acc items.size → R (.ok (.ret .none)) { s with heap := h', toks := tk }) :
    wpAny (model prog w) A.in1 (Builtin.List.listExtendWith (.ref S) (.ref it) .none)
      (fun fin s' => match fin with | .done f => R (.ok f) s' | .again c' => c'.quiet = true ∧ codeAny (model prog w) A c' R s') (fun e s' => R (.error e) s') s := by
  have nSI : S ≠ it := fun e => by
    obtain ⟨o, ho, hc, _⟩ := hit
    rw [← e, hS] at ho
    cases ho
    exact absurd (show Value.type "list" = _ from hc) (by decide)
  have nST : S ≠ t := fun e => by
    obtain ⟨o, ho, hc, _⟩ := ht
    rw [← e, hS] at ho
    cases ho
    exact absurd (show Value.type "list" = _ from hc) (by decide)
  have out : S ∉ [it, t] := fun hm => by
    rcases List.mem_cons.mp hm with e | hm
    · exact nSI e
    · exact nST (List.mem_singleton.mp hm)
  have W := (rv_walks (prog := prog) (w := w) (A := A.in1) hh it t ne items fit).toS
  have go : ∀ (h : Heap) (c1 tk : Nat), IsRt h it t ((items.size : Int) - 1) → IsTup h t items → (∀ b o, b ≠ S → b ≠ it → s.heap.get? b = some o → h.get? b = some o) → h.get? S = some { cls := .type "list", data := .seq #[] c1 } →
      codeAny (model prog w) A (.builtin "list.extend.loop" ⟨[.ref S, .ref it, .none], []⟩) R { s with heap := h, toks := tk } := by
    intro h c1 tk i1 t1 k1 s1
    have e0 : (items.size : Int) - 1 - ((0 : Nat) : Int) = (items.size : Int) - 1 := by omega
    refine codeAny_extend_loopS W fit S out .none items.size 0 _ #[] c1 rfl (Nat.zero_le _) ⟨Nat.zero_le _, by rw [e0]; exact i1, t1⟩ s1 (ItemsOf.nil _) fun s' acc c' hm hS' hacc => ?_
    rw [Moved.eq_with hm]
    refine hR s'.heap s'.toks acc c' (fun b o nb ni e => hm.heap b o (fun hmem => ?_) (k1 b o nb ni e)) hS' hacc
    rcases List.mem_cons.mp hmem with e' | hmem
    · exact nb e'
    · exact ni (List.mem_singleton.mp hmem)
  unfold Builtin.List.listExtendWith
  refine wpAny_bind (wpAny_typeOf hit.typeIs ?_)
  have h1 : Builtin.List.listSameRef (.ref S) (.ref it) = false := by simp [Builtin.List.listSameRef, nSI]
  have h2 : (Value.type "reversed" == Value.type "list") = false := by decide
  have h3 : (Value.type "reversed" == Value.type "tuple") = false := by decide
  simp only [h1, h2, h3, Bool.or_false, Bool.false_eq_true, if_false]
  refine wpAny_bind (iter_rt hit ?_)
  refine wpAny_bind (wpAny_holding (rv_hintB (i := items.size) (.inr rfl) hit ht fit fun room tk => ?_))
  refine wpAny_ite_split (fun _ => ?_) (fun _ => wpAny_pure ⟨plainId_quiet F.plain_extend_loop _, go _ c0 _ hit ht (fun b o _ _ e => e) hS⟩)
  refine wpAny_bind (wpAny_rule ?_)
  refine wpAny_bind ?_
  show wpAny _ _ (updateSeq S (·.push .none) >>= fun _ => updateSeq S (·.pop)) _ _ _
  refine wpAny_bind (wpAny_updateSeq hS rfl ?_)
  have hS2 := Heap.get?_update_self (Obj.mapSeq (·.push Value.none)) hS rfl
  refine wpAny_updateSeq (hz := by seq_fits) hS2 rfl ?_
  have hS3 := Heap.get?_update_self (Obj.mapSeq (·.pop)) hS2 rfl
  have oth : ∀ b o, b ≠ S → s.heap.get? b = some o → ((s.heap.update S (Obj.mapSeq (·.push Value.none))).update S (Obj.mapSeq (·.pop))).get? b = some o :=
    fun b o hb e => (Heap.get?_update_other _ _ hb.symm).trans ((Heap.get?_update_other _ _ hb.symm).trans e)
  refine wpAny_pure ⟨plainId_quiet F.plain_extend_loop _, go _ _ _ (hit.at fun o e => oth it o nSI.symm e) ?_ (fun b o nb _ e => oth b o nb e) hS3⟩
  obtain ⟨o, ho, hc⟩ := ht
  exact ⟨o, oth t o nST.symm ho, hc⟩
theorem rv_init {R : Result → Shared → Prop} {it t : Addr} {items : Array Value} (hh : A.handled = none) (hit : IsRt s.heap it t ((items.size : Int) - 1)) (ht : IsTup s.heap t items) (fit : items.size ≤ sizeLine) (ne : t ≠ it) (S : Addr)
    (hS : s.heap.get? S = some { cls := .type "list", data := .seq #[] })
    (hR : ∀ (h' : Heap) (tk : Nat) (acc : Array Value) (c : Nat), (∀ b o, b ≠ S → b ≠ it → s.heap.get? b = some o → h'.get? b = some o) → h'.get? S = some { cls := .type "list", dict := none, data := .seq acc c, slots := #[] } →
      ItemsOf (fun i v => items[items.size - 1 - i]? = some v) acc items.size → R (.ok (.ret .none)) { s with heap := h', toks := tk }) :
    wpAny (model prog w) A.in1 (Builtin.«list.__init__» ⟨[.ref S, .ref it], []⟩)
      (fun fin s' => match fin with | .done f => R (.ok f) s' | .again c' => c'.quiet = true ∧ codeAny (model prog w) A c' R s') (fun e s' => R (.error e) s') s := by
  show wpAny _ _ (do let old ← Builtin.List.listItems (.ref S); Builtin.List.listUpdate (.ref S) (fun _ => #[]); letGo old.toList.reverse; Builtin.List.listExtendWith (.ref S) (.ref it) .none) _ _ s
  refine wpAny_bind ?_
  unfold Builtin.List.listItems
  refine wpAny_bind (wpAny_seqItems hS rfl (wpAny_pure ?_))
  show wpAny _ _ (updateSeq S (fun _ => #[]) >>= fun _ => letGo (#[] : Array Value).toList.reverse >>= fun _ => Builtin.List.listExtendWith (.ref S) (.ref it) .none) _ _ s
  refine wpAny_bind (wpAny_updateSeq hS rfl ?_)
  have hS2 := Heap.get?_update_self (Obj.mapSeq (fun _ => (#[] : Array Value))) hS rfl
  have oth : ∀ b o, b ≠ S → s.heap.get? b = some o → (s.heap.update S (Obj.mapSeq (fun _ => (#[] : Array Value)))).get? b = some o := fun b o hb e => (Heap.get?_update_other _ _ hb.symm).trans e
  have nSI : it ≠ S := fun e => by
    obtain ⟨o, ho, hc, _⟩ := hit
    rw [e, hS] at ho
    cases ho
    exact absurd (show Value.type "list" = _ from hc) (by decide)
  have nST : t ≠ S := fun e => by
    obtain ⟨o, ho, hc, _⟩ := ht
    rw [e, hS] at ho
    cases ho
    exact absurd (show Value.type "list" = _ from hc) (by decide)
  refine wpAny_bind (wpAny_letGo ?_)
  refine rv_extend hh (hit.at fun o e => oth it o nSI e) ?_ fit ne S _ hS2 fun h' tk acc c kp hS' hacc => hR h' tk acc c (fun b o nb ni e => kp b o nb ni (oth b o nb e)) hS' hacc
  obtain ⟨o, ho, hc⟩ := ht
  exact ⟨o, oth t o nST ho, hc⟩
theorem rv_list {it t : Addr} {items : Array Value} {Q : Value → Shared → Prop} (hh : A.handled = none) (hit : IsRt s.heap it t ((items.size : Int) - 1)) (ht : IsTup s.heap t items) (fit : items.size ≤ sizeLine) (ne : t ≠ it)
    (hQ : ∀ (h' : Heap) (tk : Nat) (acc : Array Value) (c : Nat), (∀ b o, b ≠ it → s.heap.get? b = some o → h'.get? b = some o) → h'.get? s.heap.objs.size = some { cls := .type "list", dict := none, data := .seq acc c, slots := #[] } →
      ItemsOf (fun i v => items[items.size - 1 - i]? = some v) acc items.size → Q (.ref s.heap.objs.size) { s with heap := h', toks := tk }) :
    wpAny (model prog w) A (call (.type "list") [.ref it]) Q E s := by
  refine callType_codes (Q₁ := fun obj s₁ => obj = .ref s.heap.objs.size ∧ s₁ = { s with heap := s.heap.push { cls := .type "list", data := .seq #[] } }) F.called_list (F.typeCall_list_1 _) F.entry_list_init
    (code_list_new _ ⟨rfl, rfl⟩) fun obj s₁ h₁ => ?_
  obtain ⟨rfl, rfl⟩ := h₁
  have hS : (s.heap.push { cls := .type "list", data := .seq #[] }).get? s.heap.objs.size = some { cls := .type "list", data := .seq #[] } := Heap.get?_push_size _ rfl
  have up : ∀ b o, s.heap.get? b = some o → (s.heap.push { cls := .type "list", data := .seq #[] }).get? b = some o := fun b o e => Heap.get?_push_of_some _ e
  refine ⟨⟨_, hS, rfl⟩, F.args_list_init_2 _ _, rv_init (A := A.in1) hh (hit.at fun o e => up _ o e) ?_ fit ne _ hS fun h' tk acc c kp hS' hacc => ⟨rfl, hQ h' tk acc c (fun b o ni e => kp b o (Nat.ne_of_lt (Heap.lt_size e)) ni (up b o e)) hS' hacc⟩⟩
  obtain ⟨o, ho, hc⟩ := ht
  exact ⟨o, up t o ho, hc⟩
end
section
variable {X : Cx}
/-- list(reversed(t)), t a tuple: a new list -/
def tListRev (K : PySem.W.Frag) (te : TE) : TE := fun σ H Q => te σ H fun v H1 => ∃ (a : Addr) (xs : List V), v = .ref a ∧ SqT K H1 a xs ∧ ∀ q, H1 q = none → Q (.ref q) (upd H1 q (.lst xs.reverse))
theorem pe_listRev {e : Expr} {te : TE} {p p2 pos pos2 : Pos} (hc : X.calm = true) (hg : Gl X "list") (hm : X.mg "list" = none) (hg2 : Gl X "reversed") (hm2 : X.mg "reversed" = none) (he : PE X e te)
    (hs : starEach [e] X.env = (false, eval e X.env) :: starEach [] X.env := by rfl)
    (hs2 : starEach [.Call (.Name "reversed" p2) [e] [] pos2] X.env = (false, eval (.Call (.Name "reversed" p2) [e] [] pos2) X.env) :: starEach [] X.env := by rfl) :
    PE X (.Call (.Name "list" p) [.Call (.Name "reversed" p2) [e] [] pos2] [] pos) (tListRev X.K te) := by
  refine ⟨fun pins s σ H Q I h => Call_ (ld_blt I hg hm (show bootBuiltins "list" = some (.type "list") by decide +kernel) (PyProof.Rows.callWith_type1 (args_cons (Call_ (ld_blt I hg2 hm2 PyProof.Rows.boot_reversed (PyProof.Rows.callWith_type1 (args_cons (thn (he.run pins s σ H _ I h) fun u s1 ⟨v, H1, I1, r1, q1⟩ => args_nil ?_) hs) hs rfl))) hs2) hs2 rfl))⟩
  obtain ⟨a, xs, ev, sq, q⟩ := q1
  subst ev
  obtain rfl : u = Value.ref a := r1
  obtain ⟨its, vals, tup, fit⟩ := I1.tuple sq
  have fitA : its.toArray.size ≤ sizeLine := by rw [List.size_toArray, ← vals.length]; exact fit
  refine call_reversed_tup tup (fun A E Q k => rv_len tup fitA k) (args_nil ?_)
  have old : ∀ b o, s1.heap.get? b = some o → (s1.heap.push (rtObj a ((its.toArray.size : Int) - 1))).get? b = some o := fun b o e => Heap.get?_push_of_some _ e
  have lt : a < s1.heap.objs.size := by
    obtain ⟨o, ho, _⟩ := tup
    exact Heap.lt_size ho
  have tup2 : IsTup (s1.heap.push (rtObj a ((its.toArray.size : Int) - 1))) a its.toArray := by
    obtain ⟨o, ho, r⟩ := tup
    exact ⟨o, old a o ho, r⟩
  refine rv_list (s := { s1 with heap := s1.heap.push (rtObj a ((its.toArray.size : Int) - 1)), toks := s1.toks + 1 + 1 }) (I1.ok.hd hc) ⟨_, Heap.get?_push_size _ rfl, rfl, rfl⟩ tup2 fitA (Nat.ne_of_lt lt) fun h' tk acc c kp new hacc => ?_
  have keep : ∀ b o, s1.heap.get? b = some o → h'.get? b = some o := fun b o e => kp b o (Nat.ne_of_lt (Heap.lt_size e)) (old b o e)
  have sz : (s1.heap.push (rtObj a ((its.toArray.size : Int) - 1))).objs.size = s1.heap.objs.size + 1 := Heap.size_push ..
  have lay : s1.heap.objs.size ≤ (s1.heap.push (rtObj a ((its.toArray.size : Int) - 1))).objs.size := by omega
  exact ⟨.ref _, upd H1 _ (.lst xs.reverse), I1.laid (t' := tk) keep lay (show ObjOk X.prog X.w _ _ _ (.lst xs.reverse) from ⟨by rw [List.length_reverse]; exact fit, acc.toList, c, vals_rev vals hacc, by rw [Array.toArray_toList]; exact new⟩), rfl, q _ (I1.hok.fresh lay)⟩
end
end Lt

set_option Elab.async false
set_option linter.all false
set_option maxRecDepth 100000
set_option maxHeartbeats 4000000
namespace Lt
open PySem PySem.Spec PyProof.Rows L2
section
variable {P : Program} {w : World} {K : PySem.W.Frag} {mg : Str → Option Value} {base : Heap} {X : Cx}
def top (i : Nat) : Stmt := PySem.Challenge.pw_laidontop_k09_whole_fewest_readings_to_a.main.body.getD i (.Pass ⟨0, 0, 0, 0⟩)
abbrev sFew : Stmt := top 1
abbrev sDraw : Stmt := top 3
abbrev sOrder : Stmt := top 4
abbrev sBooks : Stmt := top 5
abbrev sPile : Stmt := top 6
abbrev sReadings : Stmt := top 7
abbrev sRead : Stmt := top 8
abbrev sStay : Stmt := top 9
abbrev sLaw : Stmt := top 10
theorem scDraw : FnScope ["tape", "many", "prime", "cell", "found"] ["tape", "many"] (defScope sDraw) := ⟨rfl, rfl, rfl, by decide +kernel, rfl, by decide +kernel, by decide +kernel⟩
theorem ok_draw {f : Addr} {fd : FuncData} (F : Fun K "_law_draw" "_law_draw" sDraw f fd) (ml : mg "len" = none) : FnOk P w K mg base CX0 1 f fd ["tape", "many"] spDraw := by
  refine F.ok scDraw (fun vs H Q E h => ?_) (fun cdv A outer s H vs Q E hr h => ?_)
  · obtain ⟨T, S, ns, m, rfl, _⟩ := h
    rfl
  obtain ⟨T, S, ns, m, rfl, tp, m0, m1, q⟩ := h
  obtain ⟨i, c, hT⟩ := tp.at_
  have hS := tp.scr
  refine ⟨_, pss_cons (ps_set (i := 2) scDraw.nd rfl (.inl rfl) pe_int)
    (Evl.pss_cut (ps_if (pt_cmpR op_lt (pe_ix ix_list (pv 0) pe_int (fun _ _ => rfl)) (pv 1) (nomark _))
      (pss_cons (ps_set (i := 3) scDraw.nd rfl (.inl rfl) pe_int)
      (Evl.pss_cut (ps_if (pt_cmpR op_gt (pe_callB call_len_seq (by rfl) ml PySem.boot_len (pa_cons (pe_ix ix_list (pv 0) pe_int (fun _ _ => rfl)) pa_nil)) pe_int (nomark _))
        (pss_one (ps_set (i := 3) scDraw.nd rfl (.inl rfl) (pe_ix ix_list (pe_ix ix_list (pv 0) pe_int (fun _ _ => rfl))
          (pe_op op_mod (pe_ix ix_list (pv 0) pe_int (fun _ _ => rfl)) (pe_callB call_len_seq (by rfl) ml PySem.boot_len (pa_cons (pe_ix ix_list (pv 0) pe_int (fun _ _ => rfl)) pa_nil))) (fun _ _ => rfl)))) pss_nil)
      (Evl.pss_cut (ps_if (PW.pt (pw_or (pt_cmpR op_ge (pe_ix ix_list (pv 0) pe_int (fun _ _ => rfl)) (pe_callB call_len_seq (by rfl) ml PySem.boot_len (pa_cons (pe_ix ix_list (pv 0) pe_int (fun _ _ => rfl)) pa_nil)) (nomark _))
          (pw_or1 (pt_cmpR op_lt (pv 3) (pe_op op_pow pe_int pe_int) (nomark _)))))
        (pss_cons (ps_set (i := 3) scDraw.nd rfl (.inl rfl) (pe_op op_mod (pe_op op_add (pv 3) (pe_op op_mul pe_int (pe_ix ix_list (pv 0) pe_int (fun _ _ => rfl)))) (pv 2)))
        (pss_cons (ps_set (i := 3) scDraw.nd rfl (.inl rfl) (pe_op op_mod (pe_op op_add (pe_op op_add (pe_op op_mul (pv 3) (pv 3)) (pe_op op_mul pe_int (pv 3))) pe_int) (pv 2)))
        (pss_one (ps_set (i := 3) scDraw.nd rfl (.inl rfl) (pe_op op_mod (pe_op op_add (pe_op op_mul (pv 3) (pv 3)) pe_int) (pv 2)))))) pss_nil)
      (pss_cons (ps_asg (pe_op op_add (pe_ix ix_list (pv 0) pe_int (fun _ _ => rfl)) pe_int) (pg_sub (pv 0) pe_int set_list))
      (pss_one (ps_asg (pv 3) (pg_sub (pv 0) pe_int set_list))))))) pss_nil)
    (pss_cons (ps_set (i := 4) scDraw.nd rfl (.inl rfl) (pe_op op_mod (pe_ix ix_list (pv 0) pe_int (fun _ _ => rfl)) (pv 1)))
    (pss_cons (ps_asg (pe_op op_fdivW (pe_ix ix_list (pv 0) pe_int (fun _ _ => rfl)) (pv 1)) (pg_sub (pv 0) pe_int set_list))
    (pss_one (ps_ret (pv 4)))))), ?_⟩
  have lenE : ((ns.map V.int).length : Int) = ns.length := by rw [List.length_map]
  refine ⟨fun σ H' => ∃ (y3 : Option V) (i' c' : Int), σ = [some (.ref T), some (.int m), some (.int 2305843009213693951), y3, none] ∧ H' = upd H T (.lst [.ref S, .int i', .int c']), ?_, ?_⟩
  · refine ⟨_, rfl, T, _, 2, _, rfl, rfl, sql hT, rfl, _, rfl, _, _, rfl, rfl, _, rfl, ite2 (fun _ => ?_) (fun _ => ?_)⟩
    · -- the cell
      refine ⟨fun σ H' => ∃ c0 : Int, σ = [some (.ref T), some (.int m), some (.int 2305843009213693951), some (.int c0), none] ∧ H' = H, ?_, ?_⟩
      · refine ⟨_, rfl, T, _, 0, _, rfl, rfl, sql hT, rfl, S, _, rfl, .inl (sql hS), _, _, rfl, rfl, _, rfl, ite2 (fun g => ?_) (fun _ => ?_)⟩
        · have g1 : (0 : Int) < ((ns.map V.int).length : Int) := of_decide_eq_true g
          rw [lenE] at g1
          have e0 : 0 ≤ i % (ns.length : Int) := Int.emod_nonneg _ (by omega)
          have e1 : i % (ns.length : Int) < (ns.length : Int) := Int.emod_lt_of_pos _ g1
          have hk : (i % (ns.length : Int)).toNat < ns.length := by omega
          refine ⟨_, rfl, T, _, 0, _, rfl, rfl, sql hT, rfl, _, rfl, T, _, 1, _, rfl, rfl, sql hT, rfl, _, rfl, T, _, 0, _, rfl, rfl, sql hT, rfl, S, _, rfl, .inl (sql hS), _, _, rfl, rfl, ?_, S, _, _, .int ns[(i % (ns.length : Int)).toNat], rfl, rfl, sql hS, ?_, ?_⟩
          · show (0 : Int) < ((ns.map V.int).length : Int)
            rw [lenE]
            exact g1
          · show atI (ns.map V.int) (i % ((ns.map V.int).length : Int)) = _
            rw [lenE]
            exact at_of (j := (i % (ns.length : Int)).toNat) (by omega) (by rw [List.getElem?_map, List.getElem?_eq_getElem hk]; rfl)
          · exact ⟨_, rfl, rfl⟩
        · exact ⟨_, rfl, rfl⟩
      · rintro σ' H' ⟨c0, rfl, rfl⟩
        refine ⟨fun σ H2 => ∃ c1 : Int, σ = [some (.ref T), some (.int m), some (.int 2305843009213693951), some (.int c1), none] ∧ H2 = H', ?_, ?_⟩
        · refine ⟨_, rfl, T, _, 1, _, rfl, rfl, sql hT, rfl, _, rfl, T, _, 0, _, rfl, rfl, sql hT, rfl, S, _, rfl, .inl (sql hS), _, _, rfl, rfl, _, rfl, ?_⟩
          have near : ∀ x : Int, -(2 ^ 64) < x % 2305843009213693951 ∧ x % 2305843009213693951 < 2 ^ 64 := fun x => by
            have a1 := Int.emod_nonneg x (b := 2305843009213693951) (by decide)
            have a2 := Int.emod_lt_of_pos x (b := 2305843009213693951) (by decide)
            omega
          refine ite2 (fun _ => ?_) (fun _ => ⟨_, rfl, _, _, rfl, rfl, ⟨by decide, by decide, by decide⟩, _, _, rfl, rfl, _, rfl, ite2 (fun _ => ?_) (fun _ => ?_)⟩)
          · refine iteT ⟨_, rfl, _, rfl, T, _, 1, _, rfl, rfl, sql hT, rfl, _, _, rfl, rfl, .inl ⟨by decide, by decide⟩, _, _, rfl, rfl, _, rfl, _, _, rfl, rfl, (by decide : (0 : Int) < 2305843009213693951), ?_⟩
            refine ⟨_, rfl, _, rfl, _, _, rfl, rfl, .inl (near _), _, rfl, _, _, rfl, rfl, .inl ⟨by decide, by decide⟩, _, _, rfl, rfl, _, _, rfl, rfl, _, rfl, _, _, rfl, rfl, (by decide : (0 : Int) < 2305843009213693951), ?_⟩
            refine ⟨_, rfl, _, rfl, _, _, rfl, rfl, .inl (near _), _, _, rfl, rfl, _, rfl, _, _, rfl, rfl, (by decide : (0 : Int) < 2305843009213693951), ?_⟩
            exact ⟨_, rfl, rfl⟩
          · refine ⟨_, rfl, _, rfl, T, _, 1, _, rfl, rfl, sql hT, rfl, _, _, rfl, rfl, .inl ⟨by decide, by decide⟩, _, _, rfl, rfl, _, rfl, _, _, rfl, rfl, (by decide : (0 : Int) < 2305843009213693951), ?_⟩
            refine ⟨_, rfl, _, rfl, _, _, rfl, rfl, .inl (near _), _, rfl, _, _, rfl, rfl, .inl ⟨by decide, by decide⟩, _, _, rfl, rfl, _, _, rfl, rfl, _, rfl, _, _, rfl, rfl, (by decide : (0 : Int) < 2305843009213693951), ?_⟩
            refine ⟨_, rfl, _, rfl, _, _, rfl, rfl, .inl (near _), _, _, rfl, rfl, _, rfl, _, _, rfl, rfl, (by decide : (0 : Int) < 2305843009213693951), ?_⟩
            exact ⟨_, rfl, rfl⟩
          · exact ⟨_, rfl, rfl⟩
        · rintro σ' H2 ⟨c1, rfl, rfl⟩
          refine ⟨_, rfl, T, _, 1, _, rfl, rfl, sql hT, rfl, _, _, rfl, rfl, _, rfl, T, _, 1, 1, rfl, rfl, hT, rfl, ?_⟩
          refine ⟨_, rfl, _, rfl, T, _, 2, 2, rfl, rfl, upd_same, rfl, ?_⟩
          exact ⟨_, _, _, rfl, by rw [upd_upd]; rfl⟩
    · exact ⟨none, i, c, rfl, (upd_self hT).symm⟩
  · rintro σ' H' ⟨y3, i', c', rfl, rfl⟩
    refine ⟨_, rfl, T, _, 2, _, rfl, rfl, sql upd_same, rfl, _, rfl, _, _, rfl, rfl, m0, ?_⟩
    refine ⟨_, rfl, T, _, 2, _, rfl, rfl, sql upd_same, rfl, _, rfl, _, _, rfl, rfl, ⟨by omega, log_of m0 m1⟩, _, rfl, T, _, 2, 2, rfl, rfl, upd_same, rfl, ?_⟩
    refine ⟨_, rfl, ?_⟩
    rw [upd_upd]
    exact q _ _ _ (Int.emod_nonneg _ (by omega)) (Int.emod_lt_of_pos _ m0)
theorem scOrder : FnScope ["tape", "many", "found", "k"] ["tape", "many"] (defScope sOrder) := ⟨rfl, rfl, rfl, by decide +kernel, rfl, by decide +kernel, by decide +kernel⟩
theorem ok_order {f : Addr} {fd : FuncData} (F : Fun K "_law_any_order" "_law_any_order" sOrder f fd) (B : Bi mg) (cD : Has P w K mg base 1 "_law_draw" ["tape", "many"] spDraw) :
    FnOk P w K mg base CX0 2 f fd ["tape", "many"] spOrder := by
  refine F.ok scOrder (fun vs H Q E h => ?_) (fun cdv A outer s H vs Q E hr h => ?_)
  · obtain ⟨T, S, ns, m, rfl, _⟩ := h
    rfl
  obtain ⟨T, S, ns, n, rfl, tp, n1, q⟩ := h
  refine ⟨_, pss_cons (ps_set (i := 2) scOrder.nd rfl (.inl rfl) (pe_lst pa_nil))
    (pss_cons (ps_for PassesOwn.never rfl (pi_range1 (by rfl) B.range (pa_cons (pv 1) pa_nil)) (pg_name (i := 3) scOrder.nd rfl (.inl rfl))
      (pss_one (ps_expr (pe_bm PySem.F.plainAttrs_list PySem.F.slot_list_insert PySem.F.type_list_insert mt_insert (pv 2)
        (pa_cons (pe_go cD hr (Nat.le_refl _) rfl (pa_cons (pv 0) (pa_cons (pe_op op_add (pv 3) pe_int) pa_nil))) (pa_cons (pv 3) pa_nil))))))
    (pss_one (ps_ret (pe_callTy call_tuple_of (by rfl) B.tuple (by decide +kernel) (pa_cons (pv 2) pa_nil))))), ?_⟩
  refine ⟨Nat.zero_le _, fun L hL => ?_⟩
  obtain ⟨oT, hT⟩ := tp.taken
  have nLT : L ≠ T := new_ne hT hL
  refine ⟨_, rfl, (n : Int), rfl, by omega, by omega, for_range (lo := 0) (n := (n : Int).toNat) (fun i σ H' => ∃ (y3 : Option V) (qs : List Nat), σ = [some (.ref T), some (.int n), some (.ref L), y3] ∧ SameT T H H' ∧ Tape H' T S ns ∧ H' L = some (.lst (qs.map natV)) ∧ qs.Perm (List.range i))
    ⟨none, [], rfl, SameT.of (same_new hL _), tp.same (same_new hL _), upd_same, List.Perm.refl _⟩ ?_ ?_⟩
  · rintro i σ H' hi ⟨y3, qs, rfl, sm, tp', hL', pm⟩
    have lq : qs.length = i := by rw [pm.length_eq, List.length_range]
    have hi' : i < n := by omega
    refine ⟨_, rfl, .inl ⟨rfl, _, sql hL'⟩, _, rfl, _, rfl, _, _, rfl, rfl, T, S, ns, _, rfl, tp', by omega, by omega, fun r a c r0 r1 => ?_⟩
    have hL2 : upd H' T (.lst [.ref S, .int a, .int c]) L = some (.lst (qs.map natV)) := by
      rw [upd_ne nLT]
      exact hL'
    refine ⟨_, rfl, L, _, r, _, rfl, rfl, hL2, ?_, r0, by omega, ?_⟩
    · rw [List.length_map, lq]
      exact small1000 (by omega)
    · refine ⟨_, qs.take r.toNat ++ [i] ++ qs.drop r.toNat, rfl, fun b o nb hb => ?_, ?_, ?_, ?_⟩
      · rw [upd_ne (ne_of_none hb hL)]
        exact sameT_put _ b o nb (sm b o nb hb)
      · have t2 := tp'.put a c
        obtain ⟨x1, x2, t3⟩ := t2.at_
        refine ⟨⟨x1, x2, by rw [upd_ne nLT.symm]; exact t3⟩, ?_⟩
        rw [upd_ne (ne_of_none tp.scr hL)]
        exact t2.scr
      · rw [upd_same, List.map_append, List.map_append, List.map_take, List.map_drop, List.map_singleton]
        rw [show natV i = V.int (0 + (i : Int)) by rw [Int.zero_add]]
      · rw [List.range_succ]
        have e : (qs.take r.toNat ++ [i] ++ qs.drop r.toNat).Perm (qs.take r.toNat ++ qs.drop r.toNat ++ [i]) := by
          rw [List.append_assoc, List.append_assoc]
          exact List.Perm.append_left _ List.perm_append_comm
        rw [List.take_append_drop] at e
        exact e.trans (pm.append_right _)
  · rintro σ H' ⟨y3, qs, rfl, sm, tp', hL', pm⟩
    refine ⟨_, rfl, L, _, rfl, .inl ⟨sql hL', fun p hp => ?_⟩⟩
    have np : H p = none := by
      refine sm.free ?_ hp
      obtain ⟨o2, h2⟩ := tp'.taken
      exact new_ne h2 hp
    rw [Int.toNat_natCast] at pm
    exact q p _ qs (sm.trans (SameT.of (same_new hp _))) (tp'.same (same_new hp _)) np upd_same pm
theorem scBooks : FnScope [] [] (defScope sBooks) := ⟨rfl, rfl, rfl, by decide +kernel, rfl, by decide +kernel, by decide +kernel⟩
theorem ok_books {f : Addr} {fd : FuncData} (F : Fun K "_law_books" "_law_books" sBooks f fd) : FnOk P w K mg base CX0 1 f fd [] spBooks := by
  refine F.ok scBooks (fun vs H Q E h => ?_) (fun cdv A outer s H vs Q E hr h => ?_)
  · obtain ⟨rfl, _⟩ := h
    rfl
  obtain ⟨rfl, q⟩ := h
  refine ⟨_, pss_one (ps_ret (pe_lst (pa_cons pe_str (pa_cons pe_str (pa_cons pe_str (pa_cons pe_str (pa_cons pe_str (pa_cons pe_str (pa_cons pe_str pa_nil))))))))), ?_⟩
  exact ⟨(by show 7 ≤ sizeLine; decide), fun p hp => q p hp⟩
theorem scPile : FnScope ["tape", "size", "some", "at"] ["tape", "size"] (defScope sPile) := ⟨rfl, rfl, rfl, by decide +kernel, rfl, by decide +kernel, by decide +kernel⟩
theorem ok_pile {f : Addr} {fd : FuncData} (F : Fun K "_law_pile" "_law_pile" sPile f fd) (B : Bi mg) (cD : Has P w K mg base 1 "_law_draw" ["tape", "many"] spDraw)
    (cO : Has P w K mg base 2 "_law_any_order" ["tape", "many"] spOrder) (cB : Has P w K mg base 1 "_law_books" [] spBooks) :
    FnOk P w K mg base CX0 3 f fd ["tape", "size"] spPile := by
  refine F.ok scPile (fun vs H Q E h => ?_) (fun cdv A outer s H vs Q E hr h => ?_)
  · obtain ⟨T, S, ns, m, rfl, _⟩ := h
    rfl
  obtain ⟨T, S, ns, m, rfl, tp, m0, m7, q⟩ := h
  refine ⟨_, pss_cons (ps_set (i := 2) scPile.nd rfl (.inr rfl) (pe_slice sl_list (pe_go0 cB hr (by decide) rfl) po_none (po_some (pe_op op_add pe_int (pe_go cD hr (by decide) rfl (pa_cons (pv 0) (pa_cons (pv 1) pa_nil)))))))
    (pss_one (ps_ret (pe_callTy call_tupleZ (by rfl) B.tuple (by decide +kernel) (pa_cons
      (pe_lc (own := [("at", 3)]) (g := gName 3) (tt := tYes) (by rfl) scPile.nd (pi_tup (pe_go cO hr (by decide) rfl (pa_cons (pv 0) (pa_cons (pe_callB call_len_seq (by rfl) B.len PySem.boot_len (pa_cons (pv 2) pa_nil)) pa_nil))))
        (blkOk_by (own := [("at", 3)]) (N := ["tape", "size", "some", "at"]) (sc := defScope sPile) (by decide +kernel))
        (fun _ _ _ _ _ => pg_name (i := 3) scPile.nd rfl (Or.inl rfl)) (fun _ _ _ _ _ => pts_nil) (fun _ _ _ _ _ => pe_ix (ixL (K := K) rfl) (pv 2) (pv 3) (fun _ _ => rfl))) pa_nil)))), ?_⟩
  refine ⟨rfl, fun b hb => ?_⟩
  have tp1 := tp.same (same_new hb (.lst (books.map V.str)))
  refine ⟨_, rfl, _, rfl, T, S, ns, m, rfl, tp1, m0, by omega, fun r a c r0 r1 => ?_⟩
  have nbT : b ≠ T := by
    obtain ⟨o, ho⟩ := tp.taken
    exact new_ne ho hb
  refine ⟨_, _, rfl, rfl, _, rfl, b, _, rfl, sql (by rw [upd_ne nbT]; exact upd_same), fun y hy => ?_⟩
  have tp2 := tp1.put a c
  have tp3 := tp2.same (same_new hy (.lst (cutV (books.map V.str) none (some (1 + r)))))
  have er : (1 + r : Int) = (((r.toNat + 1 : Nat)) : Int) := by omega
  have hn7 : r.toNat + 1 ≤ 7 := by omega
  have ecut : cutV (books.map V.str) none (some (1 + r)) = (books.take (r.toNat + 1)).map V.str := by
    rw [er, cut_to (by show _ ≤ 7; omega), List.map_take]
  have elen : (books.take (r.toNat + 1)).length = r.toNat + 1 := by
    rw [List.length_take]
    show min (r.toNat + 1) 7 = _
    omega
  rw [ecut] at tp3 ⊢
  generalize hbs : books.take (r.toNat + 1) = bs0 at tp3 elen ⊢
  generalize hH3 : upd (upd (upd H b (.lst (books.map V.str))) T (.lst [.ref S, .int a, .int c])) y (.lst (bs0.map V.str)) = H3 at tp3 ⊢
  have sm3 : SameT T H H3 := by
    rw [← hH3]
    exact (SameT.of (same_new hb _)).trans ((sameT_put _).trans (SameT.of (same_new hy _)))
  have hy3 : H3 y = some (.lst (bs0.map V.str)) := by
    rw [← hH3]
    exact upd_same
  have nyT : y ≠ T := new_ne upd_same hy
  refine ⟨_, rfl, _, rfl, y, _, rfl, .inl (sql hy3), T, S, ns, (bs0.map V.str).length, rfl, tp3, by rw [List.length_map, elen]; omega, fun t H4 qs sm4 tp4 nt ht pm => ?_⟩
  rw [List.length_map, elen] at pm
  have lq : qs.length = r.toNat + 1 := by rw [pm.length_eq, List.length_range]
  have hy4 : H4 y = some (.lst (bs0.map V.str)) := sm4 _ _ nyT hy3
  refine ⟨t, rfl, ⟨_, sqt ht⟩, fun D hD => lc_tup (K := K) (a := t) (xs := qs.map natV) (fun i H' => SameT D H4 H' ∧ H' D = some (.lst (((pick bs0 qs).take i).map V.str)))
    ⟨SameT.of (same_new hD _), upd_same⟩ (fun i H' _ h' => sqt (h'.1 _ _ (ne_of_none ht hD) ht)) ?_ ?_⟩
  · rintro i x H' hx ⟨smD, hD'⟩
    rw [List.getElem?_map] at hx
    cases e : qs[i]? with
    | none =>
      rw [e] at hx
      cases hx
    | some k =>
      rw [e] at hx
      cases hx
      have hk : k < bs0.length := by
        rw [elen]
        exact List.mem_range.mp (pm.mem_iff.mp (List.mem_of_getElem? e))
      refine ⟨rfl, _, rfl, _, rfl, y, _, _, .str bs0[k], rfl, rfl, sql (smD _ _ (ne_of_none hy4 hD) hy4), at_of rfl (by rw [List.getElem?_map, List.getElem?_eq_getElem hk]; rfl), _, hD', ?_, ?_⟩
      · have lp : (pick bs0 qs).length = qs.length := by
          unfold pick
          rw [List.length_map]
        rw [List.length_map, List.length_take]
        exact small1000 (by omega)
      · refine ⟨fun b' o nb h => by rw [upd_ne nb]; exact smD b' o nb h, ?_⟩
        have ep : (pick bs0 qs)[i]? = some bs0[k] := by
          unfold pick
          rw [List.getElem?_map, e]
          show some ((bs0[k]?).getD Str.empty) = _
          rw [List.getElem?_eq_getElem hk]
          rfl
        rw [upd_same, List.take_add_one, ep, List.map_append]
        rfl
  · rintro H' ⟨smD, hD'⟩
    rw [List.length_map, List.take_of_length_le (by unfold pick; rw [List.length_map]; omega)] at hD'
    refine ⟨D, _, rfl, sql hD', fun p u hp hu => ?_⟩
    have s5 : Same H4 H' := fun b' o h => smD b' o (ne_of_none h hD) h
    have tp5 := tp4.same (s5.trans (same_new hp u))
    have sm5 : SameT T H (upd H' p u) := sm3.trans (sm4.trans (SameT.of (s5.trans (same_new hp _))))
    have np : H p = none := by
      refine (sm3.trans (sm4.trans (SameT.of s5))).free ?_ hp
      obtain ⟨o2, h2⟩ := (tp4.same s5).taken
      exact new_ne h2 hp
    refine q p _ (pick bs0 qs) sm5 tp5 np (TpO.new hu) ?_ ?_
    · rw [← hbs]
      exact pile_of (by omega) hn7 pm
    · unfold pick
      rw [List.length_map, lq]
      omega
theorem scReadings : FnScope ["tape", "books", "size", "some", "k"] ["tape", "books", "size"] (defScope sReadings) := ⟨rfl, rfl, rfl, by decide +kernel, rfl, by decide +kernel, by decide +kernel⟩
theorem ok_readings {f : Addr} {fd : FuncData} (F : Fun K "_law_readings" "_law_readings" sReadings f fd) (B : Bi mg) (cD : Has P w K mg base 1 "_law_draw" ["tape", "many"] spDraw) :
    FnOk P w K mg base CX0 2 f fd ["tape", "books", "size"] spReadings := by
  refine F.ok scReadings (fun vs H Q E h => ?_) (fun cdv A outer s H vs Q E hr h => ?_)
  · obtain ⟨T, S, p, ns, bs, m, rfl, _⟩ := h
    rfl
  obtain ⟨T, S, p, ns, bs, m, rfl, tp, hp, b0, b7, m0, m60, q⟩ := h
  refine ⟨_, pss_cons (ps_set (i := 3) scReadings.nd rfl (.inr rfl) (pe_slice sl_list (pe_callTy call_list_of (by rfl) B.list (by decide +kernel) (pa_cons (pv 1) pa_nil)) po_none
      (po_some (pe_op op_add pe_int (pe_go cD hr (by decide) rfl (pa_cons (pv 0) (pa_cons (pe_callB call_len_seq (by rfl) B.len PySem.boot_len (pa_cons (pv 1) pa_nil)) pa_nil)))))))
    (pss_one (ps_ret (pe_lc (own := [("k", 4)]) (g := gName 4) (tt := tYes) (by rfl) scReadings.nd (pi_range1 (by rfl) B.range (pa_cons (pe_go cD hr (by decide) rfl (pa_cons (pv 0) (pa_cons (pe_op op_add (pv 2) pe_int) pa_nil))) pa_nil))
        (blkOk_by (own := [("k", 4)]) (N := ["tape", "books", "size", "some", "k"]) (sc := defScope sReadings) (by decide +kernel))
        (fun _ _ _ _ _ => pg_name (i := 4) scReadings.nd rfl (Or.inl rfl)) (fun _ _ _ _ _ => pts_nil)
        (fun _ _ _ _ _ => pe_ix (ixL (K := K) rfl) (pv 3) (pe_go cD hr (by decide) rfl (pa_cons (pv 0) (pa_cons (pe_callB (cLen (K := K) rfl) (by rfl) B.len PySem.boot_len (pa_cons (pv 3) pa_nil)) pa_nil))) (fun _ _ => rfl))))), ?_⟩
  have npT : p ≠ T := by
    obtain ⟨i, c, hT⟩ := tp.at_
    exact hp.ne hT (fun o z => nomatch z)
  refine ⟨_, rfl, p, _, rfl, .inr hp.sqt, fun L hL => ?_⟩
  have s1 : Same H (upd H L (.lst (bs.map V.str))) := same_new hL _
  have tp1 := tp.same s1
  have nLT : L ≠ T := by
    obtain ⟨o, ho⟩ := tp.taken
    exact new_ne ho hL
  refine ⟨_, rfl, _, rfl, p, _, rfl, .inr (hp.same s1).sqt, T, S, ns, _, rfl, tp1, by rw [List.length_map]; omega, by rw [List.length_map]; omega, fun r a c r0 r1 => ?_⟩
  rw [List.length_map] at r1
  refine ⟨_, _, rfl, rfl, _, rfl, L, _, rfl, sql (by rw [upd_ne nLT]; exact upd_same), fun y hy => ?_⟩
  have er : (1 + r : Int) = (((r.toNat + 1 : Nat)) : Int) := by omega
  have ecut : cutV (bs.map V.str) none (some (1 + r)) = (bs.take (r.toNat + 1)).map V.str := by
    rw [er, cut_to (by rw [List.length_map]; omega), List.map_take]
  have elen : (bs.take (r.toNat + 1)).length = r.toNat + 1 := by
    rw [List.length_take]
    omega
  have tp3 := (tp1.put a c).same (same_new hy (.lst (cutV (bs.map V.str) none (some (1 + r)))))
  rw [ecut] at tp3 ⊢
  have sub : ∀ b ∈ bs.take (r.toNat + 1), b ∈ bs := fun b hb => List.mem_of_mem_take hb
  generalize bs.take (r.toNat + 1) = bs0 at tp3 elen sub ⊢
  generalize hH3 : upd (upd (upd H L (.lst (bs.map V.str))) T (.lst [.ref S, .int a, .int c])) y (.lst (bs0.map V.str)) = H3 at tp3 ⊢
  have sm3 : SameT T H H3 := by
    rw [← hH3]
    exact (SameT.of s1).trans ((sameT_put _).trans (SameT.of (same_new hy _)))
  have hy3 : H3 y = some (.lst (bs0.map V.str)) := by
    rw [← hH3]
    exact upd_same
  have nyT : y ≠ T := new_ne upd_same hy
  refine ⟨_, rfl, _, rfl, _, _, rfl, rfl, T, S, ns, _, rfl, tp3, by omega, by omega, fun r2 a2 c2 u0 u1 => ?_⟩
  have tp4 := tp3.put a2 c2
  have sm4 : SameT T H3 (upd H3 T (.lst [.ref S, .int a2, .int c2])) := sameT_put _
  generalize upd H3 T (.lst [.ref S, .int a2, .int c2]) = H4 at tp4 sm4 ⊢
  have hy4 : H4 y = some (.lst (bs0.map V.str)) := sm4 _ _ nyT hy3
  refine ⟨r2, rfl, by omega, by omega, fun D hD => ?_⟩
  have nDT : D ≠ T := by
    obtain ⟨o, ho⟩ := tp4.taken
    exact new_ne ho hD
  refine lc_range (lo := 0) (n := r2.toNat) (fun i H' => ∃ rs : List Str, SameT T H4 H' ∧ Tape H' T S ns ∧ H' D = some (.lst (rs.map V.str)) ∧ rs.length = i ∧ ∀ b ∈ rs, b ∈ bs)
    ⟨[], SameT.of (same_new hD _), tp4.same (same_new hD _), upd_same, rfl, fun b hb => nomatch hb⟩ ?_ ?_
  · rintro i H' hi ⟨rs, sm, tp', hD', lr, hm⟩
    have hy' := sm _ _ nyT hy4
    refine ⟨rfl, _, rfl, _, rfl, _, rfl, y, _, rfl, .inl (sql hy'), T, S, ns, _, rfl, tp', by rw [List.length_map, elen]; omega, by rw [List.length_map, elen]; omega, fun r3 a3 c3 v0 v1 => ?_⟩
    rw [List.length_map] at v1
    have hk : r3.toNat < bs0.length := by omega
    refine ⟨y, _, _, .str bs0[r3.toNat], rfl, rfl, sql (by rw [upd_ne nyT]; exact hy'), at_of (j := r3.toNat) (by omega) (by rw [List.getElem?_map, List.getElem?_eq_getElem hk]; rfl), _, (by rw [upd_ne nDT]; exact hD'), ?_, ?_⟩
    · rw [List.length_map]
      exact small1000 (by omega)
    · have tp6 := tp'.put a3 c3
      refine ⟨rs ++ [bs0[r3.toNat]], fun b o nb hb => ?_, ?_, ?_, ?_, ?_⟩
      · rw [upd_ne (ne_of_none hb hD)]
        exact sameT_put _ b o nb (sm b o nb hb)
      · obtain ⟨x1, x2, t3⟩ := tp6.at_
        refine ⟨⟨x1, x2, by rw [upd_ne nDT.symm]; exact t3⟩, ?_⟩
        rw [upd_ne (ne_of_none tp4.scr hD)]
        exact tp6.scr
      · rw [upd_same, List.map_append]
        rfl
      · rw [List.length_append, lr]
        rfl
      · intro b hb
        rcases List.mem_append.mp hb with hb | hb
        · exact hm b hb
        · rw [List.mem_singleton.mp hb]
          exact sub _ (List.getElem_mem hk)
  · rintro H' ⟨rs, sm, tp', hD', lr, hm⟩
    have np : H D = none := (sm3.trans sm4).free nDT hD
    exact q D H' rs (sm3.trans (sm4.trans sm)) tp' np hD' (by omega) hm
abbrev nRead : List Str := ["pile", "readings", "left", "numbers", "rows", "book", "above", "other"]
theorem scRead : FnScope nRead ["pile", "readings"] (defScope sRead) := ⟨rfl, rfl, rfl, by decide +kernel, rfl, by decide +kernel, by decide +kernel⟩
theorem ok_read {f : Addr} {fd : FuncData} (F : Fun K "_law_read" "_law_read" sRead f fd) (B : Bi mg) : FnOk P w K mg base CX0 1 f fd ["pile", "readings"] spRead := by
  refine F.ok scRead (fun vs H Q E h => ?_) (fun cdv A outer s H vs Q E hr h => ?_)
  · obtain ⟨p, r, bs, rs, rfl, _⟩ := h
    rfl
  obtain ⟨p, r, bs, rs, rfl, hp, hrr, hl, hl2, hm, q⟩ := h
  refine ⟨_, pss_cons (ps_par3 (i := 2) (j := 3) (l := 4) (by rfl) scRead.nd rfl rfl rfl (by decide) (by decide) (by decide) rfl rfl rfl
      (pa_cons (pe_callTy call_list_of (by rfl) B.list (by decide +kernel) (pa_cons (pv 0) pa_nil)) (pa_cons (pe_lst pa_nil) (pa_cons (pe_lst pa_nil) pa_nil))) (by rfl))
    (pss_cons (ps_for PassesOwn.never rfl (pi_list (pv 1)) (pg_name (i := 5) scRead.nd rfl (.inr rfl))
      (pss_cons (ps_set (i := 6) scRead.nd rfl (.inl rfl) (pe_slice sl_list (pv 2) po_none (po_some (pe_bm PySem.F.plainAttrs_list PySem.F.slot_list_index PySem.F.type_list_index mt_index (pv 2) (pa_cons (pv 5) pa_nil)))))
      (pss_cons (ps_expr (pe_bm PySem.F.plainAttrs_list PySem.F.slot_list_append PySem.F.type_list_append mt_append (pv 3) (pa_cons (pe_callB call_len_seq (by rfl) B.len PySem.boot_len (pa_cons (pv 6) pa_nil)) pa_nil)))
      (pss_cons (ps_set (i := 4) scRead.nd rfl (.inl rfl) (pe_op op_cat (pv 4) (pe_lc (own := [("other", 7)]) (g := gName 7) (tt := tYes) (by rfl) scRead.nd (pi_list (pv 6))
          (blkOk_by (own := [("other", 7)]) (N := nRead) (sc := defScope sRead) (by decide +kernel)) (fun _ _ _ _ _ => pg_name (i := 7) scRead.nd rfl (.inl rfl)) (fun _ _ _ _ _ => pts_nil)
          (fun _ _ _ _ _ => pe_tup (pa_cons (pv 5) (pa_cons (pv 7) pa_nil))))))
      (pss_cons (ps_expr (pe_bm PySem.F.plainAttrs_list PySem.F.slot_list_remove PySem.F.type_list_remove (mt_removeS (hu_of hr)) (pv 2) (pa_cons (pv 5) pa_nil)))
      (pss_one (ps_expr (pe_bm PySem.F.plainAttrs_list PySem.F.slot_list_insert PySem.F.type_list_insert mt_insert (pv 2) (pa_cons pe_int (pa_cons (pv 5) pa_nil))))))))))
    (pss_one (ps_ret (pe_tup (pa_cons (pe_callTy call_tuple_of (by rfl) B.tuple (by decide +kernel) (pa_cons (pv 2) pa_nil)) (pa_cons (pv 3) (pa_cons (pv 4) pa_nil))))))), ?_⟩
  refine ⟨_, rfl, p, _, rfl, .inr hp.sqt, fun L hL => ⟨Nat.zero_le _, fun N hN => ⟨Nat.zero_le _, fun R hR => ⟨_, _, _, rfl, ?_⟩⟩⟩⟩
  have s1 := same_new hL (.lst (bs.map V.str))
  have s2 := same_new hN (.lst [])
  have s3 := same_new hR (.lst [])
  have sm0 : Same H (upd (upd (upd H L (.lst (bs.map V.str))) N (.lst [])) R (.lst [])) := s1.trans (s2.trans s3)
  have nLN : L ≠ N := ne_of_none upd_same hN
  have nLR : L ≠ R := ne_of_none (s2 _ _ upd_same) hR
  have nNR : N ≠ R := ne_of_none upd_same hR
  have nN0 : H N = none := s1.free hN
  have hL3 : upd (upd (upd H L (.lst (bs.map V.str))) N (.lst [])) R (.lst []) L = some (.lst (bs.map V.str)) := s3 _ _ (s2 _ _ upd_same)
  have hN3 : upd (upd (upd H L (.lst (bs.map V.str))) N (.lst [])) R (.lst []) N = some (.lst []) := s3 _ _ upd_same
  have hR3 : upd (upd (upd H L (.lst (bs.map V.str))) N (.lst [])) R (.lst []) R = some (.lst []) := upd_same
  generalize upd (upd (upd H L (.lst (bs.map V.str))) N (.lst [])) R (.lst []) = H3 at sm0 hL3 hN3 hR3 ⊢
  refine ⟨_, rfl, r, rfl, ⟨_, sm0.seq (sql hrr)⟩, for_list (K := K) (a := r) (xs := rs.map V.str)
    (fun i σ H' => ∃ (R : Addr) (y5 y6 : Option V) (ts : List Addr), σ = [some (.ref p), some (.ref r), some (.ref L), some (.ref N), some (.ref R), y5, y6, none] ∧ Same H H' ∧ L ≠ R ∧ N ≠ R ∧
      H' L = some (.lst ((behindM bs (rs.take i)).map V.str)) ∧ H' N = some (.lst ((liftedM bs (rs.take i)).map natV)) ∧ H' R = some (.lst (ts.map V.ref)) ∧ PairsL H' ts (rowsM bs (rs.take i)))
    ⟨R, none, none, [], rfl, sm0, nLR, nNR, hL3, hN3, hR3, PairsL.nil _⟩ (fun i σ H' _ ⟨_, _, _, _, _, sm, _⟩ => sm.seq (sql hrr)) ?_ ?_⟩
  · rintro i x σ H' hx ⟨R, y5, y6, ts, rfl, sm, nLR, nNR, hL', hN', hR', pl⟩
    obtain ⟨b, hb, rfl⟩ := strs_get hx
    have hi : i < rs.length := (List.getElem?_eq_some_iff.mp hb).1
    have pmi := behindM_perm (rs.take i) (take_sub hm i)
    have hbm := pmi.mem_iff.mpr (hm b (List.mem_of_getElem? hb))
    have rl : (rowsM bs (rs.take i)).length ≤ 420 := by
      have z := rowsM_len (rs.take i) (take_sub hm i)
      have z2 : (rs.take i).length * bs.length ≤ 60 * 7 := Nat.mul_le_mul (by rw [List.length_take]; omega) hl
      omega
    have e1 : lay (behindM bs (rs.take i)) b = behindM bs (rs.take (i + 1)) := by rw [take_step hb, behindM_snoc]
    have e2 : liftedM bs (rs.take i) ++ [(behindM bs (rs.take i)).idxOf b] = liftedM bs (rs.take (i + 1)) := by rw [take_step hb, liftedM_snoc]
    have e3 : rowsM bs (rs.take i) ++ (over (behindM bs (rs.take i)) b).map (fun o => (b, o)) = rowsM bs (rs.take (i + 1)) := by rw [take_step hb, rowsM_snoc]
    rw [← e1, ← e2, ← e3]
    have lnum : (liftedM bs (rs.take i)).length ≤ 60 := by rw [liftedM_len, List.length_take]; omega
    generalize behindM bs (rs.take i) = cur at hL' pmi hbm ⊢
    generalize rowsM bs (rs.take i) = rows at pl rl ⊢
    generalize liftedM bs (rs.take i) = nums at hN' lnum ⊢
    have lc : cur.length ≤ 7 := by rw [pmi.length_eq]; exact hl
    have ib := idx_lt hbm
    have lm : (cur.map V.str).length = cur.length := List.length_map _
    -- above
    refine ⟨_, rfl, _, rfl, .inl ⟨rfl, _, sql hL'⟩, _, rfl, L, _, _, cur.idxOf b, .str b, rfl, rfl, sql hL', rfl, flat_map _, by rw [List.getElem?_map, idx_get hbm]; rfl, by show (b == b) = true; exact beq_self_eq_true b, fun m z hm' hz => ?_, _, rfl, L, _, rfl, sql hL', fun A' hA => ?_⟩
    · obtain ⟨c, hc, rfl⟩ := strs_get hz
      show (c == b) = false
      exact beq_eq_false_iff_ne.mpr fun e => idx_first m hm' (by rw [hc, e])
    rw [cut_to (by rw [lm]; omega), ← List.map_take]
    have sA := same_new hA (.lst ((cur.take (cur.idxOf b)).map V.str))
    have hA' : upd H' A' (.lst ((cur.take (cur.idxOf b)).map V.str)) A' = some (.lst ((over cur b).map V.str)) := upd_same
    have hLA := sA _ _ hL'
    have hNA := sA _ _ hN'
    have hRA := sA _ _ hR'
    have plA := pl.move (KeepT.of sA)
    have smA := sm.trans sA
    have nAN : A' ≠ N := (ne_of_none hN' hA).symm
    have nAL : A' ≠ L := (ne_of_none hL' hA).symm
    have nAR : A' ≠ R := (ne_of_none hR' hA).symm
    generalize upd H' A' (.lst ((cur.take (cur.idxOf b)).map V.str)) = HA at hA' hLA hNA hRA plA smA ⊢
    have ol : (over cur b).length = cur.idxOf b := by
      unfold over
      rw [List.length_take]
      omega
    -- numbers
    refine ⟨_, rfl, .inl ⟨rfl, _, sql hNA⟩, _, rfl, A', _, rfl, .inl (sql hA'), N, _, _, rfl, rfl, hNA, by rw [List.length_map]; exact small1000 (by omega), ?_⟩
    have en : nums.map natV ++ [V.int (((over cur b).map V.str).length : Int)] = (nums ++ [cur.idxOf b]).map natV := by rw [List.map_append, List.length_map, ol]; rfl
    rw [en]
    have smN : Same H (upd HA N (.lst ((nums ++ [cur.idxOf b]).map natV))) := same_put smA nN0
    have plN := plA.move (KeepT.put (D := N) (o := .lst ((nums ++ [cur.idxOf b]).map natV)) hNA (fun xs z => nomatch z))
    have hAN : upd HA N (.lst ((nums ++ [cur.idxOf b]).map natV)) A' = some (.lst ((over cur b).map V.str)) := by rw [upd_ne nAN]; exact hA'
    have hLN : upd HA N (.lst ((nums ++ [cur.idxOf b]).map natV)) L = some (.lst (cur.map V.str)) := by rw [upd_ne nLN]; exact hLA
    have hRN : upd HA N (.lst ((nums ++ [cur.idxOf b]).map natV)) R = some (.lst (ts.map V.ref)) := by rw [upd_ne nNR.symm]; exact hRA
    have hNN : upd HA N (.lst ((nums ++ [cur.idxOf b]).map natV)) N = some (.lst ((nums ++ [cur.idxOf b]).map natV)) := upd_same
    generalize upd HA N (.lst ((nums ++ [cur.idxOf b]).map natV)) = HN at smN plN hAN hLN hRN hNN ⊢
    -- rows
    refine ⟨_, rfl, _, rfl, A', rfl, ⟨_, sql hAN⟩, fun D hD => lc_list (K := K) (a := A') (xs := (over cur b).map V.str)
      (fun j H2 => ∃ us : List Addr, Same HN H2 ∧ H2 D = some (.lst (us.map V.ref)) ∧ PairsL H2 us (((over cur b).take j).map fun o => (b, o)))
      ⟨[], same_new hD _, upd_same, PairsL.nil _⟩ (fun j H2 _ ⟨_, s2, _⟩ => s2.seq (sql hAN)) ?_ ?_⟩
    · rintro j x H2 hx2 ⟨us, s2, hD2, pl2⟩
      obtain ⟨o, ho, rfl⟩ := strs_get hx2
      refine ⟨rfl, _, rfl, _, rfl, (by show 2 ≤ sizeLine; decide), fun t ht => ?_⟩
      have s5 := same_new ht (.tup [.str b, .str o])
      refine ⟨_, s5 _ _ hD2, ?_, us ++ [t], same_put (s2.trans s5) hD, by rw [upd_same, List.map_append]; rfl, ?_⟩
      · have z := pl2.1
        rw [List.length_map, List.length_take] at z
        rw [List.length_map]
        exact small1000 (by omega)
      · rw [List.take_add_one, ho, List.map_append]
        exact ((pl2.move (KeepT.of s5)).snoc (t := t) (q := (b, o)) upd_same).move (KeepT.put (s5 _ _ hD2) (fun xs z => nomatch z))
    · rintro H2 ⟨us, s2, hD2, pl2⟩
      rw [List.length_map, List.take_length] at pl2
      have lus : us.length ≤ 7 := by rw [pl2.1, List.length_map]; omega
      have lts : ts.length ≤ 420 := by rw [plN.1]; exact rl
      refine ⟨R, D, _, _, rfl, rfl, s2 _ _ hRN, hD2, by rw [List.length_map, List.length_map]; exact Nat.le_of_lt (small1000 (by omega)), fun R2 hR2 => ?_⟩
      have s6 := same_new hR2 (.lst (ts.map V.ref ++ us.map V.ref))
      have hR6 : upd H2 R2 (.lst (ts.map V.ref ++ us.map V.ref)) R2 = some (.lst ((ts ++ us).map V.ref)) := by rw [upd_same, List.map_append]
      have sm6 : Same H (upd H2 R2 (.lst (ts.map V.ref ++ us.map V.ref))) := smN.trans (s2.trans s6)
      have hL6 := s6 _ _ (s2 _ _ hLN)
      have hN6 := s6 _ _ (s2 _ _ hNN)
      have nLR2 : L ≠ R2 := ne_of_none (s2 _ _ hLN) hR2
      have nNR2 : N ≠ R2 := ne_of_none (s2 _ _ hNN) hR2
      have pl6 : PairsL (upd H2 R2 (.lst (ts.map V.ref ++ us.map V.ref))) (ts ++ us) (rows ++ (over cur b).map fun o => (b, o)) := by
        have a1 := (plN.move (KeepT.of s2)).move (KeepT.of s6)
        have a2 := pl2.move (KeepT.of s6)
        refine ⟨by rw [List.length_append, List.length_append, a1.1, a2.1], fun k t z h1 h2 => ?_⟩
        by_cases hk : k < ts.length
        · rw [List.getElem?_append_left hk] at h1
          rw [List.getElem?_append_left (by rw [← a1.1]; exact hk)] at h2
          exact a1.2 k t z h1 h2
        · rw [List.getElem?_append_right (by omega)] at h1
          rw [List.getElem?_append_right (by rw [← a1.1]; omega), ← a1.1] at h2
          exact a2.2 _ t z h1 h2
      generalize upd H2 R2 (.lst (ts.map V.ref ++ us.map V.ref)) = H6 at hR6 sm6 hL6 hN6 pl6 ⊢
      -- remove, insert
      refine ⟨_, rfl, .inl ⟨rfl, _, sql hL6⟩, _, rfl, L, cur, b, cur.idxOf b, rfl, rfl, hL6, idx_get hbm, idx_first, ?_⟩
      refine ⟨_, rfl, .inl ⟨rfl, _, sql upd_same⟩, _, rfl, L, _, 0, _, rfl, rfl, upd_same, ?_, by decide, by decide, ?_⟩
      · rw [List.length_map]
        have z := List.length_eraseIdx_le cur (cur.idxOf b)
        exact small1000 (by omega)
      · rw [upd_upd]
        have el : ((cur.eraseIdx (cur.idxOf b)).map V.str).take (0 : Int).toNat ++ [V.str b] ++ ((cur.eraseIdx (cur.idxOf b)).map V.str).drop (0 : Int).toNat = (lay cur b).map V.str := rfl
        rw [el]
        refine ⟨R2, _, _, ts ++ us, rfl, same_put sm6 hL, nLR2, nNR2, upd_same, ?_, ?_, ?_⟩
        · rw [upd_ne nLN.symm]
          exact hN6
        · rw [upd_ne nLR2.symm]
          exact hR6
        · exact pl6.move (KeepT.put hL6 (fun xs z => nomatch z))
  · rintro σ H' ⟨R, y5, y6, ts, rfl, sm, nLR, nNR, hL', hN', hR', pl⟩
    rw [List.length_map, List.take_length] at hL' hN' pl
    refine ⟨_, rfl, L, _, rfl, .inl ⟨sql hL', fun a ha => ?_⟩⟩
    have s4 := same_new ha (.tup ((behindM bs rs).map V.str))
    refine ⟨_, rfl, _, rfl, (by show 3 ≤ sizeLine; decide), fun t ht => ?_⟩
    have s5 := same_new ht (.tup [.ref a, .ref N, .ref R])
    exact q t a N R _ ts (sm.trans (s4.trans s5)) upd_same (s5 _ _ upd_same) (s5 _ _ (s4 _ _ hN')) (s5 _ _ (s4 _ _ hR')) ((pl.move (KeepT.of s4)).move (KeepT.of s5))
end
end Lt

set_option Elab.async false
set_option linter.all false
set_option maxRecDepth 100000
set_option maxHeartbeats 4000000
namespace Lt
open PySem PySem.Spec PyProof.Rows L2
theorem gre_le (os l : List Str) : gre os l ≤ l.length := by
  have z := (gre_sub os l).2.length_le
  have z1 := (gre_sub os l).1
  rw [List.length_take] at z
  omega
theorem rev_get {l : List Str} {i : Nat} (h : i < l.length) : l.reverse[i]? = l[l.length - 1 - i]? := List.getElem?_reverse h
section
variable {P : Program} {w : World} {K : PySem.W.Frag} {mg : Str → Option Value} {base : Heap}
def spFew (K : PySem.W.Frag) : Sp := fun vs H Q _ => ∃ (p o : Addr) (bs os : List Str), vs = [.ref p, .ref o] ∧ SqT K H p (bs.map V.str) ∧ SqT K H o (os.map V.str) ∧ os.length = bs.length ∧
  ∀ (l : Addr) (H' : Hp), Same H H' → H l = none → H' l = some (.lst ((few bs os).map V.str)) → Q (.ref l) H'
theorem scFew : FnScope ["pile", "other", "many", "book"] ["pile", "other"] (defScope sFew) := ⟨rfl, rfl, rfl, by decide +kernel, rfl, by decide +kernel, by decide +kernel⟩
theorem ok_few {f : Addr} {fd : FuncData} (F : Fun K "fewest_to" "fewest_to" sFew f fd) (B : Bi mg) : FnOk P w K mg base CX0 1 f fd ["pile", "other"] (spFew K) := by
  refine F.ok scFew (fun vs H Q E h => ?_) (fun cdv A outer s H vs Q E hr h => ?_)
  · obtain ⟨p, o, bs, os, rfl, _⟩ := h
    rfl
  obtain ⟨p, o, bs, os, rfl, hp, ho, hl, q⟩ := h
  refine ⟨_, pss_cons (ps_set (i := 2) scFew.nd rfl (.inl rfl) (pe_callB call_len_seq (by rfl) B.len PySem.boot_len (pa_cons (pv 1) pa_nil)))
    (pss_cons (ps_for PassesOwn.never rfl (RT.pi_revA (by rfl) B.reversed (pv 0)) (pg_name (i := 3) scFew.nd rfl (.inl rfl))
      (pss_one (ps_if (pt_cmpR op_eq (pv 3) (pe_ix ix_tup (pv 1) (pe_op op_sub (pv 2) pe_int) (fun _ _ => rfl)) (nomark _))
        (pss_one (ps_aug (i := 2) scFew.nd rfl (.inl rfl) pe_int ip_sub)) pss_nil)))
    (pss_one (ps_ret (pe_listRev rfl (by rfl) B.list (by rfl) B.reversed (pe_slice sl_tupA (pv 1) po_none (po_some (pv 2))))))), ?_⟩
  have lm : (bs.map V.str).length = bs.length := List.length_map _
  have lo : (os.map V.str).length = os.length := List.length_map _
  refine ⟨_, rfl, o, _, rfl, .inr ho, ?_⟩
  refine ⟨_, rfl, p, _, rfl, .inr ⟨hp, RT.for_ItvT (fun i σ H' => ∃ y3 : Option V, H' = H ∧ σ = [some (.ref p), some (.ref o), some (natV (os.length - gre os.reverse (bs.reverse.take i))), y3])
    ⟨none, rfl, by rw [lo]; rfl⟩ (fun i σ H' ⟨_, e, _⟩ => by rw [e]; exact hp) ?_ ?_⟩⟩
  · rintro i x σ H' hi hx ⟨y3, rfl, rfl⟩
    rw [lm] at hi hx
    obtain ⟨b, hb, rfl⟩ := strs_get hx
    have hb' : bs.reverse[i]? = some b := by rw [rev_get hi]; exact hb
    have es : bs.reverse.take (i + 1) = bs.reverse.take i ++ [b] := by rw [List.take_add_one, hb']; rfl
    rw [es, gre_snoc]
    have g1 := gre_le os.reverse (bs.reverse.take i)
    rw [List.length_take, List.length_reverse] at g1
    generalize gre os.reverse (bs.reverse.take i) = g at g1 ⊢
    have hg : g < os.length := by omega
    have eg : os.reverse[g]? = some os[os.length - 1 - g] := by rw [rev_get hg]; exact List.getElem?_eq_getElem (by omega)
    refine ⟨_, rfl, _, rfl, _, rfl, _, _, rfl, rfl, o, _, _, .str os[os.length - 1 - g], rfl, rfl, ho, at_of (j := os.length - 1 - g) (by omega) (by rw [List.getElem?_map, List.getElem?_eq_getElem (by omega)]; rfl), rfl, _, rfl, ite2 (fun c => ?_) (fun c => ?_)⟩
    · have c' : V.str b = V.str os[os.length - 1 - g] := of_decide_eq_true c
      injection c' with c'
      refine ⟨_, rfl, _, _, rfl, rfl, some (.str b), rfl, ?_⟩
      rw [eg, if_pos (by rw [c'])]
      rw [show (natV (os.length - (g + 1))) = V.int (((os.length - g : Nat) : Int) - 1) by show V.int _ = V.int _; congr 1; omega]
      rfl
    · have c' : ¬ V.str b = V.str os[os.length - 1 - g] := of_decide_eq_false (Bool.eq_false_iff.mpr c)
      refine ⟨some (.str b), rfl, ?_⟩
      rw [eg, if_neg (fun z => c' (by injection z with z; rw [z]))]
      rfl
  · rintro σ H' ⟨y3, rfl, rfl⟩
    rw [lm, List.take_of_length_le (by rw [List.length_reverse]; exact Nat.le_refl _)]
    have sl := stay_le bs os
    have fin : ∀ (a : Addr) (H2 : Hp), Same H' H2 → SqT K H2 a ((os.take (os.length - stay bs os)).map V.str) → ∀ r, H2 r = none → Q (.ref r) (upd H2 r (.lst ((os.take (os.length - stay bs os)).map V.str).reverse)) := fun a H2 s2 sa r hr' =>
      q r _ (s2.trans (same_new hr' _)) (s2.free hr') (by rw [upd_same, ← List.map_reverse]; rfl)
    refine ⟨_, rfl, _, rfl, _, rfl, o, _, rfl, ho, fun z => ?_, fun _ a ha => ?_⟩
    · have ew : os.length - stay bs os = os.length := by
        have z2 := z.2
        rw [HT.sIx_nat, lo] at z2
        have e2 : gre os.reverse bs.reverse = stay bs os := rfl
        omega
      refine ⟨o, _, rfl, ho, fun r hr' => ?_⟩
      have q2 := fin o H' (fun _ _ h => h) (by rw [ew, List.take_length]; exact ho) r hr'
      rw [ew, List.take_length] at q2
      exact q2
    · refine ⟨a, _, rfl, sqt upd_same, fun r hr' => ?_⟩
      have e : cutV (os.map V.str) none (some ((os.length - gre os.reverse bs.reverse : Nat) : Int)) = (os.take (os.length - stay bs os)).map V.str := by
        rw [cut_to (by rw [lo]; omega), ← List.map_take]
        rfl
      rw [e] at hr' ⊢
      exact fin a _ (same_new ha _) (sqt upd_same) r hr'
/-! ### the lowest books that lie in order -/
def spStay (K : PySem.W.Frag) : Sp := fun vs H Q _ => ∃ (p o : Addr) (bs os : List Str), vs = [.ref p, .ref o] ∧ SqT K H p (bs.map V.str) ∧ SqT K H o (os.map V.str) ∧ os.length = bs.length ∧ bs.length ≤ 7 ∧ bs.Nodup ∧ (∀ b ∈ bs, PyData.strOk b = true) ∧ (∀ b ∈ os, PyData.strOk b = true) ∧
  ∀ H' : Hp, Same H H' → Q (natV (stay bs os)) H'
abbrev nStay : List Str := ["pile", "other", "many", "size", "some", "book"]
theorem scStay : FnScope nStay ["pile", "other"] (defScope sStay) := ⟨rfl, rfl, rfl, by decide +kernel, rfl, by decide +kernel, by decide +kernel⟩
theorem ok_stay {f : Addr} {fd : FuncData} (F : Fun K "_law_staying" "_law_staying" sStay f fd) (B : Bi mg) : FnOk P w K mg base CX0 1 f fd ["pile", "other"] (spStay K) := by
  refine F.ok scStay (fun vs H Q E h => ?_) (fun cdv A outer s H vs Q E hr h => ?_)
  · obtain ⟨p, o, bs, os, rfl, _⟩ := h
    rfl
  obtain ⟨p, o, bs, os, rfl, hp, ho, hl, h7, nd, okB, okO, q⟩ := h
  refine ⟨_, pss_cons (ps_set (i := 2) scStay.nd rfl (.inl rfl) pe_int)
    (pss_cons (ps_for PassesOwn.never rfl (pi_range1 (by rfl) B.range (pa_cons (pe_op op_add (pe_callB call_len_seq (by rfl) B.len PySem.boot_len (pa_cons (pv 1) pa_nil)) pe_int) pa_nil)) (pg_name (i := 3) scStay.nd rfl (.inl rfl))
      (pss_cons (ps_set (i := 4) scStay.nd rfl (.inr rfl) (pe_slice sl_tupA (pv 1) (po_some (pe_op op_sub (pe_callB call_len_seq (by rfl) B.len PySem.boot_len (pa_cons (pv 1) pa_nil)) (pv 3))) po_none))
      (pss_one (ps_if (pt_cmpR (op_eqD hr.units) (pe_lc (own := [("book", 5)]) (g := gName 5) (tt := tTest (tOp (rIn K false) (tVar 5) (tVar 4)))
          (by rfl) scStay.nd (pi_tup (pv 0)) (blkOk_by (own := [("book", 5)]) (N := nStay) (sc := defScope sStay) (by decide +kernel)) (fun _ _ _ _ _ => pg_name (i := 5) scStay.nd rfl (.inl rfl))
          (fun _ _ _ _ _ => pts_one (pt_cmpR (oIn (K := K) rfl) (pv 5) (pv 4) (by rfl))) (fun _ _ _ _ _ => pv 5))
          (pe_callTy call_list_of (by rfl) B.list (by decide +kernel) (pa_cons (pv 4) pa_nil)) (nomark _))
        (pss_one (ps_set (i := 2) scStay.nd rfl (.inl rfl) (pv 3))) pss_nil))))
    (pss_one (ps_ret (pv 2)))), ?_⟩
  have lm : (bs.map V.str).length = bs.length := List.length_map _
  have lo : (os.map V.str).length = os.length := List.length_map _
  have sl := stay_le bs os
  refine ⟨_, rfl, o, _, rfl, .inr ho, _, _, rfl, rfl, (((os.length + 1 : Nat)) : Int), by rw [lo]; rfl, by omega, by omega, for_range (lo := 0) (n := (((os.length + 1 : Nat)) : Int).toNat)
    (fun i σ H' => ∃ y3 y4 : Option V, σ = [some (.ref p), some (.ref o), some (natV (min (i - 1) (stay bs os))), y3, y4, none] ∧ Same H H') ⟨none, none, rfl, fun _ _ h => h⟩ ?_ ?_⟩
  · rintro i σ H' hi ⟨y3, y4, rfl, sm⟩
    have hi' : i ≤ os.length := by omega
    refine ⟨_, rfl, _, rfl, o, _, rfl, .inr (same_tup sm ho), _, rfl, _, _, rfl, rfl, _, rfl, ?_⟩
    refine sl_lo (K := K) (a := o) (same_tup sm ho) (cut_low (j := os.length - i) (by rw [lo]; omega) (by rw [lo]; omega)) fun a H2 s2 sa => ?_
    rw [← List.map_drop] at sa
    have sm2 := sm.trans s2
    have cond : (bs.filter (fun z => decide (z ∈ os.drop (os.length - i))) = os.drop (os.length - i)) ↔ i ≤ stay bs os := (filter_iff nd).trans (low_sub hi')
    have okS : ∀ b ∈ os.drop (os.length - i), PyData.strOk b = true := fun b hb => okO b (List.mem_of_mem_drop hb)
    have lS : (os.drop (os.length - i)).length ≤ 7 := by rw [List.length_drop]; omega
    generalize os.drop (os.length - i) = ss at sa cond okS lS
    refine ⟨_, rfl, p, rfl, ⟨_, same_tup sm2 hp⟩, fun D hD => lc_tup (K := K) (a := p) (xs := bs.map V.str) (fun j H3 => Same H2 H3 ∧ H3 D = some (.lst (((bs.take j).filter fun z => decide (z ∈ ss)).map V.str)))
      ⟨same_new hD _, upd_same⟩ (fun j H3 _ h3 => same_tup (sm2.trans h3.1) hp) ?_ ?_⟩
    · rintro j x H3 hx ⟨s3, hD3⟩
      obtain ⟨b, hb, rfl⟩ := strs_get hx
      refine ⟨rfl, _, rfl, _, rfl, a, _, rfl, .inr (same_tup s3 sa), rfl, flat_strs ss, _, rfl, ?_⟩
      rw [List.take_add_one, hb, List.filter_append]
      show if inV (.str b) (ss.map V.str) = true then _ else _
      rw [inV_strs]
      refine ite2 (fun c => ?_) (fun c => ?_)
      · refine ⟨_, rfl, _, hD3, ?_, same_put s3 hD, ?_⟩
        · have z := List.length_filter_le (fun z => decide (z ∈ ss)) (bs.take j)
          rw [List.length_take] at z
          rw [List.length_map]
          exact small1000 (by omega)
        · rw [upd_same, List.map_append]
          show _ = some (HO.lst (_ ++ ([b].filter fun z => decide (z ∈ ss)).map V.str))
          rw [filt_y (p := fun z => decide (z ∈ ss)) c]
          rfl
      · refine ⟨s3, ?_⟩
        show _ = some (HO.lst ((_ ++ [b].filter fun z => decide (z ∈ ss)).map V.str))
        rw [filt_n (p := fun z => decide (z ∈ ss)) c, List.append_nil]
        exact hD3
    · rintro H3 ⟨s3, hD3⟩
      rw [lm, List.take_length] at hD3
      refine ⟨_, rfl, a, _, rfl, .inr (same_tup s3 sa), fun l hl' => ?_⟩
      have s4 := same_new hl' (.lst (ss.map V.str))
      have fB := fine_strs (ss := bs.filter fun z => decide (z ∈ ss)) (Nat.le_trans (List.length_filter_le _ _) (by omega)) (fun b hb => okB b (List.mem_filter.mp hb).1) 0
      have fS := fine_strs (ss := ss) (by omega) okS 0
      refine ⟨.list ((bs.filter fun z => decide (z ∈ ss)).map PyData.str), .list (ss.map PyData.str), .lst (sql (s4 _ _ hD3)) (dpAll_strs _), .lst (sql upd_same) (dpAll_strs _), fine_shaped (n := 1) fB (by decide), fine_shaped (n := 1) fS (by decide), _, rfl, ?_⟩
      rw [eqvL_strs]
      refine ite2 (fun c => ?_) (fun c => ?_)
      · have c' := cond.mp (of_decide_eq_true c)
        refine ⟨_, rfl, some (.int (0 + (i : Int))), some (.ref a), ?_, sm2.trans (s3.trans s4)⟩
        rw [show min (i + 1 - 1) (stay bs os) = i by omega, show natV i = V.int (0 + (i : Int)) by rw [Int.zero_add]]
        rfl
      · have c' : ¬ i ≤ stay bs os := fun z => of_decide_eq_false (Bool.eq_false_iff.mpr c) (cond.mpr z)
        refine ⟨some (.int (0 + (i : Int))), some (.ref a), ?_, sm2.trans (s3.trans s4)⟩
        rw [show min (i + 1 - 1) (stay bs os) = min (i - 1) (stay bs os) by omega]
        rfl
  · rintro σ H' ⟨y3, y4, rfl, sm⟩
    refine ⟨_, rfl, ?_⟩
    have e : min ((((os.length + 1 : Nat)) : Int).toNat - 1) (stay bs os) = stay bs os := by omega
    rw [e]
    exact q H' sm
end
end Lt

set_option Elab.async false
set_option linter.all false
set_option maxRecDepth 100000
set_option maxHeartbeats 4000000
namespace Lt
open PySem PySem.Spec PyProof.Rows L2
/-! ### rows of rows of texts -/
def LstL (H : Hp) (ts : List Addr) (rws : List (List Str)) : Prop := ts.length = rws.length ∧ ∀ (i : Nat) (t : Addr) (r : List Str), ts[i]? = some t → rws[i]? = some r → H t = some (.lst (r.map V.str))
theorem LstL.nil (H : Hp) : LstL H [] [] := ⟨rfl, fun i t q h => by simp at h⟩
theorem LstL.move {H H' : Hp} {ts : List Addr} {rws : List (List Str)} (h : LstL H ts rws) (k : Same H H') : LstL H' ts rws := ⟨h.1, fun i t q a b => k _ _ (h.2 i t q a b)⟩
theorem LstL.app {H : Hp} {ts us : List Addr} {rws sws : List (List Str)} (a : LstL H ts rws) (b : LstL H us sws) : LstL H (ts ++ us) (rws ++ sws) := by
  refine ⟨by rw [List.length_append, List.length_append, a.1, b.1], fun k t z h1 h2 => ?_⟩
  by_cases hk : k < ts.length
  · rw [List.getElem?_append_left hk] at h1
    rw [List.getElem?_append_left (by rw [← a.1]; exact hk)] at h2
    exact a.2 k t z h1 h2
  · rw [List.getElem?_append_right (by omega)] at h1
    rw [List.getElem?_append_right (by rw [← a.1]; omega), ← a.1] at h2
    exact b.2 _ t z h1 h2
theorem LstL.one {H : Hp} {t : Addr} {r : List Str} (h : H t = some (.lst (r.map V.str))) : LstL H [t] [r] := by
  refine ⟨rfl, fun i u z a b => ?_⟩
  cases i with
  | zero =>
    cases a
    cases b
    exact h
  | succ i => simp at a
theorem LstL.dp {K : PySem.W.Frag} {H : Hp} : ∀ {ts : List Addr} {rws : List (List Str)}, LstL H ts rws → DpAll K H (ts.map V.ref) (rws.map fun r => .list (r.map PyData.str))
  | [], [], _ => .nil
  | [], r :: rs, h => nomatch h.1
  | t :: ts, [], h => nomatch h.1
  | t :: ts, r :: rs, h => .cons (.lst (sql (h.2 0 t r rfl rfl)) (dpAll_strs r)) (LstL.dp ⟨Nat.succ.inj h.1, fun i t q a b => h.2 (i + 1) t q a b⟩)
theorem LstL.get {H : Hp} {ts : List Addr} {rws : List (List Str)} (h : LstL H ts rws) {i : Nat} {x : V} (e : (ts.map V.ref)[i]? = some x) : ∃ (t : Addr) (r : List Str), x = .ref t ∧ ts[i]? = some t ∧ rws[i]? = some r ∧ H t = some (.lst (r.map V.str)) := by
  rw [List.getElem?_map] at e
  cases e1 : ts[i]? with
  | none =>
    rw [e1] at e
    cases e
  | some t =>
    rw [e1] at e
    cases e
    have hi := (List.getElem?_eq_some_iff.mp e1).1
    have hi2 : i < rws.length := by rw [← h.1]; exact hi
    exact ⟨t, rws[i], rfl, rfl, List.getElem?_eq_getElem hi2, h.2 i t _ e1 (List.getElem?_eq_getElem hi2)⟩
theorem LstL.put {H : Hp} {D : Addr} {us ts : List Addr} {rws : List (List Str)} {o : HO} (h : LstL H ts rws) (hD : H D = some (.lst (us.map V.ref))) (ne : ∀ r ∈ rws, r ≠ []) : LstL (upd H D o) ts rws := by
  refine ⟨h.1, fun i t r a b => ?_⟩
  have z := h.2 i t r a b
  rw [upd_ne fun e => ?_]
  · exact z
  · rw [e, hD] at z
    injection z with z
    injection z with z
    have nr := ne r (List.mem_of_getElem? b)
    cases r with
    | nil => exact nr rfl
    | cons x l =>
      cases us with
      | nil => cases z
      | cons u us => cases z
/-- all readings shorter than n -/
def allBelow (bs : List Str) : Nat → List (List Str)
  | 0 => []
  | n + 1 => allBelow bs n ++ allRows bs n
theorem allBelow_mem {bs : List Str} : ∀ {n : Nat} {r : List Str}, r ∈ allBelow bs n → ∃ m, m < n ∧ r ∈ allRows bs m
  | 0, r, h => nomatch h
  | n + 1, r, h => by
    rcases List.mem_append.mp (show r ∈ allBelow bs n ++ allRows bs n from h) with h | h
    · obtain ⟨m, hm, h⟩ := allBelow_mem h
      exact ⟨m, by omega, h⟩
    · exact ⟨n, by omega, h⟩
theorem few_below {bs os : List Str} (nd : bs.Nodup) (p : os.Perm bs) {n : Nat} (h : n ≤ (few bs os).length) : (allBelow bs n).filter (fun r => decide (behindM bs r = os)) = [] := by
  rw [List.filter_eq_nil_iff]
  intro r hr c
  obtain ⟨m, hm, h2⟩ := allBelow_mem hr
  have z := few_none nd p (n := m) (by omega)
  rw [List.filter_eq_nil_iff] at z
  exact z r h2 c
theorem rows_few {bs : List Str} {n : Nat} (h5 : bs.length ≤ 5) (hn : n ≤ 5) : (allRows bs n).length ≤ 3125 := by
  rw [allRows_len]
  exact Nat.le_trans (Nat.pow_le_pow_left h5 n) (Nat.le_trans (Nat.pow_le_pow_right (by decide) hn) (by decide))
theorem below_few {bs : List Str} (h5 : bs.length ≤ 5) : ∀ {n : Nat}, n ≤ 5 → (allBelow bs n).length ≤ n * 3125
  | 0, _ => Nat.zero_le _
  | n + 1, h => by
    have z := below_few h5 (n := n) (by omega)
    have z2 := rows_few h5 (n := n) (by omega)
    show (allBelow bs n ++ allRows bs n).length ≤ _
    rw [List.length_append, Nat.succ_mul]
    omega
abbrev nLaw : List Str := ["script", "tape", "size", "pile", "other", "told", "rows", "found", "turn", "longer", "row", "some", "book", "at"]
theorem scLaw : FnScope nLaw ["script"] (defScope sLaw) := ⟨rfl, rfl, rfl, by decide +kernel, rfl, by decide +kernel, by decide +kernel⟩
section
variable {P : Program} {w : World} {K : PySem.W.Frag} {mg : Str → Option Value} {base : Heap}
/-- what stands through a turn -/
structure Tn (K : PySem.W.Frag) (H : Hp) (T S p o : Addr) (ns : List Int) (bs os : List Str) (m : Int) : Prop where
  tp : Tape H T S ns
  hp : TpO H p (bs.map V.str)
  ho : SqT K H o (os.map V.str)
  ok : IsPile bs
  le : (bs.length : Int) ≤ m
  pm : os.Perm bs
theorem Tn.same {K : PySem.W.Frag} {H H' : Hp} {T S p o : Addr} {ns : List Int} {bs os : List Str} {m : Int} (h : Tn K H T S p o ns bs os m) (s : Same H H') : Tn K H' T S p o ns bs os m :=
  ⟨h.tp.same s, h.hp.same s, same_tup s h.ho, h.ok, h.le, h.pm⟩
abbrev ttF (K : PySem.W.Frag) : TT := tTest (tOp (rEqD K) (tOp (rIxT K) (tCall spRead [] E0 (tCons (tVar 3) (tCons (tVar 10) tNil))) (tC (.int 0))) (tVar 4))
theorem fine_str {ss : List Str} (h7 : ss.length ≤ 7) (ok : ∀ b ∈ ss, b ∈ books) (n : Nat) : Fine (n + 1) (.tuple (ss.map PyData.str)) := fine_strs (by omega) (fun b hb => books_ok b (ok b hb)) n
/-- [row for row in rows if read(pile, row)[0] == other] -/
theorem filt_read {H : Hp} {Q : VK} {T S p o R : Addr} {ns : List Int} {bs os : List Str} {m : Int} {ts : List Addr} {rws : List (List Str)} {y0 y1 y2 y5 y6 y7 y8 y9 y10 y11 : Option V} (k : Nat) (σ : L2.St)
    (hσ : σ = [y0, y1, y2, some (.ref p), some (.ref o), y5, y6, y7, y8, y9, y10, y11, none, none]) (hk : σ[k]? = some (some (.ref R))) (tn : Tn K H T S p o ns bs os m) (hR : H R = some (.lst (ts.map V.ref))) (hl : LstL H ts rws)
    (ok : ∀ r ∈ rws, r.length ≤ 60 ∧ ∀ b ∈ r, b ∈ bs) (few : rws.length ≤ 20000)
    (q : ∀ (D : Addr) (H' : Hp) (us : List Addr), Same H H' → H' D = some (.lst (us.map V.ref)) → LstL H' us (rws.filter fun r => decide (behindM bs r = os)) → Q (.ref D) H') : tLc (iList K (tVar k)) (gName 10) (ttF K) (tVar 10) [10] σ H Q := by
  subst hσ
  refine ⟨_, hk, R, rfl, ⟨_, sql hR⟩, fun D hD => lc_list (K := K) (a := R) (xs := ts.map V.ref)
    (fun j H' => ∃ us : List Addr, Same H H' ∧ H' D = some (.lst (us.map V.ref)) ∧ LstL H us ((rws.take j).filter fun r => decide (behindM bs r = os)))
    ⟨[], same_new hD _, upd_same, by rw [List.take_zero]; exact LstL.nil _⟩ (fun j H' _ ⟨_, s', _⟩ => s'.seq (sql hR)) ?_ ?_⟩
  · rintro j x H1 hx ⟨us, s1, hD1, l1⟩
    obtain ⟨t, r, rfl, et, er, ht⟩ := hl.get hx
    have okr := ok r (List.mem_of_getElem? er)
    have tn1 := tn.same s1
    refine ⟨rfl, _, rfl, _, rfl, p, t, bs, r, rfl, tn1.hp, s1 _ _ ht, tn.ok.most, okr.1, okr.2, fun tt an nn ro H2 ps s2 htt han _ _ _ => ?_⟩
    have pmb := behindM_perm r okr.2
    have tn2 := tn1.same s2
    have f1 := fine_str (ss := behindM bs r) (by rw [pmb.length_eq]; exact tn.ok.most) (fun b hb => tn.ok.ok b (pmb.mem_iff.mp hb)) 0
    have f2 := fine_str (ss := os) (by rw [tn.pm.length_eq]; exact tn.ok.most) (fun b hb => tn.ok.ok b (tn.pm.mem_iff.mp hb)) 0
    refine ⟨tt, _, _, _, rfl, rfl, sqt htt, at_of (j := 0) rfl rfl, _, rfl, .tuple ((behindM bs r).map PyData.str), .tuple (os.map PyData.str), .tup (sqt han) (dpAll_strs _), .tup tn2.ho (dpAll_strs _), fine_shaped (n := 1) f1 (by decide), fine_shaped (n := 1) f2 (by decide), _, rfl, ?_⟩
    rw [eqvT_strs, List.take_add_one, er, List.filter_append]
    have ht2 := s2 _ _ (s1 _ _ ht)
    have hD2 := s2 _ _ hD1
    refine ite2 (fun c => ?_) (fun c => ?_)
    · have lus : us.length ≤ 20000 := by
        rw [l1.1]
        have z := List.length_filter_le (fun r => decide (behindM bs r = os)) (rws.take j)
        rw [List.length_take] at z
        omega
      refine ⟨_, rfl, _, hD2, by rw [List.length_map, sizeLine_eq]; omega, us ++ [t], same_put (s1.trans s2) hD, by rw [upd_same, List.map_append]; rfl, ?_⟩
      refine l1.app ?_
      show LstL _ [t] ([r].filter fun r => decide (behindM bs r = os))
      rw [filt_y (p := fun r => decide (behindM bs r = os)) c]
      exact LstL.one ht
    · refine ⟨us, s1.trans s2, hD2, ?_⟩
      show LstL _ us (_ ++ [r].filter fun r => decide (behindM bs r = os))
      rw [filt_n (p := fun r => decide (behindM bs r = os)) c, List.append_nil]
      exact l1
  · rintro H1 ⟨us, s1, hD1, l1⟩
    rw [List.length_map, hl.1, List.take_length] at l1
    exact q D H1 us s1 hD1 (l1.move s1)
theorem ok_law {f : Addr} {fd : FuncData} (F : Fun K "law" "law" sLaw f fd) (B : Bi mg) (cD : Has P w K mg base 1 "_law_draw" ["tape", "many"] spDraw) (cO : Has P w K mg base 2 "_law_any_order" ["tape", "many"] spOrder) (cPi : Has P w K mg base 3 "_law_pile" ["tape", "size"] spPile)
    (cRe : Has P w K mg base 2 "_law_readings" ["tape", "books", "size"] spReadings) (cRd : Has P w K mg base 1 "_law_read" ["pile", "readings"] spRead) (cSt : Has P w K mg base 1 "_law_staying" ["pile", "other"] (spStay K))
    (cFe : Has P w K mg base 1 "fewest_to" ["pile", "other"] (spFew K)) : FnOk P w K mg base CX0 4 f fd ["script"] (spLaw K) := by
  refine F.ok scLaw (fun vs H Q E h => ?_) (fun cdv A outer s H vs Q E hr h => ?_)
  · obtain ⟨a, ns, rfl, _⟩ := h
    rfl
  obtain ⟨a, ns, rfl, hS, h63, q⟩ := h
  refine ⟨_, pss_cons (ps_set (i := 1) scLaw.nd rfl (.inl rfl) (pe_lst (pa_cons (pe_callTy call_list_of (by rfl) B.list (by decide +kernel) (pa_cons (pv 0) pa_nil)) (pa_cons pe_int (pa_cons pe_int pa_nil)))))
    (pss_cons (ps_for PassesOwn.never rfl (pi_list (pe_lst (pa_cons pe_int (pa_cons pe_int (pa_cons pe_int pa_nil))))) (pg_name (i := 2) scLaw.nd rfl (.inl rfl))
      (pss_cons (ps_set (i := 3) scLaw.nd rfl (.inr rfl) (pe_go cPi hr (by decide) rfl (pa_cons (pv 1) (pa_cons (pv 2) pa_nil))))
      (pss_cons (ps_set (i := 4) scLaw.nd rfl (.inr rfl) (pe_callTy call_tupleZ (by rfl) B.tuple (by decide +kernel) (pa_cons
        (pe_lc (own := [("at", 13)]) (g := gName 13) (tt := tYes) (by rfl) scLaw.nd (pi_tup (pe_go cO hr (by decide) rfl (pa_cons (pv 1) (pa_cons (pe_callB call_len_seq (by rfl) B.len PySem.boot_len (pa_cons (pv 3) pa_nil)) pa_nil))))
          (blkOk_by (own := [("at", 13)]) (N := nLaw) (sc := defScope sLaw) (by decide +kernel)) (fun _ _ _ _ _ => pg_name (i := 13) scLaw.nd rfl (Or.inl rfl)) (fun _ _ _ _ _ => pts_nil) (fun _ _ _ _ _ => pe_ix (ixT (K := K) rfl) (pv 3) (pv 13) (fun _ _ => rfl))) pa_nil)))
      (Evl.pss_cut (ps_set (i := 4) scLaw.nd rfl (.inr rfl) (pe_ifExp (pt_cmpR op_eq (pe_go cD hr (by decide) rfl (pa_cons (pv 1) (pa_cons pe_int pa_nil))) pe_int (nomark _))
        (pe_ix ix_tup (pe_go cRd hr (by decide) rfl (pa_cons (pv 3) (pa_cons (pe_go cRe hr (by decide) rfl (pa_cons (pv 1) (pa_cons (pv 3) (pa_cons pe_int pa_nil)))) pa_nil))) pe_int (fun _ _ => rfl)) (pv 4)))
      (pss_cons (ps_set (i := 5) scLaw.nd rfl (.inl rfl) (pe_go cFe hr (by decide) rfl (pa_cons (pv 3) (pa_cons (pv 4) pa_nil))))
      (pss_cons (ps_if (PW.pt (pw_or (pt_not (pt_val (pe_callB call_isi (by rfl) B.isinstance (by decide +kernel) (pa_cons (pv 5) (pa_cons (pe_bltn (v := .ty "list") (by rfl) B.list (by decide +kernel) rfl) pa_nil)))))
          (pw_or1 (pt_cmpR (op_neD hr.units) (pe_ix ix_tup (pe_go cRd hr (by decide) rfl (pa_cons (pv 3) (pa_cons (pv 5) pa_nil))) pe_int (fun _ _ => rfl)) (pv 4) (nomark _))))) (pss_one (ps_ret pe_bl)) pss_nil)
      (pss_cons (ps_if (pt_cmpR op_ne (pe_callB call_len_seq (by rfl) B.len PySem.boot_len (pa_cons (pv 5) pa_nil)) (pe_op op_sub (pe_callB call_len_seq (by rfl) B.len PySem.boot_len (pa_cons (pv 3) pa_nil)) (pe_go cSt hr (by decide) rfl (pa_cons (pv 3) (pa_cons (pv 4) pa_nil)))) (nomark _)) (pss_one (ps_ret pe_bl)) pss_nil)
      (pss_cons (ps_par (i := 6) (j := 7) (by rfl) scLaw.nd rfl rfl (by decide) rfl rfl (pa_cons (pe_lst (pa_cons (pe_lst pa_nil) pa_nil)) (pa_cons (pe_lst pa_nil) pa_nil)) (by rfl))
      (Evl.pss_cut (ps_for PassesOwn.never rfl (pi_range1 (by rfl) B.range (pa_cons (pe_mid (pe_ifExp (pt_cmpR op_lt (pv 2) pe_int (nomark _)) (pe_callB call_len_seq (by rfl) B.len PySem.boot_len (pa_cons (pv 5) pa_nil)) pe_int)) pa_nil)) (pg_name (i := 8) scLaw.nd rfl (.inl rfl))
        (pss_cons (ps_set (i := 9) scLaw.nd rfl (.inl rfl) (pe_lst pa_nil))
        (pss_cons (ps_for PassesOwn.never rfl (pi_list (pv 6)) (pg_name (i := 10) scLaw.nd rfl (.inr rfl))
          (pss_one (ps_set (i := 9) scLaw.nd rfl (.inl rfl) (pe_op op_cat (pv 9) (pe_lc (own := [("book", 12)]) (g := gName 12) (tt := tYes) (by rfl) scLaw.nd (pi_tup (pv 3))
            (blkOk_by (own := [("book", 12)]) (N := nLaw) (sc := defScope sLaw) (by decide +kernel)) (fun _ _ _ _ _ => pg_name (i := 12) scLaw.nd rfl (Or.inl rfl)) (fun _ _ _ _ _ => pts_nil)
            (fun _ _ _ _ _ => pe_op op_cat (pv 10) (pe_lst (pa_cons (pv 12) pa_nil))))))))
        (pss_one (ps_par (i := 7) (j := 6) (by rfl) scLaw.nd rfl rfl (by decide) rfl rfl (pa_cons (pe_op op_cat (pv 7) (pv 6)) (pa_cons (pv 9) pa_nil)) (by rfl))))))
      (pss_cons (ps_if (pt_cmpR (op_neD hr.units) (pe_lc (own := [("row", 10)]) (g := gName 10) (tt := tTest (tOp (rEqD K) (tOp (rIxT K) (tCall spRead [] E0 (tCons (tVar 3) (tCons (tVar 10) tNil))) (tC (.int 0))) (tVar 4))) (by rfl) scLaw.nd (pi_list (pv 7))
            (blkOk_by (own := [("row", 10)]) (N := nLaw) (sc := defScope sLaw) (by decide +kernel)) (fun _ _ _ _ _ => pg_name (i := 10) scLaw.nd rfl (Or.inl rfl))
            (fun _ _ _ _ _ => pts_one (pt_cmpR (oEqD (K := K) hr.units rfl) (pe_ix (ixT (K := K) rfl) (pe_go cRd hr (by decide) rfl (pa_cons (pv 3) (pa_cons (pv 10) pa_nil))) pe_int (fun _ _ => rfl)) (pv 4) (nomark _))) (fun _ _ _ _ _ => pv 10)) (pe_lst pa_nil) (nomark _))
          (pss_one (ps_ret pe_bl)) pss_nil)
      (pss_cons (ps_setLc (i := 11) (own := [("row", 10)]) (g := gName 10) (tt := tTest (tOp (rEqD K) (tOp (rIxT K) (tCall spRead [] E0 (tCons (tVar 3) (tCons (tVar 10) tNil))) (tC (.int 0))) (tVar 4))) (by rfl) scLaw.nd rfl rfl (sw_true rfl rfl rfl (by decide +kernel)) (pi_list (pv 6))
            (blkOk_by (own := [("row", 10)]) (N := nLaw) (sc := defScope sLaw) (by decide +kernel)) (fun _ _ _ _ _ => pg_name (i := 10) scLaw.nd rfl (Or.inl rfl))
            (fun _ _ _ _ _ => pts_one (pt_cmpR (oEqD (K := K) hr.units rfl) (pe_ix (ixT (K := K) rfl) (pe_go cRd hr (by decide) rfl (pa_cons (pv 3) (pa_cons (pv 10) pa_nil))) pe_int (fun _ _ => rfl)) (pv 4) (nomark _))) (fun _ _ _ _ _ => pv 10))
      (pss_one (ps_if (PW.pt (pw_and (pt_cmpR op_lt (pv 2) pe_int (nomark _)) (pw_and1 (pt_cmpR (op_neD hr.units) (pv 11) (pe_lst (pa_cons (pv 5) pa_nil)) (nomark _))))) (pss_one (ps_ret pe_bl)) pss_nil)))))))))))))
    (pss_one (ps_ret pe_bl))), ?_⟩
  refine ⟨_, rfl, a, _, rfl, .inl hS, fun S hS0 => ⟨(by show 3 ≤ sizeLine; decide), fun T hT0 => ?_⟩⟩
  have tp0 : Tape (upd (upd H S (.lst (ns.map V.int))) T (.lst [.ref S, .int 0, .int 0])) T S ns := ⟨⟨0, 0, upd_same⟩, by rw [upd_ne (ne_of_none upd_same hT0)]; exact upd_same⟩
  generalize upd (upd H S (.lst (ns.map V.int))) T (.lst [.ref S, .int 0, .int 0]) = H0 at tp0 ⊢
  refine ⟨(by show 3 ≤ sizeLine; decide), fun Z hZ => ?_⟩
  have tpZ := tp0.same (same_new hZ (.lst [V.int 5, V.int 4, V.int 7]))
  have hZ1 : upd H0 Z (.lst [V.int 5, V.int 4, V.int 7]) Z = some (.lst [V.int 5, V.int 4, V.int 7]) := upd_same
  have nZT : Z ≠ T := by
    obtain ⟨o, ho⟩ := tp0.taken
    exact new_ne ho hZ
  generalize upd H0 Z (.lst [V.int 5, V.int 4, V.int 7]) = H1 at tpZ hZ1 ⊢
  refine ⟨Z, rfl, ⟨_, sql hZ1⟩, for_list (K := K) (a := Z) (xs := [V.int 5, V.int 4, V.int 7])
    (fun i σ H' => ∃ y2 y3 y4 y5 y6 y7 y8 y9 y10 y11 : Option V, σ = [some (.ref a), some (.ref T), y2, y3, y4, y5, y6, y7, y8, y9, y10, y11, none, none] ∧ Tape H' T S ns ∧ H' Z = some (.lst [V.int 5, V.int 4, V.int 7]))
    ⟨none, none, none, none, none, none, none, none, none, none, rfl, tpZ, hZ1⟩ (fun i σ H' _ ⟨_, _, _, _, _, _, _, _, _, _, _, _, h⟩ => sql h) ?_ ?_⟩
  · rintro i x σ H2 hx ⟨y2, y3, y4, y5, y6, y7, y8, y9, y10, y11, rfl, tp2, hZ2⟩
    obtain ⟨m, rfl, m0, m7, mm⟩ : ∃ m : Int, x = .int m ∧ 0 < m ∧ m ≤ 7 ∧ (m < 7 → m ≤ 5) := by
      match i, hx with
      | 0, hx => cases hx; exact ⟨5, rfl, by decide, by decide, by decide⟩
      | 1, hx => cases hx; exact ⟨4, rfl, by decide, by decide, by decide⟩
      | 2, hx => cases hx; exact ⟨7, rfl, by decide, by decide, by decide⟩
      | i + 3, hx => simp at hx
    -- the pile
    refine ⟨_, rfl, _, rfl, T, S, ns, m, rfl, tp2, m0, m7, fun p H3 bs sm3 tp3 np hp bsOk ble => ?_⟩
    have hZ3 := sm3 _ _ nZT hZ2
    have npT : p ≠ T := by
      obtain ⟨i', c, hT⟩ := tp3.at_
      exact hp.ne hT (fun o z => nomatch z)
    have lb : (bs.map V.str).length = bs.length := List.length_map _
    have b7 := bsOk.most
    -- the other pile
    refine ⟨_, rfl, _, rfl, p, _, rfl, .inr hp.sqt, T, S, ns, (bs.map V.str).length, rfl, tp3, by omega, fun t H4 qs sm4 tp4 nt ht pm => ?_⟩
    rw [lb] at pm
    have lq : qs.length = bs.length := by rw [pm.length_eq, List.length_range]
    have hp4 := hp.sameT sm4 npT
    have hZ4 := sm4 _ _ nZT hZ3
    refine ⟨t, rfl, ⟨_, sqt ht⟩, fun D hD => lc_tup (K := K) (a := t) (xs := qs.map natV) (fun i H' => Same H4 H' ∧ H' D = some (.lst (((pick bs qs).take i).map V.str)))
      ⟨same_new hD _, upd_same⟩ (fun i H' _ h' => sqt (h'.1 _ _ ht)) ?_ ?_⟩
    · rintro j x H5 hx5 ⟨s5, hD5⟩
      rw [List.getElem?_map] at hx5
      cases e : qs[j]? with
      | none =>
        rw [e] at hx5
        cases hx5
      | some k =>
        rw [e] at hx5
        cases hx5
        have hk : k < bs.length := List.mem_range.mp (pm.mem_iff.mp (List.mem_of_getElem? e))
        refine ⟨rfl, _, rfl, _, rfl, p, _, _, .str bs[k], rfl, rfl, (hp4.same s5).sqt, at_of rfl (by rw [List.getElem?_map, List.getElem?_eq_getElem hk]; rfl), _, hD5, ?_, same_put s5 hD, ?_⟩
        · have lp : (pick bs qs).length = qs.length := by
            unfold pick
            rw [List.length_map]
          rw [List.length_map, List.length_take]
          exact small1000 (by omega)
        · have ep : (pick bs qs)[j]? = some bs[k] := by
            unfold pick
            rw [List.getElem?_map, e]
            show some ((bs[k]?).getD Str.empty) = _
            rw [List.getElem?_eq_getElem hk]
            rfl
          rw [upd_same, List.take_add_one, ep, List.map_append]
          rfl
    · rintro H5 ⟨s5, hD5⟩
      rw [List.length_map, List.take_of_length_le (by unfold pick; rw [List.length_map]; omega)] at hD5
      refine ⟨D, _, rfl, sql hD5, fun o u ho hu => ?_⟩
      have pmo : (pick bs qs).Perm bs := pick_perm pm
      have s6 := s5.trans (same_new ho u)
      have tp6 := tp4.same s6
      have hp6 := hp4.same s6
      have hZ6 := s6 _ _ hZ4
      have ho6 : TpO (upd H5 o u) o ((pick bs qs).map V.str) := TpO.new hu
      have noT : o ≠ T := by
        obtain ⟨i', c, hT⟩ := tp6.at_
        exact ho6.ne hT (fun o z => nomatch z)
      generalize upd H5 o u = H6 at tp6 hp6 hZ6 ho6 ⊢
      generalize pick bs qs = os0 at pmo ho6
      refine ⟨fun σ H' => ∃ (o : Addr) (os : List Str), σ = [some (.ref a), some (.ref T), some (.int m), some (.ref p), some (.ref o), y5, y6, y7, y8, y9, y10, y11, none, none] ∧ Tn K H' T S p o ns bs os m ∧ H' Z = some (.lst [V.int 5, V.int 4, V.int 7]), ?_, ?_⟩
      · refine ⟨_, rfl, T, S, ns, 2, rfl, tp6, by decide, by decide, fun r i2 c2 r0 r1 => ?_⟩
        have tp7 := tp6.put i2 c2
        have sm7 : SameT T H6 (upd H6 T (.lst [.ref S, .int i2, .int c2])) := sameT_put _
        have hp7 := hp6.sameT sm7 npT
        have ho7 := ho6.sameT sm7 noT
        have hZ7 := sm7 _ _ nZT hZ6
        generalize upd H6 T (.lst [.ref S, .int i2, .int c2]) = H7 at tp7 hp7 ho7 hZ7 ⊢
        refine ⟨rfl, _, rfl, ite2 (fun _ => ?_) (fun _ => ?_)⟩
        · refine ⟨_, rfl, _, rfl, _, rfl, T, S, p, ns, bs, 3, rfl, tp7, hp7, bsOk.pos, bsOk.most, by decide, by decide, fun rd H8 rs sm8 tp8 nrd hrd lrs mrs => ?_⟩
          have hp8 := hp7.sameT sm8 npT
          refine ⟨p, rd, bs, rs, rfl, hp8, hrd, bsOk.most, by omega, mrs, fun tt an nn ro H9 ps s9 htt han _ _ _ => ?_⟩
          refine ⟨tt, _, _, _, rfl, rfl, sqt htt, at_of (j := 0) rfl rfl, an, behindM bs rs, rfl, ⟨tp8.same s9, hp8.same s9, sqt han, bsOk, ble, behindM_perm rs mrs⟩, s9 _ _ (sm8 _ _ nZT hZ7)⟩
        · exact ⟨_, rfl, o, os0, rfl, ⟨tp7, hp7, ho7.sqt, bsOk, ble, pmo⟩, hZ7⟩
      · rintro σ H7 ⟨o, os, rfl, tn, hZ7⟩
        -- told
        refine ⟨_, rfl, _, rfl, p, o, bs, os, rfl, tn.hp.sqt, tn.ho, tn.pm.length_eq, fun told H8 s8 ntold htold => ?_⟩
        have tn8 := tn.same s8
        have mfew := few_mem tn.pm
        have lfew : (few bs os).length ≤ bs.length := by
          rw [few_len, tn.pm.length_eq]
          omega
        have f2 := fine_str (ss := os) (by rw [tn.pm.length_eq]; exact tn.ok.most) (fun b hb => tn.ok.ok b (tn.pm.mem_iff.mp hb)) 0
        refine ⟨_, rfl, _, _, _, _, true, rfl, .ty _, (show TyX K H8 (.ref told) (.type "list") from ty_dp (.lst (sql htold) (dpAll_strs (few bs os)))), kit_ty (by decide +kernel), true, rfl, ?_⟩
        refine ⟨_, rfl, _, rfl, p, told, bs, few bs os, rfl, tn8.hp, htold, b7, by omega, mfew, fun tt an nn ro H9 ps s9 htt han _ _ _ => ?_⟩
        have tn9 := tn8.same s9
        rw [few_leads bsOk.nd tn.pm] at han
        refine ⟨tt, _, _, _, rfl, rfl, sqt htt, at_of (j := 0) rfl rfl, _, rfl, .tuple (os.map PyData.str), .tuple (os.map PyData.str), .tup (sqt han) (dpAll_strs _), .tup tn9.ho (dpAll_strs _), fine_shaped (n := 1) f2 (by decide), fine_shaped (n := 1) f2 (by decide), false, by rw [fine_eqv f2]; rfl, ?_⟩
        have htold9 := s9 _ _ htold
        have hZ9 := s9 _ _ (s8 _ _ hZ7)
        -- how many
        refine ⟨_, rfl, told, _, rfl, .inl (sql htold9), _, rfl, p, _, rfl, .inr tn9.hp.sqt, _, rfl, _, rfl, p, o, bs, os, rfl, tn9.hp.sqt, tn9.ho, tn.pm.length_eq, b7, bsOk.nd, (fun b hb => books_ok b (bsOk.ok b hb)), (fun b hb => books_ok b (bsOk.ok b (tn.pm.mem_iff.mp hb))), fun H10 s10 => ?_⟩
        have tn10 := tn9.same s10
        have sl := stay_le bs os
        have el := few_len bs os
        have lo := tn.pm.length_eq
        refine ⟨_, _, rfl, rfl, rfl, false, ?_, ?_⟩
        · have e : V.int (((few bs os).map V.str).length : Int) = V.int (((bs.map V.str).length : Int) - ((stay bs os : Nat) : Int)) := by
            rw [List.length_map, List.length_map, el]
            congr 1
            omega
          show V.bl (!decide (V.int (((few bs os).map V.str).length : Int) = V.int (((bs.map V.str).length : Int) - ((stay bs os : Nat) : Int)))) = _
          rw [decide_eq_true e]
          rfl
        -- rows, found
        have htold10 := s10 _ _ htold9
        have hZ10 := s10 _ _ hZ9
        refine ⟨Nat.zero_le _, fun E0 hE0 => ⟨(by show 1 ≤ sizeLine; decide), fun R hR => ⟨Nat.zero_le _, fun G hG => ⟨_, _, rfl, ?_⟩⟩⟩⟩
        have s11 := same_new hE0 (.lst [])
        have s12 := same_new hR (.lst [V.ref E0])
        have s13 := same_new hG (.lst [])
        have sm13 := s11.trans (s12.trans s13)
        have tn13 := tn10.same sm13
        have htold13 := sm13 _ _ htold10
        have hZ13 := sm13 _ _ hZ10
        have hE13 := s13 _ _ (s12 _ _ (upd_same (H := H10) (a := E0) (o := .lst [])))
        have hR13 := s13 _ _ (upd_same (H := upd H10 E0 (.lst [])) (a := R) (o := .lst [V.ref E0]))
        have hG13 := upd_same (H := upd (upd H10 E0 (.lst [])) R (.lst [V.ref E0])) (a := G) (o := .lst [])
        generalize upd (upd (upd H10 E0 (.lst [])) R (.lst [V.ref E0])) G (.lst []) = H13 at tn13 htold13 hZ13 hE13 hR13 hG13 ⊢
        refine ⟨fun σ H' => ∃ (R G : Addr) (us vs : List Addr) (n : Nat) (y8 y9 y10 : Option V), σ = [some (.ref a), some (.ref T), some (.int m), some (.ref p), some (.ref o), some (.ref told), some (.ref R), some (.ref G), y8, y9, y10, y11, none, none] ∧
          Same H13 H' ∧ H' R = some (.lst (us.map V.ref)) ∧ H' G = some (.lst (vs.map V.ref)) ∧ LstL H' us (allRows bs n) ∧ LstL H' vs (allBelow bs n) ∧ (m < 7 → n = (few bs os).length) ∧ (¬ m < 7 → n = 0), ?_, ?_⟩
        · -- the loop
          refine ⟨fun v H' => H' = H13 ∧ ∃ n : Nat, v = natV n ∧ (m < 7 → n = (few bs os).length) ∧ (¬ m < 7 → n = 0), ?_, ?_⟩
          · refine ⟨_, rfl, _, _, rfl, rfl, _, rfl, ite2 (fun c => ?_) (fun c => ?_)⟩
            · have c' : m < 7 := of_decide_eq_true c
              exact ⟨_, rfl, told, _, rfl, .inl (sql htold13), rfl, (few bs os).length, by rw [List.length_map], fun _ => rfl, fun z => absurd c' z⟩
            · have c' : ¬ m < 7 := of_decide_eq_false (Bool.eq_false_iff.mpr c)
              exact ⟨rfl, 0, rfl, fun z => absurd z c', fun _ => rfl⟩
          · rintro _ H13 ⟨rfl, n, rfl, n1, n2⟩
            have n5 : n ≤ 5 ∧ (n ≠ 0 → bs.length ≤ 5) := by
              by_cases c : m < 7
              · have z1 := n1 c
                have z2 := mm c
                omega
              · have z1 := n2 c
                omega
            refine ⟨(n : Int), rfl, by omega, by omega, for_range (lo := 0) (n := (n : Int).toNat) (fun i σ H' => ∃ (R G : Addr) (us vs : List Addr) (y8 y9 y10 : Option V), σ = [some (.ref a), some (.ref T), some (.int m), some (.ref p), some (.ref o), some (.ref told), some (.ref R), some (.ref G), y8, y9, y10, y11, none, none] ∧
              Same H' H' ∧ Same H13 H' ∧ H' R = some (.lst (us.map V.ref)) ∧ H' G = some (.lst (vs.map V.ref)) ∧ LstL H' us (allRows bs i) ∧ LstL H' vs (allBelow bs i))
              ⟨R, G, [E0], [], y8, y9, y10, rfl, fun _ _ h => h, fun _ _ h => h, hR13, hG13, LstL.one hE13, LstL.nil _⟩ ?_ ?_⟩
            · rintro i σ H14 hi ⟨R, G, us, vs, y8, y9, y10, rfl, _, s14, hR14, hG14, lr, lg⟩
              have hi' : i < n := by omega
              have b5 : bs.length ≤ 5 := n5.2 (by omega)
              have rl := rows_few b5 (n := i) (by omega)
              have rl2 := rows_few b5 (n := i + 1) (by omega)
              have gl := below_few b5 (n := i) (by omega)
              refine ⟨Nat.zero_le _, fun L hL => ?_⟩
              have s15 := same_new hL (.lst [])
              refine ⟨_, rfl, R, rfl, ⟨_, sql (s15 _ _ hR14)⟩, for_list (K := K) (a := R) (xs := us.map V.ref)
                (fun j σ H' => ∃ (L : Addr) (ls : List Addr) (y10 : Option V), σ = [some (.ref a), some (.ref T), some (.int m), some (.ref p), some (.ref o), some (.ref told), some (.ref R), some (.ref G), some (.int (0 + (i : Int))), some (.ref L), y10, y11, none, none] ∧
                  Same H14 H' ∧ H' L = some (.lst (ls.map V.ref)) ∧ LstL H' ls (((allRows bs i).take j).flatMap fun r => bs.map fun b => r ++ [b]))
                ⟨L, [], y10, rfl, s15, upd_same, by rw [List.take_zero]; exact LstL.nil _⟩ (fun j σ H' _ ⟨_, _, _, _, s', _⟩ => sql (s' _ _ hR14)) ?_ ?_⟩
              · rintro j x σ H16 hx ⟨L, ls, y10, rfl, s16, hL16, ll⟩
                obtain ⟨t, r, rfl, et, er, ht⟩ := lr.get hx
                have tn16 := (tn13.same s14).same s16
                have ht16 := s16 _ _ ht
                have lr2 : r.length = i := ((allRows_mem bs i r).mp (List.mem_of_getElem? er)).1
                have lls : ls.length ≤ 3125 := by
                  rw [ll.1]
                  have e : ((allRows bs i).flatMap fun r => bs.map fun b => r ++ [b]).length = (((allRows bs i).take j).flatMap fun r => bs.map fun b => r ++ [b]).length + (((allRows bs i).drop j).flatMap fun r => bs.map fun b => r ++ [b]).length := by
                    rw [← List.length_append, ← List.flatMap_append, List.take_append_drop]
                  have e2 : (allRows bs (i + 1)).length = ((allRows bs i).flatMap fun r => bs.map fun b => r ++ [b]).length := rfl
                  omega
                refine ⟨_, rfl, _, rfl, p, rfl, ⟨_, tn16.hp.sqt⟩, fun D hD => lc_tup (K := K) (a := p) (xs := bs.map V.str)
                  (fun k H' => ∃ ws : List Addr, Same H16 H' ∧ H' D = some (.lst (ws.map V.ref)) ∧ LstL H' ws ((bs.take k).map fun b => r ++ [b]))
                  ⟨[], same_new hD _, upd_same, by rw [List.take_zero]; exact LstL.nil _⟩ (fun k H' _ ⟨_, s', _⟩ => (tn16.hp.same s').sqt) ?_ ?_⟩
                · rintro k x H17 hx17 ⟨ws, s17, hD17, lw⟩
                  obtain ⟨b, hb, rfl⟩ := strs_get hx17
                  have lws : ws.length ≤ 7 := by
                    rw [lw.1, List.length_map, List.length_take]
                    omega
                  refine ⟨rfl, _, rfl, _, rfl, (by show 1 ≤ sizeLine; decide), fun c hc => ?_⟩
                  have s18 := same_new hc (.lst [V.str b])
                  refine ⟨t, c, _, _, rfl, rfl, s18 _ _ (s17 _ _ ht16), upd_same, by rw [List.length_map, lr2, sizeLine_eq]; show i + 1 ≤ _; omega, fun u hu => ?_⟩
                  have s19 := same_new hu (.lst (r.map V.str ++ [V.str b]))
                  have hu19 : upd (upd H17 c (.lst [V.str b])) u (.lst (r.map V.str ++ [V.str b])) u = some (.lst ((r ++ [b]).map V.str)) := by rw [upd_same, List.map_append]; rfl
                  have s1719 := s18.trans s19
                  have hD19 := s1719 _ _ hD17
                  have lw19 := lw.move s1719
                  generalize upd (upd H17 c (.lst [V.str b])) u (.lst (r.map V.str ++ [V.str b])) = H19 at s1719 hu19 hD19 lw19 ⊢
                  refine ⟨_, hD19, by rw [List.length_map]; exact small1000 (by omega), ws ++ [u], same_put (s17.trans s1719) hD, by rw [upd_same, List.map_append]; rfl, ?_⟩
                  rw [List.take_add_one, hb, List.map_append]
                  refine (lw19.app (LstL.one hu19)).put hD19 fun z hz => ?_
                  rcases List.mem_append.mp hz with hz | hz
                  · obtain ⟨b', _, rfl⟩ := List.mem_map.mp hz
                    simp
                  · rw [List.mem_singleton.mp hz]
                    simp
                · rintro H17 ⟨ws, s17, hD17, lw⟩
                  rw [List.length_map, List.take_length] at lw
                  have lws : ws.length ≤ 7 := by
                    rw [lw.1, List.length_map]
                    omega
                  refine ⟨L, D, _, _, rfl, rfl, s17 _ _ hL16, hD17, by rw [List.length_map, List.length_map, sizeLine_eq]; omega, fun u hu => ?_⟩
                  have s18 := same_new hu (.lst (ls.map V.ref ++ ws.map V.ref))
                  refine ⟨u, ls ++ ws, _, rfl, s16.trans (s17.trans s18), by rw [upd_same, List.map_append], ?_⟩
                  rw [List.take_add_one, er, List.flatMap_append]
                  refine (ll.move (s17.trans s18)).app ?_
                  show LstL _ ws ([r].flatMap fun r => bs.map fun b => r ++ [b])
                  rw [List.flatMap_singleton]
                  exact lw.move s18
              · rintro σ H16 ⟨L, ls, y10, rfl, s16, hL16, ll⟩
                rw [List.length_map, lr.1, List.take_length] at ll
                refine ⟨_, rfl, _, rfl, G, R, _, _, rfl, rfl, s16 _ _ hG14, s16 _ _ hR14, ?_, fun C hC => ⟨_, rfl, _, _, rfl, L, C, ls, vs ++ us, _, _, _, rfl, fun _ _ h => h, ?_, ?_, ?_, ?_, ?_⟩⟩
                · rw [List.length_map, List.length_map, lg.1, lr.1, sizeLine_eq]
                  omega
                · exact s14.trans (s16.trans (same_new hC _))
                · exact same_new hC _ _ _ hL16
                · rw [upd_same, List.map_append]
                · exact ll.move (same_new hC _)
                · exact (lg.move (s16.trans (same_new hC _))).app (lr.move (s16.trans (same_new hC _)))
            · rintro σ H14 ⟨R, G, us, vs, y8, y9, y10, rfl, _, s14, hR14, hG14, lr, lg⟩
              rw [Int.toNat_natCast] at lr lg
              exact ⟨R, G, us, vs, n, y8, y9, y10, rfl, s14, hR14, hG14, lr, lg, n1, n2⟩
        · rintro σ H14 ⟨R, G, us, vs, n, y8, y9, y10, rfl, s14, hR14, hG14, lr, lg, n1, n2⟩
          have tn14 := tn13.same s14
          have n5 : n ≤ 5 ∧ (n ≠ 0 → bs.length ≤ 5) := by
            by_cases c : m < 7
            · have z1 := n1 c
              have z2 := mm c
              omega
            · have z1 := n2 c
              omega
          have lenR : (allRows bs n).length ≤ 20000 := by
            by_cases c : n = 0
            · subst c
              show 1 ≤ 20000
              decide
            · exact Nat.le_trans (rows_few (n5.2 c) n5.1) (by decide)
          have lenG : (allBelow bs n).length ≤ 20000 := by
            by_cases c : n = 0
            · subst c
              show 0 ≤ 20000
              decide
            · have z := below_few (n5.2 c) n5.1
              omega
          have nle : n ≤ (few bs os).length := by
            by_cases c : m < 7
            · exact Nat.le_of_eq (n1 c)
            · rw [n2 c]
              exact Nat.zero_le _
          refine un_seq (un_if (filt_read (R := G) 7 _ rfl rfl tn14 hG14 lg (fun r hr' => ?_) lenG fun D H15 ds s15 hD15 ld => ?_))
          · obtain ⟨k, hk, hr'⟩ := allBelow_mem hr'
            obtain ⟨z1, z2⟩ := (allRows_mem bs k r).mp hr'
            exact ⟨by omega, z2⟩
          rw [few_below bsOk.nd tn.pm nle] at ld
          have ed : ds = [] := List.eq_nil_of_length_eq_zero ld.1
          subst ed
          refine ⟨Nat.zero_le _, fun Nl hNl => ?_⟩
          have s16 := same_new hNl (.lst [])
          refine ⟨.list [], .list [], .lst (sql (s16 _ _ hD15)) .nil, .lst (sql upd_same) .nil, by decide +kernel, by decide +kernel, false, by simp [PyData.eqv, PyData.eqvAll], ?_⟩
          have s1416 := s15.trans s16
          have tn16 := tn14.same s1416
          refine un_seq (un_asg (filt_read (R := R) 6 _ rfl rfl tn16 (s1416 _ _ hR14) (lr.move s1416) (fun r hr' => ?_) lenR fun D2 H17 es s17 hD17 le17 => ?_))
          · obtain ⟨z1, z2⟩ := (allRows_mem bs n r).mp hr'
            exact ⟨by omega, z2⟩
          have s1417 := s1416.trans s17
          have htold17 := s1417 _ _ (s14 _ _ htold13)
          have hZ17 := s1417 _ _ (s14 _ _ hZ13)
          have tn17 := tn16.same s17
          refine ⟨_, rfl, _, _, rfl, rfl, _, rfl, ite2 (fun c => ?_) (fun _ => ?_)⟩
          · have c' : m < 7 := of_decide_eq_true c
            rw [n1 c', few_only bsOk.nd tn.pm] at le17
            refine ⟨_, rfl, _, rfl, (by show 1 ≤ sizeLine; decide), fun W hW => ?_⟩
            have s18 := same_new hW (.lst [V.ref told])
            have okF : ∀ b ∈ few bs os, PyData.strOk b = true := fun b hb => books_ok b (bsOk.ok b (mfew b hb))
            have fF : Fine 2 (.list [.list ((few bs os).map PyData.str)]) := ⟨by show 1 ≤ 1000; decide, fun d hd => by rw [List.mem_singleton.mp hd]; exact fine_strs (ss := few bs os) (by omega) okF 0⟩
            have d1 : Dp K (upd H17 W (.lst [V.ref told])) (.ref D2) (.list [.list ((few bs os).map PyData.str)]) := .lst (sql (s18 _ _ hD17)) (le17.move s18).dp
            have d2 : Dp K (upd H17 W (.lst [V.ref told])) (.ref W) (.list [.list ((few bs os).map PyData.str)]) := .lst (sql upd_same) (.cons (.lst (sql (s18 _ _ htold17)) (dpAll_strs _)) .nil)
            refine ⟨_, _, d1, d2, fine_shaped fF (by decide), fine_shaped fF (by decide), false, by rw [fine_eqv fF]; rfl, ?_⟩
            exact ⟨_, _, _, _, _, _, _, _, _, _, rfl, (tn17.same s18).tp, s18 _ _ hZ17⟩
          · exact ⟨_, _, _, _, _, _, _, _, _, _, rfl, tn17.tp, hZ17⟩
  · rintro σ H' ⟨y2, y3, y4, y5, y6, y7, y8, y9, y10, y11, rfl, tp2, hZ2⟩
    exact q _
end
end Lt

set_option Elab.async false
set_option linter.all false
set_option maxRecDepth 100000
set_option maxHeartbeats 4000000
namespace Lt
open PySem PySem.Spec PyProof.Rows L2
theorem all_mk {l : PySem.W.OpenLaw} {w : World} {K : PySem.W.Frag} {h : Heap} {mg : Str → Option Value} {fa f0 f1 f2 f3 f4 f5 f6 f7 f8 : Addr} (X : K.In h) (G : h.Ns mainGlobals mg) (hfa : mg "law" = some (.ref fa))
    {od0 an0 od1 an1 od2 an2 od3 an3 od4 an4 od5 an5 od6 an6 od7 an7 od8 an8 : Option Addr} {sl0 sl1 sl2 sl3 sl4 sl5 sl6 sl7 sl8 : Array (Option Value)}
    {oc0 kv0 dc0 pm0 cd0 ct0 oc1 kv1 dc1 pm1 cd1 ct1 oc2 kv2 dc2 pm2 cd2 ct2 oc3 kv3 dc3 pm3 cd3 ct3 oc4 kv4 dc4 pm4 cd4 ct4 oc5 kv5 dc5 pm5 cd5 ct5 oc6 kv6 dc6 pm6 cd6 ct6 oc7 kv7 dc7 pm7 cd7 ct7 oc8 kv8 dc8 pm8 cd8 ct8 : Value}
    (a0 : PySem.W.nsIn K mainGlobals "fewest_to" = some (some (.ref f0)))
    (l0 : K.lookup f0 = some ⟨oc0, od0, .func (PySem.W.fnOf "fewest_to" "fewest_to" (defArgs sFew) (defBody sFew) (defScope sFew) .none kv0 dc0 pm0 an0 cd0 ct0), sl0⟩)
    (c0 : PySem.W.codeIn K cd0 "fewest_to" = true) (k0 : PySem.W.keepIn K (.ref f0) = true)
    (a1 : PySem.W.nsIn K mainGlobals "_law_draw" = some (some (.ref f1)))
    (l1 : K.lookup f1 = some ⟨oc1, od1, .func (PySem.W.fnOf "_law_draw" "_law_draw" (defArgs sDraw) (defBody sDraw) (defScope sDraw) .none kv1 dc1 pm1 an1 cd1 ct1), sl1⟩)
    (c1 : PySem.W.codeIn K cd1 "_law_draw" = true) (k1 : PySem.W.keepIn K (.ref f1) = true)
    (a2 : PySem.W.nsIn K mainGlobals "_law_any_order" = some (some (.ref f2)))
    (l2 : K.lookup f2 = some ⟨oc2, od2, .func (PySem.W.fnOf "_law_any_order" "_law_any_order" (defArgs sOrder) (defBody sOrder) (defScope sOrder) .none kv2 dc2 pm2 an2 cd2 ct2), sl2⟩)
    (c2 : PySem.W.codeIn K cd2 "_law_any_order" = true) (k2 : PySem.W.keepIn K (.ref f2) = true)
    (a3 : PySem.W.nsIn K mainGlobals "_law_books" = some (some (.ref f3)))
    (l3 : K.lookup f3 = some ⟨oc3, od3, .func (PySem.W.fnOf "_law_books" "_law_books" (defArgs sBooks) (defBody sBooks) (defScope sBooks) .none kv3 dc3 pm3 an3 cd3 ct3), sl3⟩)
    (c3 : PySem.W.codeIn K cd3 "_law_books" = true) (k3 : PySem.W.keepIn K (.ref f3) = true)
    (a4 : PySem.W.nsIn K mainGlobals "_law_pile" = some (some (.ref f4)))
    (l4 : K.lookup f4 = some ⟨oc4, od4, .func (PySem.W.fnOf "_law_pile" "_law_pile" (defArgs sPile) (defBody sPile) (defScope sPile) .none kv4 dc4 pm4 an4 cd4 ct4), sl4⟩)
    (c4 : PySem.W.codeIn K cd4 "_law_pile" = true) (k4 : PySem.W.keepIn K (.ref f4) = true)
    (a5 : PySem.W.nsIn K mainGlobals "_law_readings" = some (some (.ref f5)))
    (l5 : K.lookup f5 = some ⟨oc5, od5, .func (PySem.W.fnOf "_law_readings" "_law_readings" (defArgs sReadings) (defBody sReadings) (defScope sReadings) .none kv5 dc5 pm5 an5 cd5 ct5), sl5⟩)
    (c5 : PySem.W.codeIn K cd5 "_law_readings" = true) (k5 : PySem.W.keepIn K (.ref f5) = true)
    (a6 : PySem.W.nsIn K mainGlobals "_law_read" = some (some (.ref f6)))
    (l6 : K.lookup f6 = some ⟨oc6, od6, .func (PySem.W.fnOf "_law_read" "_law_read" (defArgs sRead) (defBody sRead) (defScope sRead) .none kv6 dc6 pm6 an6 cd6 ct6), sl6⟩)
    (c6 : PySem.W.codeIn K cd6 "_law_read" = true) (k6 : PySem.W.keepIn K (.ref f6) = true)
    (a7 : PySem.W.nsIn K mainGlobals "_law_staying" = some (some (.ref f7)))
    (l7 : K.lookup f7 = some ⟨oc7, od7, .func (PySem.W.fnOf "_law_staying" "_law_staying" (defArgs sStay) (defBody sStay) (defScope sStay) .none kv7 dc7 pm7 an7 cd7 ct7), sl7⟩)
    (c7 : PySem.W.codeIn K cd7 "_law_staying" = true) (k7 : PySem.W.keepIn K (.ref f7) = true)
    (a8 : PySem.W.nsIn K mainGlobals "law" = some (some (.ref f8)))
    (l8 : K.lookup f8 = some ⟨oc8, od8, .func (PySem.W.fnOf "law" "law" (defArgs sLaw) (defBody sLaw) (defScope sLaw) .none kv8 dc8 pm8 an8 cd8 ct8), sl8⟩)
    (c8 : PySem.W.codeIn K cd8 "law" = true) (k8 : PySem.W.keepIn K (.ref f8) = true)
    (z0 : PySem.W.nsIn K mainGlobals "len" = some none)
    (z1 : PySem.W.nsIn K mainGlobals "range" = some none)
    (z2 : PySem.W.nsIn K mainGlobals "tuple" = some none)
    (z3 : PySem.W.nsIn K mainGlobals "list" = some none)
    (z4 : PySem.W.nsIn K mainGlobals "sorted" = some none)
    (z5 : PySem.W.nsIn K mainGlobals "enumerate" = some none)
    (z6 : PySem.W.nsIn K mainGlobals "isinstance" = some none)
    (z7 : PySem.W.nsIn K mainGlobals "bool" = some none)
    (z8 : PySem.W.nsIn K mainGlobals "set" = some none)
    (z9 : PySem.W.nsIn K mainGlobals "sum" = some none)
    (z10 : PySem.W.nsIn K mainGlobals "min" = some none)
    (z11 : PySem.W.nsIn K mainGlobals "max" = some none)
    (z12 : PySem.W.nsIn K mainGlobals "dict" = some none)
    (z13 : PySem.W.nsIn K mainGlobals "reversed" = some none)
    (z14 : PySem.W.nsIn K mainGlobals "all" = some none)
    (z15 : PySem.W.nsIn K mainGlobals "any" = some none)
    (z16 : PySem.W.nsIn K mainGlobals "int" = some none)
    (z17 : PySem.W.nsIn K mainGlobals "str" = some none)
    (z18 : PySem.W.nsIn K mainGlobals "zip" = some none)
    : ∃ fd : FuncData, (∀ (s : Shared) (v : Value), BindsTo s fd ⟨[v], []⟩ [("script", v)]) ∧ ∀ base : Heap, K.In base → base.Ns mainGlobals mg → FnOk l.prog w K mg base CX0 4 fa fd ["script"] (spLaw K) := by
  have e := hfa.symm.trans (PySem.W.mg_of X G a8)
  cases e
  have B : Bi mg := ⟨PySem.W.mg_none_of X G z0, PySem.W.mg_none_of X G z1, PySem.W.mg_none_of X G z2, PySem.W.mg_none_of X G z3, PySem.W.mg_none_of X G z4, PySem.W.mg_none_of X G z5, PySem.W.mg_none_of X G z6, PySem.W.mg_none_of X G z7, PySem.W.mg_none_of X G z8, PySem.W.mg_none_of X G z9, PySem.W.mg_none_of X G z10, PySem.W.mg_none_of X G z11, PySem.W.mg_none_of X G z12, PySem.W.mg_none_of X G z13, PySem.W.mg_none_of X G z14, PySem.W.mg_none_of X G z15, PySem.W.mg_none_of X G z16, PySem.W.mg_none_of X G z17, PySem.W.mg_none_of X G z18⟩
  have F0 := fun_mk (st := sFew) l0 c0 k0
  have b0 := F0.binds (ps := ["pile", "other"]) fun _ _ _ _ _ _ us hl => match us, hl with | [_, _], _ => rfl
  have g0 := PySem.W.mg_of X G a0
  have F1 := fun_mk (st := sDraw) l1 c1 k1
  have b1 := F1.binds (ps := ["tape", "many"]) fun _ _ _ _ _ _ us hl => match us, hl with | [_, _], _ => rfl
  have g1 := PySem.W.mg_of X G a1
  have F2 := fun_mk (st := sOrder) l2 c2 k2
  have b2 := F2.binds (ps := ["tape", "many"]) fun _ _ _ _ _ _ us hl => match us, hl with | [_, _], _ => rfl
  have g2 := PySem.W.mg_of X G a2
  have F3 := fun_mk (st := sBooks) l3 c3 k3
  have b3 := F3.binds (ps := []) fun _ _ _ _ _ _ us hl => match us, hl with | [], _ => rfl
  have g3 := PySem.W.mg_of X G a3
  have F4 := fun_mk (st := sPile) l4 c4 k4
  have b4 := F4.binds (ps := ["tape", "size"]) fun _ _ _ _ _ _ us hl => match us, hl with | [_, _], _ => rfl
  have g4 := PySem.W.mg_of X G a4
  have F5 := fun_mk (st := sReadings) l5 c5 k5
  have b5 := F5.binds (ps := ["tape", "books", "size"]) fun _ _ _ _ _ _ us hl => match us, hl with | [_, _, _], _ => rfl
  have g5 := PySem.W.mg_of X G a5
  have F6 := fun_mk (st := sRead) l6 c6 k6
  have b6 := F6.binds (ps := ["pile", "readings"]) fun _ _ _ _ _ _ us hl => match us, hl with | [_, _], _ => rfl
  have g6 := PySem.W.mg_of X G a6
  have F7 := fun_mk (st := sStay) l7 c7 k7
  have b7 := F7.binds (ps := ["pile", "other"]) fun _ _ _ _ _ _ us hl => match us, hl with | [_, _], _ => rfl
  have g7 := PySem.W.mg_of X G a7
  have F8 := fun_mk (st := sLaw) l8 c8 k8
  refine ⟨PySem.W.fnOf "law" "law" (defArgs sLaw) (defBody sLaw) (defScope sLaw) .none kv8 dc8 pm8 an8 cd8 ct8, fun s v => .of_eq rfl, fun base _ _ => ?_⟩
  have cD : Has l.prog w K mg base 1 "_law_draw" ["tape", "many"] spDraw := ⟨f1, _, ok_draw F1 B.len, g1, k1, b1⟩
  have cO : Has l.prog w K mg base 2 "_law_any_order" ["tape", "many"] spOrder := ⟨f2, _, ok_order F2 B cD, g2, k2, b2⟩
  have cB : Has l.prog w K mg base 1 "_law_books" [] spBooks := ⟨f3, _, ok_books F3, g3, k3, b3⟩
  have cPi : Has l.prog w K mg base 3 "_law_pile" ["tape", "size"] spPile := ⟨f4, _, ok_pile F4 B cD cO cB, g4, k4, b4⟩
  have cRe : Has l.prog w K mg base 2 "_law_readings" ["tape", "books", "size"] spReadings := ⟨f5, _, ok_readings F5 B cD, g5, k5, b5⟩
  have cRd : Has l.prog w K mg base 1 "_law_read" ["pile", "readings"] spRead := ⟨f6, _, ok_read F6 B, g6, k6, b6⟩
  have cSt : Has l.prog w K mg base 1 "_law_staying" ["pile", "other"] (spStay K) := ⟨f7, _, ok_stay F7 B, g7, k7, b7⟩
  have cFe : Has l.prog w K mg base 1 "fewest_to" ["pile", "other"] (spFew K) := ⟨f0, _, ok_few F0 B, g0, k0, b0⟩
  exact ok_law F8 B cD cO cPi cRe cRd cSt cFe
theorem walk {l : PySem.W.OpenLaw} {q : Program} {loose : List Str} {XP : (Str → Option Value) → Heap → Prop} {YP : World → Heap → Prop} {d : DefRec} {K : Params → PySem.W.Frag} (hn : l.most = some 63) (hdf : d.params.defaults = [])
    (hY : ∀ (w : World) (h : Heap), YP w h → (K w.params).In h)
    (F : ∀ (w : World) (mg : Str → Option Value) (fa : Addr) (h : Heap), (K w.params).In h → h.Ns mainGlobals mg → mg d.name = some (.ref fa) →
      ∃ fd : FuncData, (∀ (s : Shared) (u : Value), BindsTo s fd ⟨[u], []⟩ [("script", u)]) ∧ ∀ base : Heap, (K w.params).In base → base.Ns mainGlobals mg → FnOk l.prog w (K w.params) mg base CX0 4 fa fd ["script"] (spLaw (K w.params))) :
    PySem.W.WalkO q loose XP YP l.row.toRowW d [] (fun f vs => PySem.call f vs) :=
  L2.walk_of (n := 63) (k := 4) (x := "script") (CX := fun _ => CX0) (sp := fun w => spLaw (K w.params)) hn (by decide) hdf ⟨rfl, by decide, by decide⟩ hY F (fun _ _ a ns hl _ hS => ⟨a, ns, rfl, hS, hl, fun _ => rfl⟩) fun _ _ _ _ _ z => z
end Lt
open PySem PySem.W PyProof.Rows in
set_option maxRecDepth 100000 in
set_option maxHeartbeats 0 in
theorem PySem.Challenge.cw_laidontop_k09_whole_fewest_readings_to_a_holds : PySem.Challenge.rw_laidontop_k09_whole_fewest_readings_to_a.Holds := by
  w_on; o_law; k_head; (case hw => w_witness2)
  k_fill
  refine Lt.walk (l := PySem.Challenge.rw_laidontop_k09_whole_fewest_readings_to_a) rfl rfl (fun w h Y => PySem.W.kIn_of Y) ?F
  case F =>
    intro w mg fa h KX G hmg
    refine' Lt.all_mk KX G hmg ?a0 ?l0 ?c0 ?k0 ?a1 ?l1 ?c1 ?k1 ?a2 ?l2 ?c2 ?k2 ?a3 ?l3 ?c3 ?k3 ?a4 ?l4 ?c4 ?k4 ?a5 ?l5 ?c5 ?k5 ?a6 ?l6 ?c6 ?k6 ?a7 ?l7 ?c7 ?k7 ?a8 ?l8 ?c8 ?k8 ?z0 ?z1 ?z2 ?z3 ?z4 ?z5 ?z6 ?z7 ?z8 ?z9 ?z10 ?z11 ?z12 ?z13 ?z14 ?z15 ?z16 ?z17 ?z18
    (case a0 => k_is)
    (case l0 => k_is)
    (case c0 => k_is)
    (case k0 => k_is)
    (case a1 => k_is)
    (case l1 => k_is)
    (case c1 => k_is)
    (case k1 => k_is)
    (case a2 => k_is)
    (case l2 => k_is)
    (case c2 => k_is)
    (case k2 => k_is)
    (case a3 => k_is)
    (case l3 => k_is)
    (case c3 => k_is)
    (case k3 => k_is)
    (case a4 => k_is)
    (case l4 => k_is)
    (case c4 => k_is)
    (case k4 => k_is)
    (case a5 => k_is)
    (case l5 => k_is)
    (case c5 => k_is)
    (case k5 => k_is)
    (case a6 => k_is)
    (case l6 => k_is)
    (case c6 => k_is)
    (case k6 => k_is)
    (case a7 => k_is)
    (case l7 => k_is)
    (case c7 => k_is)
    (case k7 => k_is)
    (case a8 => k_is)
    (case l8 => k_is)
    (case c8 => k_is)
    (case k8 => k_is)
    (case z0 => k_is)
    (case z1 => k_is)
    (case z2 => k_is)
    (case z3 => k_is)
    (case z4 => k_is)
    (case z5 => k_is)
    (case z6 => k_is)
    (case z7 => k_is)
    (case z8 => k_is)
    (case z9 => k_is)
    (case z10 => k_is)
    (case z11 => k_is)
    (case z12 => k_is)
    (case z13 => k_is)
    (case z14 => k_is)
    (case z15 => k_is)
    (case z16 => k_is)
    (case z17 => k_is)
    (case z18 => k_is)
