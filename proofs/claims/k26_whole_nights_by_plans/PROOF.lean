import PyProof.Rows.All
import Wide.All
import OpenK.AllK
import Wide.FinOn
import PySem.Challenge.RW_flameward_k26_whole_nights_by_plans
import HandS.ForMost
import HandS.Deep
import KE.KDictKeyed
import KE.KDictCopyH
import KE.KDictSum
import KE.SortData
import HandS.More
import HandS.Flow
import HandS.Walk
import HandS.Sort
import HandS.SortInts
import HandS.SortRule
import HandS.IsInst
import HandS.Lambda
import HandS.TupAny
import KE.GoesEnum
import HandS.Style
import HandS.Conv
import HandS.RevRange
import KE.KRevSl
import PyProof.FactsAll.subtypes_4
import KE.KRevIter
import HandS.RevTup
import KE.DataMinMax
import HandS.SortKw
import HandS.Words
import HandS.ListItems
import HandS.DictTup
import HandS.Keys
import HandS.ForDict
import HandS.ForList
set_option Elab.async false
set_option linter.all false
set_option maxRecDepth 100000
/-! Dicts whose keys are whole numbers in tuples, nested, as objects of the hand layer; sorted of one. -/
namespace L2D
open PySem PySem.Spec PyProof.Rows L2
mutual
def nkP : PyData → NestedKey
  | .int i => .num i
  | .tuple xs => .tup (nkPs xs)
  | _ => .none
def nkPs : List PyData → List NestedKey
  | [] => []
  | x :: r => nkP x :: nkPs r
end
mutual
def keyP : PyData → Bool
  | .int _ => true
  | .tuple xs => keyPs xs
  | _ => false
def keyPs : List PyData → Bool
  | [] => true
  | x :: r => keyP x && keyPs r
end
mutual
theorem nested_reads {h : Heap} : ∀ {d : PyData} {v : Value} {as : List Addr}, Reads h v d as → keyP d = true → NestedIs h (nkP d) v
  | _, _, _, .none, k => by simp [keyP] at k
  | _, _, _, .bool b, k => by simp [keyP] at k
  | _, _, _, .int i t, _ => .int i t
  | _, _, _, .str x t, k => by simp [keyP] at k
  | _, _, _, .list h1 h2 h3 h4, k => by simp [keyP] at k
  | _, _, _, .tuple h1 h2 h3 h4, k => .tup h1 h2 h3 (nested_all h4 k)
  | _, _, _, .dict h1 h2 h3 h4 h5, k => by simp [keyP] at k
theorem nested_all {h : Heap} : ∀ {ds : List PyData} {vs : List Value} {as : List Addr}, ReadsAll h vs ds as → keyPs ds = true → NestedAll h (nkPs ds) vs
  | _, _, _, .nil, _ => .nil
  | _, _, _, .cons r t, k => by
    have k' := Bool.and_eq_true_iff.mp k
    exact .cons (nested_reads r k'.1) (nested_all t k'.2)
end
mutual
theorem nkP_inj : ∀ {d e : PyData}, keyP d = true → keyP e = true → nkP d = nkP e → d = e
  | .int i, .int j, _, _, h => by cases h; rfl
  | .tuple xs, .tuple ys, k1, k2, h => by
    have h' : nkPs xs = nkPs ys := NestedKey.tup.inj h
    rw [nkPs_inj k1 k2 h']
  | .int i, .tuple ys, _, _, h => by cases h
  | .tuple ys, .int i, _, _, h => by cases h
  | .none, _, k, _, _ => by simp [keyP] at k
  | .bool _, _, k, _, _ => by simp [keyP] at k
  | .str _, _, k, _, _ => by simp [keyP] at k
  | .list _, _, k, _, _ => by simp [keyP] at k
  | .dict _, _, k, _, _ => by simp [keyP] at k
  | _, .none, _, k, _ => by simp [keyP] at k
  | _, .bool _, _, k, _ => by simp [keyP] at k
  | _, .str _, _, k, _ => by simp [keyP] at k
  | _, .list _, _, k, _ => by simp [keyP] at k
  | _, .dict _, _, k, _ => by simp [keyP] at k
theorem nkPs_inj : ∀ {ds es : List PyData}, keyPs ds = true → keyPs es = true → nkPs ds = nkPs es → ds = es
  | [], [], _, _, _ => rfl
  | d :: ds, e :: es, k1, k2, h => by
    have k1' := Bool.and_eq_true_iff.mp k1
    have k2' := Bool.and_eq_true_iff.mp k2
    have h0 : nkP d :: nkPs ds = nkP e :: nkPs es := h
    rw [List.cons.injEq] at h0
    rw [nkP_inj k1'.1 k2'.1 h0.1, nkPs_inj k1'.2 k2'.2 h0.2]
  | [], _ :: _, _, _, h => by cases h
  | _ :: _, [], _, _, h => by cases h
end
/-- the dict at a: its keys (told and by their tuples) and values -/
abbrev Ent := NestedKey × Addr × Value
def DicAt (P : Program) (w : World) (a : Addr) (xs : List Ent) (h : Heap) : Prop := ∃ o es ep, h.get? a = some o ∧ o.ExactDict ∧ o.data = .dict es ep ∧ es.toList = xs.map (entryOfKey (nestedKind P w)) ∧ (xs.map (·.1)).Nodup ∧ (a == sysModules) = false
def DicO (P : Program) (w : World) (a : Addr) (xs : List Ent) : HO := .ext (DicAt P w a xs)
theorem dicO_new {P : Program} {w : World} {H : Hp} {h : Heap} {a : Addr} {xs : List Ent} (R : DicAt P w a xs h) : ObjOk P w H h a (DicO P w a xs) := by
  obtain ⟨o, es, ep, h1, h2⟩ := id R
  refine ⟨R, ⟨o, h1⟩, fun g1 g2 ⟨o, es, ep, e1, e2⟩ k => ⟨o, es, ep, k _ e1, e2⟩⟩
section
variable {X : Cx} {pins : List (Addr × Obj)} {σ : L2.St} {H : Hp} {s : Shared}
/-- {} -/
def tDicNew (P : Program) (w : World) : TE := fun _ H Q => ∀ p, H p = none → Q (.ref p) (upd H p (DicO P w p []))
theorem pe_dicNew {pos : Pos} : PE X (.Dict [] [] pos) (tDicNew X.prog X.w) := ⟨fun pins s σ H Q I h =>
  wpAny_Dict_empty ⟨.ref s.heap.objs.size, _, I.laid (a := s.heap.objs.size) (o := DicO X.prog X.w s.heap.objs.size []) (t' := s.toks) (fun _ _ q => Heap.get?_push_of_some _ q) (Nat.le_refl _)
    (dicO_new ⟨_, #[], 0, Heap.get?_push_size _ rfl, ⟨rfl, rfl, rfl⟩, rfl, rfl, List.nodup_nil, beq_eq_false_iff_ne.mpr (Ne.symm (Nat.ne_of_lt I.big))⟩), rfl, h _ (I.hok.fresh (Nat.le_refl _))⟩⟩
/-- the tuple at b is the key of the data d -/
structure KeyAt (K : PySem.W.Frag) (H : Hp) (b : Addr) (d : PyData) : Prop where
  dp : Dp K H (.ref b) d
  key : keyP d = true
  dep : (nkP d).depth ≤ 8
theorem KeyAt.is (I : Inv X pins σ H s) {b : Addr} {d : PyData} (k : KeyAt X.K H b d) : (nestedKind X.prog X.w).is s.heap (nkP d) b := by
  obtain ⟨as, r⟩ := Dp.reads I d (.ref b) (.ref b) k.dp rfl
  exact ⟨nested_reads r k.key, k.dep⟩
/-- the keys of the dict, by data -/
def KeysAt (K : PySem.W.Frag) (H : Hp) (xs : List Ent) (ds : List PyData) : Prop := Paired (fun (x : Ent) (d : PyData) => KeyAt K H x.2.1 d ∧ x.1 = nkP d) xs ds
theorem KeysAt.ok (I : Inv X pins σ H s) : ∀ {xs : List Ent} {ds : List PyData}, KeysAt X.K H xs ds → ∀ x ∈ xs, (nestedKind X.prog X.w).is s.heap x.1 x.2.1
  | _, _, .cons h t, x, hx => by
    rcases List.mem_cons.mp hx with rfl | hx
    · rw [h.2]; exact h.1.is I
    · exact KeysAt.ok I t x hx
  | _, _, .nil, x, hx => by cases hx
theorem dic_of (I : Inv X pins σ H s) {a : Addr} {xs : List Ent} {ds : List PyData} (hd : H a = some (DicO X.prog X.w a xs)) (k : KeysAt X.K H xs ds) : s.heap.DictOfH (nestedKind X.prog X.w) a xs := by
  obtain ⟨⟨o, es, ep, h1, h2, h3, h4, h5, _⟩, _⟩ := I.hok a _ hd
  exact ⟨o, es, ep, h1, h2, h3, h4, k.ok I, h5⟩
/-- d[k] = v -/
def rDicSet (X : Cx) : TSet := fun o i _ H Q => ∃ (a b : Addr) (xs : List Ent) (ds : List PyData) (d : PyData), o = .ref a ∧ i = .ref b ∧ H a = some (DicO X.prog X.w a xs) ∧ KeysAt X.K H xs ds ∧ KeyAt X.K H b d ∧ xs.length ≤ sizeLine ∧
  ∀ u, Q (upd H a (DicO X.prog X.w a (storedH xs (nkP d) b u)))
theorem set_dic (hu : X.A.units + 64 < cLine) : PSet X (rDicSet X) := by
  intro pins s σ H o i v ov iv u Q I r1 r2 r3 h
  obtain ⟨a, b, xs, ds, d, rfl, rfl, hH, ks, k, hz, q⟩ := h
  cases r1; cases r2
  have hm := dic_of I hH ks
  have hne : (a == sysModules) = false := by
    obtain ⟨⟨o, es, ep, h1, h2, h3, h4, h5, h6⟩, _⟩ := I.hok a _ hH
    exact h6
  refine wpAny_setItem_heap (knd := nestedKind X.prog X.w) (hu := by show X.A.in1.units + 8 < cLine; have : X.A.in1.units = X.A.units + 1 := rfl; omega) (hkey := k.is I) (hm := hm) (fun h' hm' hs => ?_) hz
  obtain ⟨o, es, ep, g1, g2, g3, g4, _, g5⟩ := hm'
  exact ⟨_, I.write (x := a) (e := a) (o := DicO X.prog X.w a (storedH xs (nkP d) b u)) (by rw [hH]; trivial) (.inl rfl) (fun c z hc hz => (hs.2 c hc).trans hz) ⟨_, g1⟩ (dicO_new ⟨o, es, ep, g1, g2, g3, g4, g5, hne⟩), q u⟩
end
end L2D
set_option Elab.async false
set_option linter.all false
set_option maxRecDepth 100000
namespace L2D
open PySem PySem.Spec PyProof.Rows L2
section
variable {X : Cx}
mutual
theorem reads_nil {h : Heap} : ∀ {d : PyData} {v : Value} {as : List Addr}, Reads h v d as → keyP d = true → as = []
  | _, _, _, .none, k => by simp [keyP] at k
  | _, _, _, .bool b, k => by simp [keyP] at k
  | _, _, _, .int i t, _ => rfl
  | _, _, _, .str x t, k => by simp [keyP] at k
  | _, _, _, .list h1 h2 h3 h4, k => by simp [keyP] at k
  | _, _, _, .tuple h1 h2 h3 h4, k => reads_nils h4 k
  | _, _, _, .dict h1 h2 h3 h4 h5, k => by simp [keyP] at k
theorem reads_nils {h : Heap} : ∀ {ds : List PyData} {vs : List Value} {as : List Addr}, ReadsAll h vs ds as → keyPs ds = true → as = []
  | _, _, _, .nil, _ => rfl
  | _, _, _, .cons r t, k => by
    have k' := Bool.and_eq_true_iff.mp k
    rw [reads_nil r k'.1, reads_nils t k'.2]; rfl
end
def rSortedDic (X : Cx) : List V → Hp → VK → Prop := fun vs H Q => ∃ (a : Addr) (xs : List Ent) (ds : List PyData), vs = [.ref a] ∧ H a = some (DicO X.prog X.w a xs) ∧ KeysAt X.K H xs ds ∧ PySem.W.AllAlike ds ∧
  (∀ d ∈ ds, ∃ x r, d = .tuple (x :: r)) ∧ (∀ d ∈ ds, d.depth ≤ 8) ∧ xs.length ≤ sizeLine ∧ ∀ (ys : List V) (p : Addr), ys.Perm (xs.map fun x => V.ref x.2.1) → H p = none → Q (.ref p) (upd H p (.lst ys))
theorem perm_each {α β : Type} {f : α → β → Prop} : ∀ {vs : List α} {bs : List β}, PySem.W.EachIs f vs bs → vs.length = bs.length
  | _, _, .nil => rfl
  | _, _, .cons _ t => by rw [List.length_cons, List.length_cons, perm_each t]
theorem vals_each {β : Type} {g : β → V} : ∀ {vs : List Value} {bs : List β}, PySem.W.EachIs (fun v b => RelV (g b) v) vs bs → Vals (bs.map g) vs
  | _, _, .nil => .nil
  | _, _, .cons h t => .cons h (vals_each t)
theorem call_sortedDic (hcalm : X.calm = true) (hu : X.A.units + 64 < cLine) : CallR X (.builtin "sorted") (rSortedDic X) := by
  intro pins s σ H xs us Q I r q
  obtain ⟨a, es, ds, ex, hd, ks, hal, hne, hdep, hz, q⟩ := q
  subst ex
  obtain ⟨u, eu, rx⟩ := vals1 r
  subst eu
  cases rx
  obtain ⟨⟨o, ar, ep, h1, h2, h3, h4, h5, lo⟩, _⟩ := I.hok a _ hd
  have hsz : ar.size = es.length := by rw [← Array.length_toList, h4, List.length_map]
  refine Calls.call_function_entry PyProof.Rows.kind_sorted PyProof.Rows.plain_sorted PyProof.Rows.entry_sorted (PyProof.Rows.args_sorted1 _) ?_
  unfold Builtin.«sorted»
  refine wpAny_bind (m := checkCount "sorted" 1 1 _) (wpAny_pure ?_)
  refine wpAny_bind (PySem.W.kdu_collect (A := X.A.in1) (PySem.KdlSrc.rawDict (es := ar) (ep := ep) lo) (I.ok.hd hcalm) ⟨o, h1, h2, h3⟩ (by rw [hsz]; exact hz) fun h' tk acc hk hacc => ?_)
  have hacl : acc.toList = es.map fun x => Value.ref x.2.1 := by
    refine List.ext_getElem? fun i => ?_
    rw [List.getElem?_map]
    by_cases hi : i < es.length
    · have hi2 : i < acc.toList.length := by rw [Array.length_toList, hacc.1, hsz]; exact hi
      obtain ⟨hi3, e⟩ := hacc.2 i acc.toList[i] (by rw [← Array.getElem?_toList, List.getElem?_eq_getElem hi2])
      rw [List.getElem?_eq_getElem hi2, e, List.getElem?_eq_getElem hi]
      have h6 : ar.toList[i]? = (es[i]?).map (entryOfKey (nestedKind X.prog X.w)) := by rw [h4, List.getElem?_map]
      rw [Array.getElem?_toList, Array.getElem?_eq_getElem hi3, List.getElem?_eq_getElem hi] at h6
      have h7 := Option.some.inj h6
      rw [h7]; rfl
    · rw [List.getElem?_eq_none (by rw [Array.length_toList, hacc.1, hsz]; omega), List.getElem?_eq_none (by omega)]; rfl
  have I1 : Inv X pins σ H { s with heap := h', toks := tk } := I.kept hk
  have hlen : acc.toList.length = es.length := by rw [hacl, List.length_map]
  refine wpAny_bind (wpAny_newList ?_ (by rw [hlen]; exact hz))
  have hoL : (h'.push (seqObj "list" acc.toList.toArray 0)).get? h'.objs.size = some (seqObj "list" acc.toList.toArray 0) := Heap.get?_push_size _ rfl
  show wpAny _ _ _ _ _ { s with heap := h'.push (seqObj "list" acc.toList.toArray 0), toks := tk }
  have I2 : Inv X pins σ H { s with heap := h'.push (seqObj "list" acc.toList.toArray 0), toks := tk } := I.kept fun b o e => Heap.get?_push_of_some _ (hk b o e)
  -- the items, with their data
  have pair : ∀ {zs : List Ent} {dd : List PyData}, KeysAt X.K H zs dd → ∃ bs : List (PyData × V), bs.map (·.1) = dd ∧ bs.map (·.2) = zs.map (fun x => V.ref x.2.1) ∧ PySem.W.EachIs (fun (v : Value) (b : PyData × V) => RelV b.2 v) (zs.map fun x => Value.ref x.2.1) bs ∧
      PySem.W.EachIs (fun (v : Value) (b : PyData × V) => ∃ as, Reads (h'.push (seqObj "list" acc.toList.toArray 0)) v b.1 as ∧ h'.objs.size ∉ as) (zs.map fun x => Value.ref x.2.1) bs := by
    intro zs dd k
    induction k with
    | nil => exact ⟨[], rfl, rfl, .nil, .nil⟩
    | @cons x d xs' ds' h t ih =>
      obtain ⟨bs, e1, e2, e3, e4⟩ := ih
      obtain ⟨as, ra⟩ := Dp.reads I1 d (.ref x.2.1) (.ref x.2.1) h.1.dp rfl
      refine ⟨(d, .ref x.2.1) :: bs, by rw [List.map_cons, e1], by rw [List.map_cons, e2, List.map_cons], .cons rfl e3, .cons ⟨as, ?_, ?_⟩ e4⟩
      · exact PyProof.Rows.Reads.keeps (fun b o e => Heap.get?_push_of_some _ e) ra
      · rw [reads_nil ra h.1.key]; exact List.not_mem_nil
  obtain ⟨bs, e1, e2, e3, e4⟩ := pair ks
  rw [← hacl] at e3 e4
  have hbl : bs.length = es.length := by have := congrArg List.length e2; rwa [List.length_map, List.length_map] at this
  refine wpAny_bind (wpAny_holding (PySem.W.list_sort_data (enc := fun b : PyData × V => b.1) hoL e3 e4 (by rw [e1]; exact hal) (.inl (by rw [e1]; exact hne)) (by rw [hbl]; exact hz)
    (fun b hb => ?_) fun out hol hout => ?_))
  · have hd8 := hdep b.1 (by rw [← e1]; exact List.mem_map.mpr ⟨b, hb, rfl⟩)
    show X.A.units + 1 + 1 + b.1.depth < cLine
    omega
  obtain ⟨e', he'⟩ := PyProof.Rows.sortedHeap_at (vs := acc.toList) (out := out.toArray) hoL
  have hv : Vals ((bs.mergeSort (PySem.W.dataLe false fun b : PyData × V => b.1)).map (·.2)) out := vals_each hout
  have hp : ((bs.mergeSort (PySem.W.dataLe false fun b : PyData × V => b.1)).map (·.2)).Perm (es.map fun x => V.ref x.2.1) := by
    rw [← e2]
    exact (List.mergeSort_perm _ _).map _
  refine wpAny_pure ⟨_, rfl, .ref h'.objs.size, upd H h'.objs.size (.lst ((bs.mergeSort (PySem.W.dataLe false fun b : PyData × V => b.1)).map (·.2))), I1.laid (t' := tk) (fun b u e => ?_) (Nat.le_refl _)
    (show ObjOk X.prog X.w _ _ _ (.lst _) from ⟨by rw [hp.length_eq, List.length_map]; exact hz, out, e', hv, he'⟩), rfl, q _ _ hp (I1.hok.fresh (Nat.le_refl _))⟩
  have hb : b < h'.objs.size := Heap.lt_size e
  rw [PyProof.Rows.sortedHeap_old (Nat.ne_of_lt hb) (by rw [size_push']; exact Nat.lt_succ_of_lt hb)]
  exact Heap.get?_push_of_some _ e
end
end L2D
set_option Elab.async false
set_option linter.all false
set_option maxRecDepth 100000
/-! A layer of plain values over the hand layer: data d (no addresses), slots as data, readings as predicate transformers over these. -/
namespace AL
open PySem PySem.Spec PyProof.Rows L2

/-- plain values; raw: what is carried as it is (a def, a class, an object) -/
inductive D where
  | non | bl (b : Bool) | int (i : Int) | str (x : Str) | tup (xs : List D) | lst (xs : List D) | scr (ns : List Int) | raw (v : V) | dct (kvs : List (List Int × Int))

/-- the script, however it stands -/
def ScrAt (K : PySem.W.Frag) (M : Addr → Prop) (H : Hp) (a : Addr) (ns : List Int) : Prop :=
  (¬ M a ∧ H a = some (.lst (ns.map V.int))) ∨ (∃ o, H a = some (.frz o (.lst (ns.map V.int)))) ∨
    ∃ (o : Obj) (its : Array Value) (n : Nat), K.lookup a = some o ∧ o.cls = .type "list" ∧ o.dict = none ∧ o.data = .seq its n ∧ its.size ≤ sizeLine ∧ Vals (ns.map V.int) its.toList
theorem ScrAt.sq {K : PySem.W.Frag} {M : Addr → Prop} {H : Hp} {a : Addr} {ns : List Int} (h : ScrAt K M H a ns) : SqL K H a (ns.map V.int) := by
  rcases h with h | h | h
  · exact .inl (.inl h.2)
  · exact .inl (.inr h)
  · exact .inr h
mutual
/-- v is the value d, lists of it outside of M -/
inductive Rp (K : PySem.W.Frag) (M : Addr → Prop) (H : Hp) : V → D → Prop
  | non : Rp K M H .non .non
  | bl (b : Bool) : Rp K M H (.bl b) (.bl b)
  | int (i : Int) : Rp K M H (.int i) (.int i)
  | str (x : Str) : Rp K M H (.str x) (.str x)
  | tup {a : Addr} {vs : List V} {ds : List D} : H a = some (.tup vs) → RpAll K M H vs ds → Rp K M H (.ref a) (.tup ds)
  | lst {a : Addr} {vs : List V} {ds : List D} : ¬ M a → H a = some (.lst vs) → RpAll K M H vs ds → Rp K M H (.ref a) (.lst ds)
  | scr {a : Addr} {ns : List Int} : ScrAt K M H a ns → Rp K M H (.ref a) (.scr ns)
  | raw (v : V) : Rp K M H v (.raw v)
  | dct {a : Addr} {o : Obj} {kvs : List (List Int × Int)} : H a = some (.frz o (.dT (kvs.map fun kv => (kv.1.map Sum.inl, V.int kv.2)))) → Rp K M H (.ref a) (.dct kvs)
inductive RpAll (K : PySem.W.Frag) (M : Addr → Prop) (H : Hp) : List V → List D → Prop
  | nil : RpAll K M H [] []
  | cons {v : V} {vs : List V} {d : D} {ds : List D} : Rp K M H v d → RpAll K M H vs ds → RpAll K M H (v :: vs) (d :: ds)
end

/-- what was known and not in M stays, and does not come into M' -/
structure Step (M : Addr → Prop) (H : Hp) (M' : Addr → Prop) (H' : Hp) : Prop where
  st : ∀ a o, ¬ M a → H a = some o → ¬ M' a ∧ H' a = some o
  tu : ∀ a xs, H a = some (.tup xs) → H' a = some (.tup xs)
  fz : ∀ a o u, H a = some (.frz o u) → H' a = some (.frz o u)
theorem Step.refl {M : Addr → Prop} {H : Hp} : Step M H M H := ⟨fun _ _ h e => ⟨h, e⟩, fun _ _ e => e, fun _ _ _ e => e⟩
theorem Step.trans {M M1 M2 : Addr → Prop} {H H1 H2 : Hp} (a : Step M H M1 H1) (b : Step M1 H1 M2 H2) : Step M H M2 H2 :=
  ⟨fun c o h e => let ⟨x, y⟩ := a.st c o h e; b.st c o x y, fun c xs e => b.tu c xs (a.tu c xs e), fun c o u e => b.fz c o u (a.fz c o u e)⟩
theorem ScrAt.step {K : PySem.W.Frag} {M M' : Addr → Prop} {H H' : Hp} {a : Addr} {ns : List Int} (s : Step M H M' H') (h : ScrAt K M H a ns) : ScrAt K M' H' a ns := by
  rcases h with h | ⟨o, h⟩ | h
  · exact .inl (s.st _ _ h.1 h.2)
  · exact .inr (.inl ⟨o, s.fz _ _ _ h⟩)
  · exact .inr (.inr h)
mutual
theorem Rp.step {K : PySem.W.Frag} {M M' : Addr → Prop} {H H' : Hp} (s : Step M H M' H') : ∀ {d : D} {v : V}, Rp K M H v d → Rp K M' H' v d
  | _, _, .non => .non
  | _, _, .bl b => .bl b
  | _, _, .int i => .int i
  | _, _, .str x => .str x
  | _, _, .tup h r => .tup (s.tu _ _ h) (RpAll.step s r)
  | _, _, .lst hm h r => .lst (s.st _ _ hm h).1 (s.st _ _ hm h).2 (RpAll.step s r)
  | _, _, .scr h => .scr (h.step s)
  | _, _, .raw v => .raw v
  | _, _, .dct h => .dct (s.fz _ _ _ h)
theorem RpAll.step {K : PySem.W.Frag} {M M' : Addr → Prop} {H H' : Hp} (s : Step M H M' H') : ∀ {ds : List D} {vs : List V}, RpAll K M H vs ds → RpAll K M' H' vs ds
  | _, _, .nil => .nil
  | _, _, .cons h r => .cons (Rp.step s h) (RpAll.step s r)
end
theorem RpAll.length {K : PySem.W.Frag} {M : Addr → Prop} {H : Hp} : ∀ {vs : List V} {ds : List D}, RpAll K M H vs ds → vs.length = ds.length
  | _, _, .nil => rfl
  | _, _, .cons _ r => by rw [List.length_cons, List.length_cons, RpAll.length r]
theorem RpAll.get {K : PySem.W.Frag} {M : Addr → Prop} {H : Hp} : ∀ {vs : List V} {ds : List D} {i : Nat} {d : D}, RpAll K M H vs ds → ds[i]? = some d → ∃ v, vs[i]? = some v ∧ Rp K M H v d
  | _, _, _, _, .nil, e => by simp at e
  | _, _, 0, _, .cons r _, e => by simp at e; subst e; exact ⟨_, rfl, r⟩
  | _, _, i + 1, d, .cons _ t, e => by
    obtain ⟨v, h1, h2⟩ := RpAll.get (i := i) (d := d) t (by simpa using e)
    exact ⟨v, by simpa using h1, h2⟩
theorem RpAll.getV {K : PySem.W.Frag} {M : Addr → Prop} {H : Hp} {vs : List V} {ds : List D} {i : Nat} {v : V} (r : RpAll K M H vs ds) (e : vs[i]? = some v) : ∃ d, ds[i]? = some d ∧ Rp K M H v d := by
  have hi : i < ds.length := by rw [← r.length]; exact (List.getElem?_eq_some_iff.mp e).1
  obtain ⟨w, h1, h2⟩ := r.get (List.getElem?_eq_getElem hi)
  rw [e] at h1; cases h1
  exact ⟨_, List.getElem?_eq_getElem hi, h2⟩
theorem RpAll.append {K : PySem.W.Frag} {M : Addr → Prop} {H : Hp} : ∀ {vs ws : List V} {ds es : List D}, RpAll K M H vs ds → RpAll K M H ws es → RpAll K M H (vs ++ ws) (ds ++ es)
  | _, _, _, _, .nil, s => s
  | _, _, _, _, .cons r t, s => .cons r (RpAll.append t s)
theorem RpAll.take {K : PySem.W.Frag} {M : Addr → Prop} {H : Hp} : ∀ {vs : List V} {ds : List D} (n : Nat), RpAll K M H vs ds → RpAll K M H (vs.take n) (ds.take n)
  | _, _, 0, _ => by simp; exact .nil
  | _, _, _ + 1, .nil => .nil
  | _, _, n + 1, .cons r t => .cons r (RpAll.take n t)
theorem RpAll.drop {K : PySem.W.Frag} {M : Addr → Prop} {H : Hp} : ∀ {vs : List V} {ds : List D} (n : Nat), RpAll K M H vs ds → RpAll K M H (vs.drop n) (ds.drop n)
  | _, _, 0, r => r
  | _, _, _ + 1, .nil => .nil
  | _, _, n + 1, .cons _ t => RpAll.drop n t
theorem RpAll.set {K : PySem.W.Frag} {M : Addr → Prop} {H : Hp} {v : V} {d : D} (r : Rp K M H v d) : ∀ {vs : List V} {ds : List D} (i : Nat), RpAll K M H vs ds → RpAll K M H (vs.set i v) (ds.set i d)
  | _, _, _, .nil => .nil
  | _, _, 0, .cons _ t => .cons r t
  | _, _, i + 1, .cons q t => .cons q (RpAll.set r i t)
theorem RpAll.eraseIdx {K : PySem.W.Frag} {M : Addr → Prop} {H : Hp} : ∀ {vs : List V} {ds : List D} (i : Nat), RpAll K M H vs ds → RpAll K M H (vs.eraseIdx i) (ds.eraseIdx i)
  | _, _, _, .nil => .nil
  | _, _, 0, .cons _ t => t
  | _, _, i + 1, .cons q t => .cons q (RpAll.eraseIdx i t)
theorem RpAll.reverse {K : PySem.W.Frag} {M : Addr → Prop} {H : Hp} : ∀ {vs : List V} {ds : List D}, RpAll K M H vs ds → RpAll K M H vs.reverse ds.reverse
  | _, _, .nil => .nil
  | _, _, .cons r t => by
    rw [List.reverse_cons, List.reverse_cons]
    exact (RpAll.reverse t).append (.cons r .nil)

/-- v is d here and now: a list may be one that is changed later -/
def RpB (K : PySem.W.Frag) (M : Addr → Prop) (H : Hp) (v : V) (d : D) : Prop := Rp K M H v d ∨ ∃ a vs ds, v = .ref a ∧ d = .lst ds ∧ H a = some (.lst vs) ∧ RpAll K M H vs ds
theorem RpB.lst {K : PySem.W.Frag} {M : Addr → Prop} {H : Hp} {v : V} {ds : List D} (r : RpB K M H v (.lst ds)) : ∃ a vs, v = .ref a ∧ H a = some (.lst vs) ∧ RpAll K M H vs ds := by
  rcases r with r | ⟨a, vs, ds', e, e2, h, r⟩
  · cases r with
    | lst m h r => exact ⟨_, _, rfl, h, r⟩
  · cases e2; exact ⟨a, vs, e, h, r⟩
theorem RpB.tup {K : PySem.W.Frag} {M : Addr → Prop} {H : Hp} {v : V} {ds : List D} (r : RpB K M H v (.tup ds)) : ∃ a vs, v = .ref a ∧ H a = some (.tup vs) ∧ RpAll K M H vs ds := by
  rcases r with r | ⟨a, vs, ds', e, e2, h, r⟩
  · cases r with
    | tup h r => exact ⟨_, _, rfl, h, r⟩
  · cases e2
theorem RpB.int {K : PySem.W.Frag} {M : Addr → Prop} {H : Hp} {v : V} {i : Int} (r : RpB K M H v (.int i)) : v = .int i := by
  rcases r with r | ⟨a, vs, ds', e, e2, h, r⟩
  · cases r; rfl
  · cases e2
theorem RpB.bl {K : PySem.W.Frag} {M : Addr → Prop} {H : Hp} {v : V} {b : Bool} (r : RpB K M H v (.bl b)) : v = .bl b := by
  rcases r with r | ⟨a, vs, ds', e, e2, h, r⟩
  · cases r; rfl
  · cases e2
theorem RpB.str {K : PySem.W.Frag} {M : Addr → Prop} {H : Hp} {v : V} {x : Str} (r : RpB K M H v (.str x)) : v = .str x := by
  rcases r with r | ⟨a, vs, ds', e, e2, h, r⟩
  · cases r; rfl
  · cases e2
theorem RpB.non {K : PySem.W.Frag} {M : Addr → Prop} {H : Hp} {v : V} (r : RpB K M H v .non) : v = .non := by
  rcases r with r | ⟨a, vs, ds', e, e2, h, r⟩
  · cases r; rfl
  · cases e2
theorem RpB.raw {K : PySem.W.Frag} {M : Addr → Prop} {H : Hp} {v u : V} (r : RpB K M H v (.raw u)) : v = u := by
  rcases r with r | ⟨a, vs, ds', e, e2, h, r⟩
  · cases r; rfl
  · cases e2

theorem RpB.dct {K : PySem.W.Frag} {M : Addr → Prop} {H : Hp} {v : V} {kvs : List (List Int × Int)} (r : RpB K M H v (.dct kvs)) : ∃ a o, v = .ref a ∧ H a = some (.frz o (.dT (kvs.map fun kv => (kv.1.map Sum.inl, V.int kv.2)))) := by
  rcases r with r | ⟨a, vs, ds', e, e2, h, r⟩
  · cases r with
    | dct h => exact ⟨_, _, rfl, h⟩
  · cases e2
/-! ### data as such (also: keys) -/
mutual
def D.py : D → PyData
  | .non => .none
  | .bl b => .bool b
  | .int i => .int i
  | .str x => .str x
  | .tup xs => .tuple (D.pys xs)
  | .lst xs => .list (D.pys xs)
  | .scr _ => .none
  | .raw _ => .none
  | .dct _ => .none
def D.pys : List D → List PyData
  | [] => []
  | x :: r => x.py :: D.pys r
end
mutual
def D.plain : D → Bool
  | .tup xs => D.plains xs
  | .lst xs => D.plains xs
  | .scr _ => false
  | .raw _ => false
  | .dct _ => false
  | _ => true
def D.plains : List D → Bool
  | [] => true
  | x :: r => x.plain && D.plains r
end
/-- can be a key of a dict: a tuple of whole numbers and such tuples -/
def D.isKey (d : D) : Bool := d.plain && L2D.keyP d.py && decide ((L2D.nkP d.py).depth ≤ 8) && (match d with
  | .tup (_ :: _) => true
  | _ => false)
/-- the keys of a dict, by data -/
def DicR (K : PySem.W.Frag) (M : Addr → Prop) (H : Hp) (xs : List L2D.Ent) (ks : List D) : Prop := RpAll K M H (xs.map fun x => V.ref x.2.1) ks ∧ xs.map (·.1) = ks.map (fun k => L2D.nkP k.py) ∧ ∀ k ∈ ks, k.isKey = true
theorem DicR.step {K : PySem.W.Frag} {M M' : Addr → Prop} {H H' : Hp} (s : Step M H M' H') {xs : List L2D.Ent} {ks : List D} (h : DicR K M H xs ks) : DicR K M' H' xs ks := ⟨h.1.step s, h.2.1, h.2.2⟩
/-- what may stand in M -/
def MutO : HO → Prop
  | .lst _ => True
  | .ext _ => True
  | .tbl _ => True
  | .ins _ _ _ => True
  | .dK _ => True
  | _ => False
/-! ### slots as data -/
/-- a slot: nothing known; a value; a list of the def's own that may be changed (w: it came as an argument) -/
inductive En where
  | un | d (x : D) | own (w : Bool) (xs : List D) | dic (ks : List D) | obj (w : Bool) (F : Addr → Prop) (P : (Addr → Prop) → Hp → Addr → Prop)
abbrev Ev := List En

/-- where one stands: M0 what the caller may change, W what was handed in to be changed, H0 the heap at the entry, T lists that are being made around -/
structure Cl where
  K : PySem.W.Frag
  M0 : Addr → Prop
  W : Addr → Prop
  H0 : Hp
  T : Hp
  TB : Option (Addr × Str)
/-- the table at P: each code object that it tells bears the name q and stays -/
def TabM (M : Addr → Prop) (H : Hp) (P : Addr) (q : Str) : Prop := ∃ ps : Array Value, H P = some (.tbl ps) ∧ TriplesOk ps.toList ∧ ∀ (pos : Pos) (cv : Value), codeAmong pos ps.toList = some cv → ∃ c, cv = .ref c ∧ ¬ M c ∧ H c = some (LamX.CodeO c q)
/-- what is known of an object stays when its parts (F) stay -/
def StabO (F : Addr → Prop) (P : (Addr → Prop) → Hp → Addr → Prop) : Prop := (∀ (M : Addr → Prop) (H : Hp) (M' : Addr → Prop) (H' : Hp) (a : Addr), Step M H M' H' → (∀ b, F b → H' b = H b) → P M H a → P M' H' a) ∧ ∀ (M : Addr → Prop) (H : Hp) (a : Addr), P M H a → ∀ b, F b → ∀ ps, H b ≠ some (.tbl ps)
/-- not among the parts of another object -/
def FarE (F : Addr → Prop) (a : Addr) : En → Prop
  | .own _ _ => ¬ F a
  | .dic _ => ¬ F a
  | .obj _ G _ => ∀ b, F b → ¬ G b
  | _ => True
/-- the slot holds the entry -/
def SlotR (Φ : Cl) (M : Addr → Prop) (H : Hp) : En → Option V → Prop
  | .un, _ => True
  | .d x, o => ∃ v, o = some v ∧ Rp Φ.K M H v x
  | .own w xs, o => ∃ a vs, o = some (.ref a) ∧ M a ∧ H a = some (.lst vs) ∧ RpAll Φ.K M H vs xs ∧ (if w = true then Φ.W a else Φ.H0 a = Option.none) ∧ Φ.T a = Option.none
  | .dic ks, o => ∃ a P w xs, o = some (.ref a) ∧ M a ∧ H a = some (L2D.DicO P w a xs) ∧ DicR Φ.K M H xs ks ∧ Φ.H0 a = Option.none ∧ Φ.T a = Option.none
  | .obj w F P, o => ∃ a, o = some (.ref a) ∧ (∀ b, F b → M b ∧ (if w = true then Φ.W b else Φ.H0 b = Option.none) ∧ Φ.T b = Option.none) ∧ StabO F P ∧ P M H a
/-- the parts of an object are no other slot's -/
def Far (σ : L2.St) (ρ : Ev) : Prop := ∀ (i j : Nat) (w : Bool) (F : Addr → Prop) (P : (Addr → Prop) → Hp → Addr → Prop) (e : En) (a : Addr), i ≠ j → ρ[i]? = some (.obj w F P) → ρ[j]? = some e → σ[j]? = some (some (.ref a)) → FarE F a e
theorem Far.set {σ σ' : L2.St} {ρ : Ev} {i : Nat} {e0 : En} (h : Far σ ρ) (hs : ∀ k, k ≠ i → σ'[k]? = σ[k]?) (he : ∀ w F P, e0 ≠ .obj w F P)
    (hn : ∀ j w F P a, j ≠ i → ρ[j]? = some (.obj w F P) → σ'[i]? = some (some (.ref a)) → FarE F a e0) : Far σ' (ρ.set i e0) := fun j k w F P e a hjk h1 h2 h3 => by
  by_cases hj : i = j
  · subst hj
    have hi : i < ρ.length := by have := (List.getElem?_eq_some_iff.mp h1).1; rwa [List.length_set] at this
    rw [List.getElem?_set_self hi] at h1
    exact absurd (Option.some.inj h1) (he _ _ _)
  · rw [List.getElem?_set_ne hj] at h1
    by_cases hk : i = k
    · subst hk
      have hi : i < ρ.length := by have := (List.getElem?_eq_some_iff.mp h2).1; rwa [List.length_set] at this
      rw [List.getElem?_set_self hi] at h2
      cases h2
      exact hn j w F P a hjk h1 h3
    · rw [List.getElem?_set_ne hk] at h2
      rw [hs k (fun z => hk z.symm)] at h3
      exact h j k w F P e a hjk h1 h2 h3
theorem Far.setD {σ : L2.St} {ρ : Ev} {i : Nat} {x : D} (h : Far σ ρ) : Far σ (ρ.set i (.d x)) := h.set (fun _ _ => rfl) (fun _ _ _ => En.noConfusion) fun _ _ _ _ _ _ _ _ => trivial
theorem Far.setB {σ : L2.St} {ρ : Ev} {i : Nat} {x : D} {v : Option V} (h : Far σ ρ) : Far (σ.set i v) (ρ.set i (.d x)) := h.set (fun k hk => List.getElem?_set_ne (fun z => hk z.symm)) (fun _ _ _ => En.noConfusion) fun _ _ _ _ _ _ _ _ => trivial
structure Abs (Φ : Cl) (M : Addr → Prop) (σ : L2.St) (H : Hp) (ρ : Ev) : Prop where
  len : σ.length = ρ.length
  slot : ∀ (i : Nat) (e : En) (o : Option V), ρ[i]? = some e → σ[i]? = some o → SlotR Φ M H e o
  inj : ∀ (i j : Nat) (a : Addr) (w1 w2 : Bool) (xs ys : List D), ρ[i]? = some (.own w1 xs) → ρ[j]? = some (.own w2 ys) → σ[i]? = some (some (.ref a)) → σ[j]? = some (some (.ref a)) → i = j
  lst : ∀ a, M a → ∃ o, H a = some o ∧ MutO o
  m0 : ∀ a, Φ.M0 a → M a
  keep : ∀ a o, Φ.H0 a = some o → ¬ Φ.W a → H a = some o
  wm : ∀ a, Φ.W a → Φ.M0 a
  hold : ∀ a o, Φ.T a = some o → M a ∧ H a = some o
  injd : ∀ (i j : Nat) (a : Addr) (xs ys : List D), ρ[i]? = some (.dic xs) → ρ[j]? = some (.dic ys) → σ[i]? = some (some (.ref a)) → σ[j]? = some (some (.ref a)) → i = j
  tab : ∀ P q, Φ.TB = some (P, q) → M P ∧ Φ.W P ∧ Φ.T P = Option.none ∧ TabM M H P q
  far : Far σ ρ
theorem Abs.tabs {Φ : Cl} {M M' : Addr → Prop} {σ : L2.St} {H H' : Hp} {ρ : Ev} (A : Abs Φ M σ H ρ) (st : Step M H M' H') (hm : ∀ P ps, M P → H P = some (.tbl ps) → M' P ∧ H' P = some (.tbl ps)) : ∀ P q, Φ.TB = some (P, q) → M' P ∧ Φ.W P ∧ Φ.T P = Option.none ∧ TabM M' H' P q := fun P q e => by
  obtain ⟨m, w, tn, ps, h, t, c⟩ := A.tab P q e
  obtain ⟨m', h'⟩ := hm P ps m h
  exact ⟨m', w, tn, ps, h', t, fun pos cv hc => let ⟨a, e1, n, ha⟩ := c pos cv hc; ⟨a, e1, st.st a _ n ha⟩⟩
theorem Abs.same {Φ : Cl} {M : Addr → Prop} {σ : L2.St} {H H' : Hp} {ρ : Ev} (A : Abs Φ M σ H ρ) (s : Same H H') : Abs Φ M σ H' ρ := by
  have st : Step M H M H' := ⟨fun a o hm h => ⟨hm, s a o h⟩, fun a xs h => s a _ h, fun a o u h => s a _ h⟩
  refine ⟨A.len, fun i e o h1 h2 => ?_, A.inj, fun a h => let ⟨o, q, m⟩ := A.lst a h; ⟨o, s _ _ q, m⟩, A.m0, fun a o h1 h2 => s _ _ (A.keep a o h1 h2), A.wm, fun a o h => ⟨(A.hold a o h).1, s _ _ (A.hold a o h).2⟩, A.injd, A.tabs st fun P ps m h => ⟨m, s _ _ h⟩, A.far⟩
  have q := A.slot i e o h1 h2
  cases e with
  | un => trivial
  | d x => obtain ⟨v, e1, r⟩ := q; exact ⟨v, e1, r.step st⟩
  | own w xs => obtain ⟨a, vs, e1, m, h, r, z⟩ := q; exact ⟨a, vs, e1, m, s _ _ h, r.step st, z⟩
  | dic ks => obtain ⟨a, P, w, xs, e1, m, h, r, z⟩ := q; exact ⟨a, P, w, xs, e1, m, s _ _ h, r.step st, z⟩
  | obj w F P =>
    obtain ⟨a, e1, f, g, r⟩ := q
    refine ⟨a, e1, f, g, g.1 _ _ _ _ _ st (fun b hb => ?_) r⟩
    obtain ⟨o, hb', _⟩ := A.lst b (f b hb).1
    rw [hb', s b o hb']
theorem not_dic {ρ : Ev} {i j : Nat} {e : En} {ks : List D} (he : ∀ ls, e ≠ .dic ls) (h : (ρ.set i e)[j]? = some (.dic ks)) : i ≠ j ∧ ρ[j]? = some (.dic ks) := by
  by_cases hj : i = j
  · subst hj
    have hi : i < ρ.length := by have := (List.getElem?_eq_some_iff.mp h).1; rwa [List.length_set] at this
    rw [List.getElem?_set_self hi] at h
    exact absurd (Option.some.inj h) (he ks)
  · rw [List.getElem?_set_ne hj] at h
    exact ⟨hj, h⟩
theorem step_same {M : Addr → Prop} {H H' : Hp} (s : Same H H') : Step M H M H' := ⟨fun a o hm h => ⟨hm, s a o h⟩, fun a xs h => s a _ h, fun a o u h => s a _ h⟩
theorem same_upd {H : Hp} {p : Addr} {o : HO} (h : H p = none) : Same H (upd H p o) := fun b x e => by
  rw [upd_ne (ne_of_none e h)]
  exact e

/-! ### readings over data -/
abbrev WE := Ev → (D → Ev → Prop) → Prop
abbrev WT := Ev → (Bool → Ev → Prop) → Prop
abbrev WA := Ev → (List D → Ev → Prop) → Prop
structure AEnds where
  nx : Ev → Prop
  rt : D → Ev → Prop
  bk : Ev → Prop := fun _ => False
  ct : Ev → Prop := fun _ => False
abbrev WS := AEnds → Ev → Prop

def liftE (Φ : Cl) (w : WE) : TE := fun σ H Q => ∃ M ρ, Abs Φ M σ H ρ ∧ w ρ fun x ρ' => ∀ M' v H', Abs Φ M' σ H' ρ' → Step M H M' H' → Rp Φ.K M' H' v x → Q v H'
def liftT (Φ : Cl) (w : WT) : TT := fun σ H Q => ∃ M ρ, Abs Φ M σ H ρ ∧ w ρ fun b ρ' => ∀ M' H', Abs Φ M' σ H' ρ' → Step M H M' H' → Q b H'
def liftA (Φ : Cl) (w : WA) : TA := fun σ H Q => ∃ M ρ, Abs Φ M σ H ρ ∧ w ρ fun xs ρ' => ∀ M' vs H', Abs Φ M' σ H' ρ' → Step M H M' H' → RpAll Φ.K M' H' vs xs → Q vs H'
def absEnds (Φ : Cl) (M : Addr → Prop) (H : Hp) (D : Ends) : AEnds where
  nx := fun ρ => ∀ M' σ' H', Abs Φ M' σ' H' ρ → Step M H M' H' → D.nx σ' H'
  rt := fun x ρ => ∀ M' σ' v H', Abs Φ M' σ' H' ρ → Step M H M' H' → Rp Φ.K M' H' v x → D.rt v H'
  bk := fun ρ => ∀ M' σ' H', Abs Φ M' σ' H' ρ → Step M H M' H' → D.bk σ' H'
  ct := fun ρ => ∀ M' σ' H', Abs Φ M' σ' H' ρ → Step M H M' H' → D.ct σ' H'
def liftS (Φ : Cl) (w : WS) : TS := fun D σ H => ∃ M ρ, Abs Φ M σ H ρ ∧ w (absEnds Φ M H D) ρ

structure AEnds.Imp (R R' : AEnds) : Prop where
  nx : ∀ ρ, R.nx ρ → R'.nx ρ
  rt : ∀ x ρ, R.rt x ρ → R'.rt x ρ
  bk : ∀ ρ, R.bk ρ → R'.bk ρ
  ct : ∀ ρ, R.ct ρ → R'.ct ρ

structure QE (X : Cx) (Φ : Cl) (e : Expr) (w : WE) : Prop where
  mono : ∀ ρ Q Q', (∀ x ρ', Q x ρ' → Q' x ρ') → w ρ Q → w ρ Q'
  run : PE X e (liftE Φ w)
structure QT (X : Cx) (Φ : Cl) (e : Expr) (w : WT) : Prop where
  mono : ∀ ρ Q Q', (∀ x ρ', Q x ρ' → Q' x ρ') → w ρ Q → w ρ Q'
  run : PT X e (liftT Φ w)
structure QW (X : Cx) (Φ : Cl) (e : Expr) (w : WT) : Prop where
  mono : ∀ ρ Q Q', (∀ x ρ', Q x ρ' → Q' x ρ') → w ρ Q → w ρ Q'
  run : PW X e (liftT Φ w)
structure QA (X : Cx) (Φ : Cl) (es : List Expr) (w : WA) : Prop where
  mono : ∀ ρ Q Q', (∀ x ρ', Q x ρ' → Q' x ρ') → w ρ Q → w ρ Q'
  run : PA X es (liftA Φ w)
structure QS (X : Cx) (Φ : Cl) (st : Stmt) (w : WS) : Prop where
  mono : ∀ ρ R R', R.Imp R' → w R ρ → w R' ρ
  run : PS X st (liftS Φ w)
structure QSs (X : Cx) (Φ : Cl) (st : List Stmt) (w : WS) : Prop where
  mono : ∀ ρ R R', R.Imp R' → w R ρ → w R' ρ
  run : PSs X st (liftS Φ w)
theorem AEnds.Imp.nxTo {R R' : AEnds} (h : R.Imp R') {n n' : Ev → Prop} (hn : ∀ ρ, n ρ → n' ρ) : AEnds.Imp { R with nx := n } { R' with nx := n' } := ⟨hn, h.rt, h.bk, h.ct⟩
theorem AEnds.Imp.refl {R : AEnds} : R.Imp R := ⟨fun _ h => h, fun _ _ h => h, fun _ h => h, fun _ h => h⟩

/-! ### weakening a reading of the layer -/
theorem PEw {X : Cx} {e : Expr} {t t' : TE} (h : PE X e t) (i : ∀ σ H Q, t' σ H Q → t σ H Q) : PE X e t' := ⟨fun pins s σ H Q I q => h.run pins s σ H Q I (i σ H Q q)⟩
theorem PTw {X : Cx} {e : Expr} {t t' : TT} (h : PT X e t) (i : ∀ σ H Q, t' σ H Q → t σ H Q) : PT X e t' := ⟨fun pins s σ H Q I q => h.run pins s σ H Q I (i σ H Q q)⟩
theorem PWw {X : Cx} {e : Expr} {t t' : TT} (h : PW X e t) (i : ∀ σ H Q, t' σ H Q → t σ H Q) : PW X e t' := ⟨fun wh pins s σ H Q I q => h.run wh pins s σ H Q I (i σ H Q q)⟩
theorem PAw {X : Cx} {e : List Expr} {t t' : TA} (h : PA X e t) (i : ∀ σ H Q, t' σ H Q → t σ H Q) : PA X e t' := ⟨fun pos pins s σ H Q I q => h.run pos pins s σ H Q I (i σ H Q q)⟩
theorem PSw {X : Cx} {e : Stmt} {t t' : TS} (h : PS X e t) (i : ∀ D σ H, t' D σ H → t D σ H) : PS X e t' := ⟨fun pins s σ H D I q => h.run pins s σ H D I (i D σ H q)⟩
theorem PSsw {X : Cx} {e : List Stmt} {t t' : TS} (h : PSs X e t) (i : ∀ D σ H, t' D σ H → t D σ H) : PSs X e t' := ⟨fun pins s σ H D I q => h.run pins s σ H D I (i D σ H q)⟩
end AL
set_option Elab.async false
set_option linter.all false
set_option maxRecDepth 100000
namespace AL
open PySem PySem.Spec PyProof.Rows L2

/-! ### names, constants -/
def wVar (i : Nat) : WE := fun ρ Q => match ρ[i]? with
  | some (.d x) => Q x ρ
  | some (.own false xs) => Q (.lst xs) (ρ.set i (.d (.lst xs)))
  | _ => False
def wC (x : D) : WE := fun ρ Q => Q x ρ

/-- M without a -/
def but (M : Addr → Prop) (a : Addr) : Addr → Prop := fun b => M b ∧ b ≠ a
/-- M and a -/
def more (M : Addr → Prop) (a : Addr) : Addr → Prop := fun b => M b ∨ b = a

/-- an own list is handed on: it is not changed any more -/
theorem Abs.freeze {Φ : Cl} {M : Addr → Prop} {σ : L2.St} {H : Hp} {ρ : Ev} (A : Abs Φ M σ H ρ) {i : Nat} {xs : List D} {a : Addr} (e : ρ[i]? = some (.own false xs)) (es : σ[i]? = some (some (.ref a))) (hf : Φ.H0 a = Option.none) (h0 : ∀ b, Φ.M0 b → b ≠ a) :
    Abs Φ (but M a) σ H (ρ.set i (.d (.lst xs))) ∧ Step M H (but M a) H ∧ Rp Φ.K (but M a) H (.ref a) (.lst xs) := by
  have st : Step M H (but M a) H := ⟨fun b o hb hh => ⟨fun z => hb z.1, hh⟩, fun _ _ q => q, fun _ _ _ q => q⟩
  have q0 := A.slot i _ _ e es
  obtain ⟨a', vs, e1, m, h, r, z⟩ := q0
  cases e1
  have ra : Rp Φ.K (but M a) H (.ref a) (.lst xs) := .lst (fun z => z.2 rfl) h (r.step st)
  refine ⟨⟨by rw [List.length_set]; exact A.len, fun j en o h1 h2 => ?_, fun j k b w1 w2 ys zs h1 h2 h3 h4 => ?_, fun b hb => A.lst b hb.1, fun b hb => ⟨A.m0 b hb, h0 b hb⟩, A.keep, A.wm, fun b o hb => ⟨⟨(A.hold b o hb).1, fun y => by rw [y, z.2] at hb; cases hb⟩, (A.hold b o hb).2⟩, fun j k b ys zs h1 h2 h3 h4 => A.injd j k b ys zs (not_dic (fun _ => En.noConfusion) h1).2 (not_dic (fun _ => En.noConfusion) h2).2 h3 h4, A.tabs st fun P ps m' h' => ⟨⟨m', fun y => by rw [y, h] at h'; cases h'⟩, h'⟩, A.far.setD⟩, st, ra⟩
  · by_cases hj : i = j
    · subst hj
      have hi : i < ρ.length := (List.getElem?_eq_some_iff.mp e).1
      rw [List.getElem?_set_self hi] at h1
      cases h1
      rw [es] at h2; cases h2
      exact ⟨_, rfl, ra⟩
    · rw [List.getElem?_set_ne hj] at h1
      have q := A.slot j en o h1 h2
      cases en with
      | un => trivial
      | d x => obtain ⟨v, e2, r2⟩ := q; exact ⟨v, e2, r2.step st⟩
      | own w ys =>
        obtain ⟨b, ws, e2, m2, hh, r2, z2⟩ := q
        refine ⟨b, ws, e2, ⟨m2, fun z => ?_⟩, hh, r2.step st, z2⟩
        subst z
        subst e2
        exact hj (A.inj i j _ _ _ _ _ e h1 es h2)
      | dic ks =>
        obtain ⟨b, P, w2, ws, e2, m2, hh, r2, z2⟩ := q
        refine ⟨b, P, w2, ws, e2, ⟨m2, fun z => ?_⟩, hh, r2.step st, z2⟩
        subst z
        rw [h] at hh; cases hh
      | obj w F P =>
        obtain ⟨b, e2, f, g, r2⟩ := q
        have nf : ¬ F a := A.far j i w F P _ a (fun z => hj z.symm) h1 e es
        exact ⟨b, e2, fun c hc => ⟨⟨(f c hc).1, fun z => nf (z ▸ hc)⟩, (f c hc).2⟩, g, g.1 _ _ _ _ _ st (fun _ _ => rfl) r2⟩
  · by_cases hj : i = j
    · subst hj
      have hi : i < ρ.length := (List.getElem?_eq_some_iff.mp e).1
      rw [List.getElem?_set_self hi] at h1
      cases h1
    · by_cases hk : i = k
      · subst hk
        have hi : i < ρ.length := (List.getElem?_eq_some_iff.mp e).1
        rw [List.getElem?_set_self hi] at h2
        cases h2
      · rw [List.getElem?_set_ne hj] at h1
        rw [List.getElem?_set_ne hk] at h2
        exact A.inj j k b w1 w2 ys zs h1 h2 h3 h4
theorem Cl.fresh_ne {Φ : Cl} {M : Addr → Prop} {σ : L2.St} {H : Hp} {ρ : Ev} {a : Addr} (ok : ∀ b, Φ.M0 b → ∃ o, Φ.H0 b = some o) (hf : Φ.H0 a = Option.none) : ∀ b, Φ.M0 b → b ≠ a := fun b hb z => by
  obtain ⟨o, q⟩ := ok b hb
  rw [z, hf] at q
  cases q

/-- the frame's facts -/
class MOk (M0 : Addr → Prop) (H0 : Hp) : Prop where
  trk : ∀ b, M0 b → ∃ o, H0 b = some o
abbrev ClOk (Φ : Cl) : Prop := MOk Φ.M0 Φ.H0
section
variable {X : Cx} {Φ : Cl} [ok : ClOk Φ] {pos : Pos} {e a b c : Expr} {wa wb wc : WE}

theorem qe_var {i : Nat} {x : Str} (hN : X.N[i]? = some x) (hv : Vis X.env.scope x) (hd : (x == ("__debug__" : Str)) = false := by decide) (hcd : (x == ("__classdict__" : Str)) = false := by decide) : QE X Φ (.Name x pos) (wVar i) where
  mono := fun ρ Q Q' h q => by
    unfold wVar at q ⊢
    split at q
    · exact h _ _ q
    · exact h _ _ q
    · exact q.elim
  run := by
    refine PEw (pe_var hN hv hd hcd) fun σ H Q q => ?_
    obtain ⟨M, ρ, A, q⟩ := q
    unfold wVar at q
    split at q
    · rename_i x' hx
      have hi : i < σ.length := by rw [A.len]; exact (List.getElem?_eq_some_iff.mp hx).1
      obtain ⟨v, e, r⟩ := A.slot i _ _ hx (List.getElem?_eq_getElem hi)
      exact ⟨v, by rw [List.getElem?_eq_getElem hi, e], q M v H A .refl r⟩
    · rename_i xs hx
      have hi : i < σ.length := by rw [A.len]; exact (List.getElem?_eq_some_iff.mp hx).1
      obtain ⟨p, vs, e, m, hh, r, z⟩ := A.slot i _ _ hx (List.getElem?_eq_getElem hi)
      have es : σ[i]? = some (some (.ref p)) := by rw [List.getElem?_eq_getElem hi, e]
      obtain ⟨A', s', r'⟩ := A.freeze hx es z.1 (Cl.fresh_ne (M := M) (σ := σ) (H := H) (ρ := ρ) ok.trk z.1)
      exact ⟨_, es, q _ _ H A' s' r'⟩
    · exact q.elim
theorem qe_const {v : V} {x : D} (h : PE X e (tC v)) (r : ∀ M H, Rp Φ.K M H v x) : QE X Φ e (wC x) where
  mono := fun ρ Q Q' h q => h _ _ q
  run := PEw h fun σ H Q q => by
    obtain ⟨M, ρ, A, q⟩ := q
    exact q M v H A .refl (r M H)
theorem qe_int {i j} : QE X Φ (.Constant (.int i) j pos) (wC (.int i)) := qe_const pe_int fun _ _ => .int i
theorem qe_bl {b j} : QE X Φ (.Constant (.bool b) j pos) (wC (.bl b)) := qe_const pe_bl fun _ _ => .bl b
theorem qe_non {j} : QE X Φ (.Constant .none j pos) (wC .non) := qe_const pe_non fun _ _ => .non
theorem qe_str {x j} : QE X Φ (.Constant (.str x) j pos) (wC (.str x)) := qe_const pe_str fun _ _ => .str x

/-! ### an operand that is read at once -/
def liftB (Φ : Cl) (w : WE) : TE := fun σ H Q => ∃ M ρ, Abs Φ M σ H ρ ∧ w ρ fun x ρ' => ∀ M' v H', Abs Φ M' σ H' ρ' → Step M H M' H' → RpB Φ.K M' H' v x → Q v H'
structure QB (X : Cx) (Φ : Cl) (e : Expr) (w : WE) : Prop where
  mono : ∀ ρ Q Q', (∀ x ρ', Q x ρ' → Q' x ρ') → w ρ Q → w ρ Q'
  run : PE X e (liftB Φ w)
theorem QE.qb (h : QE X Φ e wa) : QB X Φ e wa := ⟨h.mono, PEw h.run fun σ H Q ⟨M, ρ, A, q⟩ => ⟨M, ρ, A, h.mono ρ _ _ (fun x ρ' q' M' v H' A' S' r => q' M' v H' A' S' (.inl r)) q⟩⟩
/-- what a slot holds -/
def valE : Option En → (D → Prop) → Prop
  | some (.d x), P => P x
  | some (.own _ xs), P => P (.lst xs)
  | _, _ => False
theorem valE_mono {o : Option En} {P P' : D → Prop} (h : ∀ x, P x → P' x) (q : valE o P) : valE o P' := by
  cases o with
  | none => exact q.elim
  | some e => cases e <;> first | exact h _ q | exact q.elim
theorem valE_rp {M : Addr → Prop} {σ : L2.St} {H : Hp} {ρ : Ev} (A : Abs Φ M σ H ρ) {i : Nat} {P : D → Prop} (q : valE ρ[i]? P) : ∃ v x, σ[i]? = some (some v) ∧ RpB Φ.K M H v x ∧ P x := by
  cases he : ρ[i]? with
  | none => rw [he] at q; exact q.elim
  | some en =>
    have hi : i < σ.length := by rw [A.len]; exact (List.getElem?_eq_some_iff.mp he).1
    have sl := A.slot i en _ he (List.getElem?_eq_getElem hi)
    rw [he] at q
    cases en with
    | un => exact q.elim
    | d x => obtain ⟨v, e, r⟩ := sl; exact ⟨v, x, by rw [List.getElem?_eq_getElem hi, e], .inl r, q⟩
    | own w xs => obtain ⟨a, vs, e, m, h, r, _⟩ := sl; exact ⟨.ref a, .lst xs, by rw [List.getElem?_eq_getElem hi, e], .inr ⟨a, vs, xs, rfl, rfl, h, r⟩, q⟩
    | dic ks => exact q.elim
    | obj w F P => exact q.elim
def wVarB (i : Nat) : WE := fun ρ Q => valE ρ[i]? fun x => Q x ρ
theorem qb_var {i : Nat} {x : Str} (hN : X.N[i]? = some x) (hv : Vis X.env.scope x) (hd : (x == ("__debug__" : Str)) = false := by decide) (hcd : (x == ("__classdict__" : Str)) = false := by decide) : QB X Φ (.Name x pos) (wVarB i) := by
  refine ⟨fun ρ Q Q' h q => valE_mono (fun x p => h x ρ p) q, PEw (pe_var hN hv hd hcd) fun σ H Q ⟨M, ρ, A, q⟩ => ?_⟩
  obtain ⟨v, x, e, r, p⟩ := valE_rp A q
  exact ⟨v, e, p M v H A .refl r⟩
/-- two operands -/
abbrev W2 := Ev → (D → D → Ev → Prop) → Prop
structure Q2 (X : Cx) (Φ : Cl) (a b : Expr) (w : W2) : Prop where
  mono : ∀ ρ Q Q', (∀ x y ρ', Q x y ρ' → Q' x y ρ') → w ρ Q → w ρ Q'
  ex : ∃ ta tb, PE X a ta ∧ PE X b tb ∧ ∀ σ H (R : V → V → Hp → Prop), (∃ M ρ, Abs Φ M σ H ρ ∧ w ρ fun x y ρ' => ∀ M' v u H', Abs Φ M' σ H' ρ' → Step M H M' H' → RpB Φ.K M' H' v x → RpB Φ.K M' H' u y → R v u H') → ta σ H fun v H1 => tb σ H1 fun u H2 => R v u H2
def w2e (wa wb : WE) : W2 := fun ρ Q => wa ρ fun x ρ1 => wb ρ1 fun y ρ2 => Q x y ρ2
theorem q2_e (ha : QE X Φ a wa) (hb : QB X Φ b wb) : Q2 X Φ a b (w2e wa wb) := by
  refine ⟨fun ρ Q Q' h q => ha.mono ρ _ _ (fun x ρ1 q1 => hb.mono ρ1 _ _ (fun y ρ2 q2 => h x y ρ2 q2) q1) q, _, _, ha.run, hb.run, fun σ H R ⟨M, ρ, A, q⟩ => ?_⟩
  refine ⟨M, ρ, A, ha.mono ρ _ _ (fun x ρ1 q1 => ?_) q⟩
  intro M1 v H1 A1 S1 r1
  refine ⟨M1, ρ1, A1, hb.mono ρ1 _ _ (fun y ρ2 q2 => ?_) q1⟩
  intro M2 u H2 A2 S2 r2
  exact q2 M2 v u H2 A2 (S1.trans S2) (.inl (r1.step S2)) r2
/-- the first one a name: its list is read behind the second's evaluation -/
def w2v (i : Nat) (wb : WE) : W2 := fun ρ Q => valE ρ[i]? fun _ => wb ρ fun y ρ1 => valE ρ1[i]? fun x => Q x y ρ1
theorem q2_v {i : Nat} {x : Str} {p : Pos} (hN : X.N[i]? = some x) (hv : Vis X.env.scope x) (hb : QB X Φ b wb) (hd : (x == ("__debug__" : Str)) = false := by decide) (hcd : (x == ("__classdict__" : Str)) = false := by decide) : Q2 X Φ (.Name x p) b (w2v i wb) := by
  refine ⟨fun ρ Q Q' h q => valE_mono (fun _ q => hb.mono ρ _ _ (fun y ρ1 q1 => valE_mono (fun x p => h x y ρ1 p) q1) q) q, tVar i, _, pe_var hN hv hd hcd, hb.run, fun σ H R ⟨M, ρ, A, q⟩ => ?_⟩
  obtain ⟨v, x, e, r, q⟩ := valE_rp A q
  refine ⟨v, e, M, ρ, A, hb.mono ρ _ _ (fun y ρ1 q1 => ?_) q⟩
  intro M1 u H1 A1 S1 r1
  obtain ⟨v', x', e', r', p⟩ := valE_rp A1 q1
  rw [e] at e'
  cases e'
  exact p M1 v u H1 A1 S1 r' r1
/-! ### operators by values -/
abbrev K1 := D → (D → Prop) → Prop
abbrev K2 := D → D → (D → Prop) → Prop
abbrev KL := List D → (D → Prop) → Prop
/-- the layer's rule r does at least what k says; new objects alone may come -/
def Op2 (K : PySem.W.Frag) (r : R2) (k : K2) : Prop := ∀ (M : Addr → Prop) (H : Hp) (v u : V) (x y : D) (P : D → Prop) (Q : VK), RpB K M H v x → RpB K M H u y → (∀ a, M a → ∃ o, H a = some o) → k x y P → (∀ z v' H', P z → Same H H' → Rp K M H' v' z → Q v' H') → r v u H Q
def Op1 (K : PySem.W.Frag) (r : V → Hp → VK → Prop) (k : K1) : Prop := ∀ (M : Addr → Prop) (H : Hp) (v : V) (x : D) (P : D → Prop) (Q : VK), RpB K M H v x → (∀ a, M a → ∃ o, H a = some o) → k x P → (∀ z v' H', P z → Same H H' → Rp K M H' v' z → Q v' H') → r v H Q
def OpL (K : PySem.W.Frag) (r : List V → Hp → VK → Prop) (k : KL) : Prop := ∀ (M : Addr → Prop) (H : Hp) (vs : List V) (xs : List D) (P : D → Prop) (Q : VK), RpAll K M H vs xs → (∀ a, M a → ∃ o, H a = some o) → k xs P → (∀ z v' H', P z → Same H H' → Rp K M H' v' z → Q v' H') → r vs H Q
def Mono2 (k : K2) : Prop := ∀ x y P P', (∀ z, P z → P' z) → k x y P → k x y P'
def Mono1 (k : K1) : Prop := ∀ x P P', (∀ z, P z → P' z) → k x P → k x P'
def MonoL (k : KL) : Prop := ∀ x P P', (∀ z, P z → P' z) → k x P → k x P'
def wOp (k : K2) (w2 : W2) : WE := fun ρ Q => w2 ρ fun x y ρ2 => k x y fun z => Q z ρ2
def wUn (k : K1) (wa : WE) : WE := fun ρ Q => wa ρ fun x ρ1 => k x fun z => Q z ρ1
def wCl (k : KL) (wa : WA) : WE := fun ρ Q => wa ρ fun x ρ1 => k x fun z => Q z ρ1
/-- a True or False -/
def isB (z : D) (P : Bool → Prop) : Prop := match z with
  | .bl b => P b
  | _ => False
def wTest (w : WE) : WT := fun ρ Q => w ρ fun x ρ1 => isB x fun b => Q b ρ1
theorem isB_mono {z : D} {P P' : Bool → Prop} (h : ∀ b, P b → P' b) (q : isB z P) : isB z P' := by
  cases z <;> first | exact h _ q | exact q.elim
theorem isB_rp {K : PySem.W.Frag} {M : Addr → Prop} {H : Hp} {v : V} {z : D} {P : Bool → Prop} (r : Rp K M H v z) (q : isB z P) : ∃ b, v = .bl b ∧ P b := by
  cases r with
  | bl b => exact ⟨b, rfl, q⟩
  | _ => exact q.elim


variable {w2 : W2}
theorem wOp_mono {k : K2} (km : Mono2 k) (h2 : Q2 X Φ a b w2) :
    ∀ ρ Q Q', (∀ x ρ', Q x ρ' → Q' x ρ') → wOp k w2 ρ Q → wOp k w2 ρ Q' := fun ρ Q Q' h q => h2.mono ρ _ _ (fun x y ρ2 q2 => km x y _ _ (fun z p => h z ρ2 p) q2) q
theorem op_run {r : R2} {k : K2} {Q : VK} {M : Addr → Prop} {σ : L2.St} {H : Hp} {ρ : Ev} {P : D → Ev → Prop} (hk : Op2 Φ.K r k) (km : Mono2 k) (h2 : Q2 X Φ a b w2) (A : Abs Φ M σ H ρ) (q : wOp k w2 ρ P)
    (fin : ∀ z ρ', P z ρ' → ∀ M' v H', Abs Φ M' σ H' ρ' → Step M H M' H' → Rp Φ.K M' H' v z → Q v H') : ∃ M ρ, Abs Φ M σ H ρ ∧ w2 ρ fun x y ρ' => ∀ M' v u H', Abs Φ M' σ H' ρ' → Step M H M' H' → RpB Φ.K M' H' v x → RpB Φ.K M' H' u y → r v u H' Q := by
  refine ⟨M, ρ, A, h2.mono ρ _ _ (fun x y ρ2 q2 => ?_) q⟩
  intro M2 v u H2 A2 S2 r1 r2
  refine hk M2 H2 v u x y _ Q r1 r2 (fun b hb => let ⟨_, z, _⟩ := A2.lst b hb; ⟨_, z⟩) q2 fun z v' H' p s r' => ?_
  exact fin z ρ2 p M2 v' H' (A2.same s) (S2.trans (step_same s)) r'
theorem lift_op {r : R2} {k : K2} (hk : Op2 Φ.K r k) (km : Mono2 k) (h2 : Q2 X Φ a b w2) (mk : ∀ ta tb, PE X a ta → PE X b tb → PE X e (tOp r ta tb)) : QE X Φ e (wOp k w2) := by
  refine ⟨wOp_mono km h2, ?_⟩
  obtain ⟨ta, tb, ha, hb, run⟩ := h2.ex
  exact PEw (mk ta tb ha hb) fun σ H Q ⟨M, ρ, A, q⟩ => run σ H (fun v u H' => r v u H' Q) (op_run hk km h2 A q fun z ρ' p => p)
theorem qe_op {op : Operator} {r : R2} {k : K2} (ho : OpR X (binaryOp op) r) (hk : Op2 Φ.K r k) (km : Mono2 k) (h2 : Q2 X Φ a b w2) : QE X Φ (.BinOp a op b pos) (wOp k w2) := lift_op hk km h2 fun _ _ ha hb => pe_op ho ha hb
theorem qe_cmp {op : CmpOp} {r : R2} {k : K2} (ho : OpR X (compareOp op) r) (hk : Op2 Φ.K r k) (km : Mono2 k) (h2 : Q2 X Φ a b w2) (hm : behindInMarks op b = false) : QE X Φ (.Compare a [op] [b] pos) (wOp k w2) := lift_op hk km h2 fun _ _ ha hb => pe_cmpR ho ha hb hm
theorem qe_ix {r : R2} {k : K2} (ho : IxR X r) (hk : Op2 Φ.K r k) (km : Mono2 k) (h2 : Q2 X Φ a b w2) (hs : PlainIx b) : QE X Φ (.Subscript a b pos) (wOp k w2) := lift_op hk km h2 fun _ _ ha hb => pe_ix ho ha hb hs
theorem wTest_mono {w : WE} (ha : ∀ ρ Q Q', (∀ x ρ', Q x ρ' → Q' x ρ') → w ρ Q → w ρ Q') : ∀ ρ Q Q', (∀ x ρ', Q x ρ' → Q' x ρ') → wTest w ρ Q → wTest w ρ Q' := fun ρ Q Q' h q =>
  ha ρ _ _ (fun x ρ1 q1 => isB_mono (fun b p => h b ρ1 p) q1) q
theorem qt_cmp {op : CmpOp} {r : R2} {k : K2} (ho : OpR X (compareOp op) r) (hk : Op2 Φ.K r k) (km : Mono2 k) (h2 : Q2 X Φ a b w2) (hm : behindInMarks op b = false) : QT X Φ (.Compare a [op] [b] pos) (wTest (wOp k w2)) := by
  refine ⟨wTest_mono (wOp_mono km h2), ?_⟩
  obtain ⟨ta, tb, ha, hb, run⟩ := h2.ex
  refine PTw (pt_cmpR ho ha hb hm) fun σ H Q ⟨M, ρ, A, q⟩ => run σ H (fun v u H' => r v u H' fun x H2 => ∃ k, x = .bl k ∧ Q k H2) (op_run hk km h2 A q fun z ρ' p M' v H' A' S' r' => ?_)
  obtain ⟨b, e, p⟩ := isB_rp r' p
  exact ⟨b, e, p M' H' A' S'⟩
theorem qt_val (ha : QE X Φ a wa) (he : ∀ whole, isTrue a X.env whole = (do let v ← whole; standAt a.pos; holding [v] (truthy v)) := by intro _; rfl) : QT X Φ a (wTest wa) := by
  refine ⟨wTest_mono ha.mono, PTw (pt_val ha.run he) fun σ H Q q => ?_⟩
  obtain ⟨M, ρ, A, q⟩ := q
  refine ⟨M, ρ, A, ha.mono ρ _ _ (fun z ρ' q' => ?_) q⟩
  intro M' v H' A' S' r'
  obtain ⟨b, e, p⟩ := isB_rp r' q'
  exact ⟨b, e, p M' H' A' S'⟩
theorem qe_un {op : UnaryOp} {r : V → Hp → VK → Prop} {k : K1} (ho : UnR X (unaryOp op) r) (hk : Op1 Φ.K r k) (km : Mono1 k) (ha : QB X Φ a wa) : QE X Φ (.UnaryOp op a pos) (wUn k wa) := by
  refine ⟨fun ρ Q Q' h q => ha.mono ρ _ _ (fun x ρ1 q1 => km x _ _ (fun z p => h z ρ1 p) q1) q, PEw (pe_un ho ha.run) fun σ H Q q => ?_⟩
  obtain ⟨M, ρ, A, q⟩ := q
  refine ⟨M, ρ, A, ha.mono ρ _ _ (fun x ρ1 q1 => ?_) q⟩
  intro M1 v H1 A1 S1 r1
  refine hk M1 H1 v x _ Q r1 (fun b hb => let ⟨_, z, _⟩ := A1.lst b hb; ⟨_, z⟩) q1 fun z v' H' p s r' => ?_
  exact p M1 v' H' (A1.same s) (S1.trans (step_same s)) r'

/-! ### and, or, not, if .. else -/
variable {ta tb : WT} {rest : List Expr}
def wAnd (t u : WT) : WT := fun ρ Q => t ρ fun c ρ1 => if c = true then u ρ1 Q else Q false ρ1
def wOr (t u : WT) : WT := fun ρ Q => t ρ fun c ρ1 => if c = true then Q true ρ1 else u ρ1 Q
def wNot (t : WT) : WT := fun ρ Q => t ρ fun c ρ1 => Q (!c) ρ1
theorem QW.qt {w : WT} (h : QW X Φ e w) : QT X Φ e w := ⟨h.mono, h.run.pt⟩
theorem qw_and1 (ha : QT X Φ a ta) : QW X Φ (.BoolOp .And [a] pos) ta := ⟨ha.mono, pw_and1 ha.run⟩
theorem qw_or1 (ha : QT X Φ a ta) : QW X Φ (.BoolOp .Or [a] pos) ta := ⟨ha.mono, pw_or1 ha.run⟩
theorem qw_and (ha : QT X Φ a ta) (hb : QW X Φ (.BoolOp .And (b :: rest) pos) tb) : QW X Φ (.BoolOp .And (a :: b :: rest) pos) (wAnd ta tb) := by
  refine ⟨fun ρ Q Q' h q => ha.mono ρ _ _ (fun c ρ1 q1 => ?_) q, PWw (pw_and ha.run hb.run) fun σ H Q q => ?_⟩
  · cases c with
    | true => exact hb.mono ρ1 _ _ h q1
    | false => exact h _ _ q1
  · obtain ⟨M, ρ, A, q⟩ := q
    refine ⟨M, ρ, A, ha.mono ρ _ _ (fun c ρ1 q1 => ?_) q⟩
    intro M1 H1 A1 S1
    cases c with
    | true => exact ⟨M1, ρ1, A1, hb.mono ρ1 _ _ (fun d ρ2 q2 M2 H2 A2 S2 => q2 M2 H2 A2 (S1.trans S2)) q1⟩
    | false => exact q1 M1 H1 A1 S1
theorem qw_or (ha : QT X Φ a ta) (hb : QW X Φ (.BoolOp .Or (b :: rest) pos) tb) : QW X Φ (.BoolOp .Or (a :: b :: rest) pos) (wOr ta tb) := by
  refine ⟨fun ρ Q Q' h q => ha.mono ρ _ _ (fun c ρ1 q1 => ?_) q, PWw (pw_or ha.run hb.run) fun σ H Q q => ?_⟩
  · cases c with
    | false => exact hb.mono ρ1 _ _ h q1
    | true => exact h _ _ q1
  · obtain ⟨M, ρ, A, q⟩ := q
    refine ⟨M, ρ, A, ha.mono ρ _ _ (fun c ρ1 q1 => ?_) q⟩
    intro M1 H1 A1 S1
    cases c with
    | false => exact ⟨M1, ρ1, A1, hb.mono ρ1 _ _ (fun d ρ2 q2 M2 H2 A2 S2 => q2 M2 H2 A2 (S1.trans S2)) q1⟩
    | true => exact q1 M1 H1 A1 S1
theorem qt_not (ha : QT X Φ a ta) : QT X Φ (.UnaryOp .Not a pos) (wNot ta) := by
  refine ⟨fun ρ Q Q' h q => ha.mono ρ _ _ (fun c ρ1 q1 => h _ _ q1) q, PTw (pt_not ha.run) fun σ H Q q => ?_⟩
  obtain ⟨M, ρ, A, q⟩ := q
  exact ⟨M, ρ, A, ha.mono ρ _ _ (fun c ρ1 q1 M1 H1 A1 S1 => q1 M1 H1 A1 S1) q⟩
def wAndV (wa wb : WE) : WE := fun ρ Q => wa ρ fun x ρ1 => isB x fun c => if c = true then wb ρ1 Q else Q (.bl false) ρ1
def wOrV (wa wb : WE) : WE := fun ρ Q => wa ρ fun x ρ1 => isB x fun c => if c = true then Q (.bl true) ρ1 else wb ρ1 Q
def wNotV (wa : WE) : WE := fun ρ Q => wa ρ fun x ρ1 => isB x fun c => Q (.bl (!c)) ρ1
theorem qe_one {op} (h : QE X Φ a wa) : QE X Φ (.BoolOp op [a] pos) wa := ⟨h.mono, pe_one h.run⟩
theorem qe_and (ha : QE X Φ a wa) (hb : QE X Φ (.BoolOp .And (b :: rest) pos) wb) : QE X Φ (.BoolOp .And (a :: b :: rest) pos) (wAndV wa wb) := by
  refine ⟨fun ρ Q Q' h q => ha.mono ρ _ _ (fun x ρ1 q1 => isB_mono (fun c p => ?_) q1) q, PEw (pe_and ha.run hb.run) fun σ H Q q => ?_⟩
  · cases c with
    | true => exact hb.mono ρ1 _ _ h p
    | false => exact h _ _ p
  · obtain ⟨M, ρ, A, q⟩ := q
    refine ⟨M, ρ, A, ha.mono ρ _ _ (fun x ρ1 q1 => ?_) q⟩
    intro M1 v H1 A1 S1 r1
    obtain ⟨c, e, p⟩ := isB_rp r1 q1
    refine ⟨c, e, ?_⟩
    cases c with
    | true => exact ⟨M1, ρ1, A1, hb.mono ρ1 _ _ (fun d ρ2 q2 M2 v2 H2 A2 S2 r2 => q2 M2 v2 H2 A2 (S1.trans S2) r2) p⟩
    | false => exact p M1 _ H1 A1 S1 (.bl false)
theorem qe_or (ha : QE X Φ a wa) (hb : QE X Φ (.BoolOp .Or (b :: rest) pos) wb) : QE X Φ (.BoolOp .Or (a :: b :: rest) pos) (wOrV wa wb) := by
  refine ⟨fun ρ Q Q' h q => ha.mono ρ _ _ (fun x ρ1 q1 => isB_mono (fun c p => ?_) q1) q, PEw (pe_or ha.run hb.run) fun σ H Q q => ?_⟩
  · cases c with
    | false => exact hb.mono ρ1 _ _ h p
    | true => exact h _ _ p
  · obtain ⟨M, ρ, A, q⟩ := q
    refine ⟨M, ρ, A, ha.mono ρ _ _ (fun x ρ1 q1 => ?_) q⟩
    intro M1 v H1 A1 S1 r1
    obtain ⟨c, e, p⟩ := isB_rp r1 q1
    refine ⟨c, e, ?_⟩
    cases c with
    | false => exact ⟨M1, ρ1, A1, hb.mono ρ1 _ _ (fun d ρ2 q2 M2 v2 H2 A2 S2 r2 => q2 M2 v2 H2 A2 (S1.trans S2) r2) p⟩
    | true => exact p M1 _ H1 A1 S1 (.bl true)
theorem qe_not (ha : QE X Φ a wa) : QE X Φ (.UnaryOp .Not a pos) (wNotV wa) := by
  refine ⟨fun ρ Q Q' h q => ha.mono ρ _ _ (fun x ρ1 q1 => isB_mono (fun c p => h _ _ p) q1) q, PEw (pe_not ha.run) fun σ H Q q => ?_⟩
  obtain ⟨M, ρ, A, q⟩ := q
  refine ⟨M, ρ, A, ha.mono ρ _ _ (fun x ρ1 q1 => ?_) q⟩
  intro M1 v H1 A1 S1 r1
  obtain ⟨c, e, p⟩ := isB_rp r1 q1
  exact ⟨c, e, p M1 _ H1 A1 S1 (.bl _)⟩
def wIf (t : WT) (wa wb : WE) : WE := fun ρ Q => t ρ fun c ρ1 => if c = true then wa ρ1 Q else wb ρ1 Q
theorem qe_ifExp {c : Expr} (hc : QT X Φ c ta) (ha : QE X Φ a wa) (hb : QE X Φ b wb) : QE X Φ (.IfExp c a b pos) (wIf ta wa wb) := by
  refine ⟨fun ρ Q Q' h q => hc.mono ρ _ _ (fun c ρ1 q1 => ?_) q, PEw (pe_ifExp hc.run ha.run hb.run) fun σ H Q q => ?_⟩
  · cases c with
    | true => exact ha.mono ρ1 _ _ h q1
    | false => exact hb.mono ρ1 _ _ h q1
  · obtain ⟨M, ρ, A, q⟩ := q
    refine ⟨M, ρ, A, hc.mono ρ _ _ (fun c ρ1 q1 => ?_) q⟩
    intro M1 H1 A1 S1
    cases c with
    | true => exact ⟨M1, ρ1, A1, ha.mono ρ1 _ _ (fun d ρ2 q2 M2 v2 H2 A2 S2 r2 => q2 M2 v2 H2 A2 (S1.trans S2) r2) q1⟩
    | false => exact ⟨M1, ρ1, A1, hb.mono ρ1 _ _ (fun d ρ2 q2 M2 v2 H2 A2 S2 r2 => q2 M2 v2 H2 A2 (S1.trans S2) r2) q1⟩

/-! ### arguments -/
variable {es : List Expr} {wr : WA}
def wNil : WA := fun ρ Q => Q [] ρ
def wCons (wa : WE) (wr : WA) : WA := fun ρ Q => wa ρ fun x ρ1 => wr ρ1 fun xs ρ2 => Q (x :: xs) ρ2
theorem qa_nil : QA X Φ [] wNil := ⟨fun ρ Q Q' h q => h _ _ q, PAw pa_nil fun σ H Q q => by
  obtain ⟨M, ρ, A, q⟩ := q
  exact q M [] H A .refl .nil⟩
theorem qa_cons (ha : QE X Φ a wa) (hr : QA X Φ es wr) (hs : starEach (a :: es) X.env = (false, eval a X.env) :: starEach es X.env := by rfl) : QA X Φ (a :: es) (wCons wa wr) := by
  refine ⟨fun ρ Q Q' h q => ha.mono ρ _ _ (fun x ρ1 q1 => hr.mono ρ1 _ _ (fun xs ρ2 q2 => h _ _ q2) q1) q, PAw (pa_cons ha.run hr.run hs) fun σ H Q q => ?_⟩
  obtain ⟨M, ρ, A, q⟩ := q
  refine ⟨M, ρ, A, ha.mono ρ _ _ (fun x ρ1 q1 => ?_) q⟩
  intro M1 v H1 A1 S1 r1
  refine ⟨M1, ρ1, A1, hr.mono ρ1 _ _ (fun xs ρ2 q2 => ?_) q1⟩
  intro M2 vs H2 A2 S2 r2
  exact q2 M2 (v :: vs) H2 A2 (S1.trans S2) (.cons (r1.step S2) r2)
theorem lift_call {r : List V → Hp → VK → Prop} {k : KL} (hk : OpL Φ.K r k) (ha : QA X Φ es wr) : ∀ σ H Q, liftE Φ (wCl k wr) σ H Q → tCB r (liftA Φ wr) σ H Q := by
  intro σ H Q ⟨M, ρ, A, q⟩
  refine ⟨M, ρ, A, ha.mono ρ _ _ (fun xs ρ1 q1 => ?_) q⟩
  intro M1 vs H1 A1 S1 r1
  refine hk M1 H1 vs xs _ Q r1 (fun b hb => let ⟨_, z, _⟩ := A1.lst b hb; ⟨_, z⟩) q1 fun z v' H' p s r' => ?_
  exact p M1 v' H' (A1.same s) (S1.trans (step_same s)) r'
theorem qe_callB {id : String} {r : List V → Hp → VK → Prop} {k : KL} {x : Str} {p : Pos} (hc : CallR X (.builtin id) r) (hk : OpL Φ.K r k) (km : MonoL k) (hg : Gl X x) (hm : X.mg x = none) (hv : bootBuiltins x = some (.builtin id)) (ha : QA X Φ (e :: es) wr) (hn : x ≠ "__name__" := by decide) (hdb : (x == ("__debug__" : Str)) = false := by decide)
    (he : starEach (e :: es) X.env = (false, eval e X.env) :: starEach es X.env := by rfl) (hpl : (backTo pos (starEach es X.env)).any (·.1) = false := by rfl) : QE X Φ (.Call (.Name x p) (e :: es) [] pos) (wCl k wr) :=
  ⟨fun ρ Q Q' h q => ha.mono ρ _ _ (fun xs ρ1 q1 => km xs _ _ (fun z p => h z ρ1 p) q1) q, PEw (pe_callB hc hg hm hv ha.run hn hdb he hpl) (lift_call hk ha)⟩
theorem qe_callTy {T : String} {r : List V → Hp → VK → Prop} {k : KL} {x : Str} {p : Pos} (hc : CallR X (.type T) r) (hk : OpL Φ.K r k) (km : MonoL k) (hg : Gl X x) (hm : X.mg x = none) (hv : bootBuiltins x = some (.type T)) (ha : QA X Φ (e :: es) wr) (hn : x ≠ "__name__" := by decide) (hdb : (x == ("__debug__" : Str)) = false := by decide)
    (he : starEach (e :: es) X.env = (false, eval e X.env) :: starEach es X.env := by rfl) (hpl : (backTo pos (starEach es X.env)).any (·.1) = false := by rfl) : QE X Φ (.Call (.Name x p) (e :: es) [] pos) (wCl k wr) :=
  ⟨fun ρ Q Q' h q => ha.mono ρ _ _ (fun xs ρ1 q1 => km xs _ _ (fun z p => h z ρ1 p) q1) q, PEw (pe_callTy hc hg hm hv ha.run hn hdb he hpl) (lift_call hk ha)⟩
/-- one argument, read at once -/
def Op1L (K : PySem.W.Frag) (r : List V → Hp → VK → Prop) (k : K1) : Prop := Op1 K (fun v => r [v]) k
theorem lift_call1 {r : List V → Hp → VK → Prop} {k : K1} (hk : Op1L Φ.K r k) (ha : QB X Φ e wa) (mk : ∀ ta : TA, PA X [e] ta → PE X c (tCB r ta)) (km : Mono1 k)
    (hs : starEach (e :: []) X.env = (false, eval e X.env) :: starEach [] X.env := by rfl) : QE X Φ c (wUn k wa) := by
  refine ⟨fun ρ Q Q' h q => ha.mono ρ _ _ (fun x ρ1 q1 => km x _ _ (fun z p => h z ρ1 p) q1) q, PEw (mk _ (pa_cons ha.run pa_nil hs)) fun σ H Q ⟨M, ρ, A, q⟩ => ?_⟩
  refine ⟨M, ρ, A, ha.mono ρ _ _ (fun x ρ1 q1 => ?_) q⟩
  intro M1 v H1 A1 S1 r1
  refine hk M1 H1 v x _ Q r1 (fun b hb => let ⟨_, z, _⟩ := A1.lst b hb; ⟨_, z⟩) q1 fun z v' H' p s r' => ?_
  exact p M1 v' H' (A1.same s) (S1.trans (step_same s)) r'
theorem qe_b1 {id : String} {r : List V → Hp → VK → Prop} {k : K1} {x : Str} {p : Pos} (hc : CallR X (.builtin id) r) (hk : Op1L Φ.K r k) (km : Mono1 k) (hg : Gl X x) (hm : X.mg x = none) (hv : bootBuiltins x = some (.builtin id)) (ha : QB X Φ e wa) (hn : x ≠ "__name__" := by decide) (hdb : (x == ("__debug__" : Str)) = false := by decide)
    (he : starEach (e :: []) X.env = (false, eval e X.env) :: starEach [] X.env := by rfl) (hpl : (backTo pos (starEach [] X.env)).any (·.1) = false := by rfl) : QE X Φ (.Call (.Name x p) [e] [] pos) (wUn k wa) :=
  lift_call1 hk ha (fun _ h => pe_callB hc hg hm hv h hn hdb he hpl) km he
theorem qe_t1 {T : String} {r : List V → Hp → VK → Prop} {k : K1} {x : Str} {p : Pos} (hc : CallR X (.type T) r) (hk : Op1L Φ.K r k) (km : Mono1 k) (hg : Gl X x) (hm : X.mg x = none) (hv : bootBuiltins x = some (.type T)) (ha : QB X Φ e wa) (hn : x ≠ "__name__" := by decide) (hdb : (x == ("__debug__" : Str)) = false := by decide)
    (he : starEach (e :: []) X.env = (false, eval e X.env) :: starEach [] X.env := by rfl) (hpl : (backTo pos (starEach [] X.env)).any (·.1) = false := by rfl) : QE X Φ (.Call (.Name x p) [e] [] pos) (wUn k wa) :=
  lift_call1 hk ha (fun _ h => pe_callTy hc hg hm hv h hn hdb he hpl) km he
/-- (a, b, ..) -/
def wTup (wr : WA) : WE := fun ρ Q => wr ρ fun xs ρ1 => xs.length ≤ sizeLine ∧ Q (.tup xs) ρ1
theorem qe_tup {x1} (ha : QA X Φ es wr) : QE X Φ (.Tuple es x1 pos) (wTup wr) := by
  refine ⟨fun ρ Q Q' h q => ha.mono ρ _ _ (fun xs ρ1 q1 => ⟨q1.1, h _ _ q1.2⟩) q, PEw (pe_tup ha.run) fun σ H Q q => ?_⟩
  obtain ⟨M, ρ, A, q⟩ := q
  refine ⟨M, ρ, A, ha.mono ρ _ _ (fun xs ρ1 q1 => ?_) q⟩
  intro M1 vs H1 A1 S1 r1
  refine ⟨by rw [r1.length]; exact q1.1, fun p hp => ?_⟩
  have s := same_upd (o := .tup vs) hp
  exact q1.2 M1 _ _ (A1.same s) (S1.trans (step_same s)) (.tup upd_same (r1.step (step_same s)))

/-! ### new lists: of the def's own, or as values -/
/-- a new list: in M, at no slot -/
structure NewL (Φ : Cl) (M : Addr → Prop) (σ : L2.St) (H : Hp) (ρ : Ev) (p : Addr) (acc : List V) (ds : List D) : Prop where
  m : M p
  h : H p = some (.lst acc)
  r : RpAll Φ.K M H acc ds
  h0 : Φ.H0 p = Option.none
  t : Φ.T p = Option.none
  n : ∀ (i : Nat) (w : Bool) (ys : List D), ρ[i]? = some (.own w ys) → σ[i]? ≠ some (some (.ref p))
  f : ∀ (i : Nat) (w : Bool) (F : Addr → Prop) (P : (Addr → Prop) → Hp → Addr → Prop), ρ[i]? = some (.obj w F P) → ¬ F p
def liftF (Φ : Cl) (w : WA) : TE := fun σ H Q => ∃ M ρ, Abs Φ M σ H ρ ∧ w ρ fun xs ρ' => ∀ M' p vs H', Abs Φ M' σ H' ρ' → Step M H M' H' → NewL Φ M' σ H' ρ' p vs xs → Q (.ref p) H'
structure QF (X : Cx) (Φ : Cl) (e : Expr) (w : WA) : Prop where
  mono : ∀ ρ Q Q', (∀ x ρ', Q x ρ' → Q' x ρ') → w ρ Q → w ρ Q'
  run : PE X e (liftF Φ w)
theorem Abs.add {M : Addr → Prop} {σ : L2.St} {H : Hp} {ρ : Ev} (A : Abs Φ M σ H ρ) {p : Addr} {vs : List V} {xs : List D} (hp : H p = none) (rr : RpAll Φ.K M H vs xs) :
    Abs Φ (more M p) σ (upd H p (.lst vs)) ρ ∧ Step M H (more M p) (upd H p (.lst vs)) ∧ NewL Φ (more M p) σ (upd H p (.lst vs)) ρ p vs xs := by
  have st : Step M H (more M p) (upd H p (.lst vs)) := ⟨fun a o hm h => ⟨fun z => z.elim hm (fun y => ne_of_none h hp y), same_upd hp a o h⟩, fun a xs h => same_upd hp a _ h, fun a o u h => same_upd hp a _ h⟩
  have h0 : Φ.H0 p = none := by
    cases q : Φ.H0 p with
    | none => rfl
    | some o =>
      by_cases hw : Φ.W p
      · obtain ⟨vs, z, _⟩ := A.lst p (A.m0 p (A.wm p hw))
        rw [hp] at z; cases z
      · have := A.keep p o q hw
        rw [hp] at this; cases this
  have ht : Φ.T p = none := by
    cases q : Φ.T p with
    | none => rfl
    | some o => have := (A.hold p o q).2; rw [hp] at this; cases this
  refine ⟨⟨A.len, fun i e o h1 h2 => ?_, A.inj, fun a h => ?_, fun a h => .inl (A.m0 a h), fun a o h1 h2 => same_upd hp a o (A.keep a o h1 h2), A.wm, fun a o h => ⟨.inl (A.hold a o h).1, same_upd hp a o (A.hold a o h).2⟩, A.injd, A.tabs st fun P ps m h => ⟨.inl m, same_upd hp _ _ h⟩, A.far⟩, st, ⟨.inr rfl, upd_same, rr.step st, h0, ht, fun i w ys h1 h2 => ?_, fun i w F P h1 hf => ?_⟩⟩
  · have q := A.slot i e o h1 h2
    cases e with
    | un => trivial
    | d x => obtain ⟨v, e1, r⟩ := q; exact ⟨v, e1, r.step st⟩
    | own w xs => obtain ⟨a, ws, e1, m, h, r, z⟩ := q; exact ⟨a, ws, e1, .inl m, same_upd hp _ _ h, r.step st, z⟩
    | dic ks => obtain ⟨a, P, w, ws, e1, m, h, r, z⟩ := q; exact ⟨a, P, w, ws, e1, .inl m, same_upd hp _ _ h, r.step st, z⟩
    | obj w F P =>
      obtain ⟨a, e1, f, g, r⟩ := q
      refine ⟨a, e1, fun b hb => ⟨.inl (f b hb).1, (f b hb).2⟩, g, g.1 _ _ _ _ _ st (fun b hb => ?_) r⟩
      obtain ⟨o, hb', _⟩ := A.lst b (f b hb).1
      rw [hb', same_upd hp b o hb']
  · rcases h with h | h
    · obtain ⟨ws, q, mu⟩ := A.lst a h
      exact ⟨ws, same_upd hp _ _ q, mu⟩
    · rw [h]; exact ⟨_, upd_same, trivial⟩
  · obtain ⟨a, ws, e1, m, h, r, z⟩ := A.slot i _ _ h1 h2
    cases e1
    rw [hp] at h; cases h
  · have hi : i < σ.length := by rw [A.len]; exact (List.getElem?_eq_some_iff.mp h1).1
    obtain ⟨a, e1, f, g, r⟩ := A.slot i _ _ h1 (List.getElem?_eq_getElem hi)
    obtain ⟨o, hb', _⟩ := A.lst p (f p hf).1
    rw [hp] at hb'; cases hb'
/-- where no slot holds it as its own it may be taken as a value -/
theorem Abs.drop {M : Addr → Prop} {σ : L2.St} {H : Hp} {ρ : Ev} (A : Abs Φ M σ H ρ) {p : Addr} {vs : List V} {xs : List D} (N : NewL Φ M σ H ρ p vs xs) : Abs Φ (but M p) σ H ρ ∧ Step M H (but M p) H ∧ Rp Φ.K (but M p) H (.ref p) (.lst xs) := by
  have st : Step M H (but M p) H := ⟨fun b o hb hh => ⟨fun z => hb z.1, hh⟩, fun _ _ q => q, fun _ _ _ q => q⟩
  refine ⟨⟨A.len, fun i e o h1 h2 => ?_, A.inj, fun a h => A.lst a h.1, fun a h => ⟨A.m0 a h, Cl.fresh_ne (M := M) (σ := σ) (H := H) (ρ := ρ) ok.trk N.h0 a h⟩, A.keep, A.wm, fun a o h => ⟨⟨(A.hold a o h).1, fun y => by rw [y, N.t] at h; cases h⟩, (A.hold a o h).2⟩, A.injd, A.tabs st fun P ps m h => ⟨⟨m, fun y => by rw [y, N.h] at h; cases h⟩, h⟩, A.far⟩, st, .lst (fun z => z.2 rfl) N.h (N.r.step st)⟩
  have q := A.slot i e o h1 h2
  cases e with
  | un => trivial
  | d x => obtain ⟨v, e1, r⟩ := q; exact ⟨v, e1, r.step st⟩
  | own w xs =>
    obtain ⟨a, ws, e1, m, h, r, z⟩ := q
    refine ⟨a, ws, e1, ⟨m, fun y => ?_⟩, h, r.step st, z⟩
    subst y; subst e1
    exact N.n i w xs h1 h2
  | dic ks =>
    obtain ⟨a, P, w, ws, e1, m, h, r, z⟩ := q
    refine ⟨a, P, w, ws, e1, ⟨m, fun y => ?_⟩, h, r.step st, z⟩
    subst y
    rw [N.h] at h; cases h
  | obj w F P =>
    obtain ⟨a, e1, f, g, r⟩ := q
    exact ⟨a, e1, fun b hb => ⟨⟨(f b hb).1, fun y => N.f i w F P h1 (y ▸ hb)⟩, (f b hb).2⟩, g, g.1 _ _ _ _ _ st (fun _ _ => rfl) r⟩
theorem QF.qe {w : WA} (h : QF X Φ e w) : QE X Φ e (fun ρ Q => w ρ fun xs ρ' => Q (.lst xs) ρ') := by
  refine ⟨fun ρ Q Q' g q => h.mono ρ _ _ (fun xs ρ1 q1 => g _ _ q1) q, PEw h.run fun σ H Q q => ?_⟩
  obtain ⟨M, ρ, A, q⟩ := q
  refine ⟨M, ρ, A, h.mono ρ _ _ (fun xs ρ1 q1 => ?_) q⟩
  intro M' p vs H' A' S' N'
  obtain ⟨A2, S2, r2⟩ := A'.drop N'
  exact q1 _ _ _ A2 (S'.trans S2) r2
def wLst (wr : WA) : WA := fun ρ Q => wr ρ fun xs ρ1 => xs.length ≤ sizeLine ∧ Q xs ρ1
theorem qf_lst (ha : QA X Φ es wr) : QF X Φ (.List es pos) (wLst wr) := by
  refine ⟨fun ρ Q Q' h q => ha.mono ρ _ _ (fun xs ρ1 q1 => ⟨q1.1, h _ _ q1.2⟩) q, PEw (pe_lst ha.run) fun σ H Q q => ?_⟩
  obtain ⟨M, ρ, A, q⟩ := q
  refine ⟨M, ρ, A, ha.mono ρ _ _ (fun xs ρ1 q1 => ?_) q⟩
  intro M1 vs H1 A1 S1 r1
  refine ⟨by rw [r1.length]; exact q1.1, fun p hp => ?_⟩
  obtain ⟨A2, S2, N2⟩ := A1.add hp r1
  exact q1.2 _ p vs _ A2 (S1.trans S2) N2
/-- a built-in's call of one argument that gives a new list -/
abbrev KF := D → (List D → Prop) → Prop
def MonoF (k : KF) : Prop := ∀ x P P', (∀ z, P z → P' z) → k x P → k x P'
def OpF (K : PySem.W.Frag) (r : List V → Hp → VK → Prop) (k : KF) : Prop := ∀ (M : Addr → Prop) (H : Hp) (v : V) (x : D) (P : List D → Prop) (Q : VK), RpB K M H v x → k x P →
  (∀ zs ws p, P zs → H p = none → RpAll K M H ws zs → Q (.ref p) (upd H p (.lst ws))) → r [v] H Q
def wUnF (k : KF) (wa : WE) : WA := fun ρ Q => wa ρ fun x ρ1 => k x fun zs => Q zs ρ1
theorem lift_callF {r : List V → Hp → VK → Prop} {k : KF} (hk : OpF Φ.K r k) (ha : QB X Φ e wa) (mk : ∀ ta : TA, PA X [e] ta → PE X c (tCB r ta)) (km : MonoF k)
    (hs : starEach (e :: []) X.env = (false, eval e X.env) :: starEach [] X.env := by rfl) : QF X Φ c (wUnF k wa) := by
  refine ⟨fun ρ Q Q' h q => ha.mono ρ _ _ (fun x ρ1 q1 => km x _ _ (fun z p => h z ρ1 p) q1) q, PEw (mk _ (pa_cons ha.run pa_nil hs)) fun σ H Q ⟨M, ρ, A, q⟩ => ?_⟩
  refine ⟨M, ρ, A, ha.mono ρ _ _ (fun x ρ1 q1 => ?_) q⟩
  intro M1 v H1 A1 S1 r1
  refine hk M1 H1 v x _ Q r1 q1 fun zs ws p pz hp rz => ?_
  obtain ⟨A2, S2, N2⟩ := A1.add hp rz
  exact pz _ p ws _ A2 (S1.trans S2) N2
theorem qf_b1 {id : String} {r : List V → Hp → VK → Prop} {k : KF} {x : Str} {p : Pos} (hc : CallR X (.builtin id) r) (hk : OpF Φ.K r k) (km : MonoF k) (hg : Gl X x) (hm : X.mg x = none) (hv : bootBuiltins x = some (.builtin id)) (ha : QB X Φ e wa) (hn : x ≠ "__name__" := by decide) (hdb : (x == ("__debug__" : Str)) = false := by decide)
    (he : starEach (e :: []) X.env = (false, eval e X.env) :: starEach [] X.env := by rfl) (hpl : (backTo pos (starEach [] X.env)).any (·.1) = false := by rfl) : QF X Φ (.Call (.Name x p) [e] [] pos) (wUnF k wa) :=
  lift_callF hk ha (fun _ h => pe_callB hc hg hm hv h hn hdb he hpl) km he
theorem qf_t1 {T : String} {r : List V → Hp → VK → Prop} {k : KF} {x : Str} {p : Pos} (hc : CallR X (.type T) r) (hk : OpF Φ.K r k) (km : MonoF k) (hg : Gl X x) (hm : X.mg x = none) (hv : bootBuiltins x = some (.type T)) (ha : QB X Φ e wa) (hn : x ≠ "__name__" := by decide) (hdb : (x == ("__debug__" : Str)) = false := by decide)
    (he : starEach (e :: []) X.env = (false, eval e X.env) :: starEach [] X.env := by rfl) (hpl : (backTo pos (starEach [] X.env)).any (·.1) = false := by rfl) : QF X Φ (.Call (.Name x p) [e] [] pos) (wUnF k wa) :=
  lift_callF hk ha (fun _ h => pe_callTy hc hg hm hv h hn hdb he hpl) km he
end
end AL
set_option Elab.async false
set_option linter.all false
set_option maxRecDepth 100000
namespace AL
open PySem PySem.Spec PyProof.Rows L2

section
variable {X : Cx} {Φ : Cl} [ok : ClOk Φ] {pos : Pos} {e a b c : Expr} {wa wb wc : WE} {ta : WT} {st : Stmt} {rest : List Stmt} {w u : WS}

/-! ### blocks -/
def wNext : WS := fun R ρ => R.nx ρ
def wSeq (w u : WS) : WS := fun R ρ => w { R with nx := fun ρ' => u R ρ' } ρ
def wBreak : WS := fun R ρ => R.bk ρ
def wCont : WS := fun R ρ => R.ct ρ
def wDrop (wa : WE) : WS := fun R ρ => wa ρ fun _ ρ' => R.nx ρ'
def wRet (wa : WE) : WS := fun R ρ => wa ρ R.rt
def wRetN : WS := fun R ρ => R.rt .non ρ
def wIfS (t : WT) (w u : WS) : WS := fun R ρ => t ρ fun b ρ' => if b = true then w R ρ' else u R ρ'
def wNever : WS := fun _ _ => False
theorem Step.ends {Φ : Cl} {M M' : Addr → Prop} {H H' : Hp} {D : Ends} (s : Step M H M' H') : (absEnds Φ M H D).Imp (absEnds Φ M' H' D) :=
  ⟨fun ρ h M2 σ2 H2 A S => h M2 σ2 H2 A (s.trans S), fun x ρ h M2 σ2 v H2 A S r => h M2 σ2 v H2 A (s.trans S) r, fun ρ h M2 σ2 H2 A S => h M2 σ2 H2 A (s.trans S), fun ρ h M2 σ2 H2 A S => h M2 σ2 H2 A (s.trans S)⟩
theorem qss_nil : QSs X Φ [] wNext := ⟨fun ρ R R' h q => h.nx ρ q, PSsw pss_nil fun D σ H ⟨M, ρ, A, q⟩ => q M σ H A .refl⟩
theorem qs_pass : QS X Φ (.Pass pos) wNext := ⟨fun ρ R R' h q => h.nx ρ q, PSw ps_pass fun D σ H ⟨M, ρ, A, q⟩ => q M σ H A .refl⟩
theorem qs_break : QS X Φ (.Break pos) wBreak := ⟨fun ρ R R' h q => h.bk ρ q, PSw ps_break fun D σ H ⟨M, ρ, A, q⟩ => q M σ H A .refl⟩
theorem qs_continue : QS X Φ (.Continue pos) wCont := ⟨fun ρ R R' h q => h.ct ρ q, PSw ps_continue fun D σ H ⟨M, ρ, A, q⟩ => q M σ H A .refl⟩
theorem qss_cons (h1 : QS X Φ st w) (h2 : QSs X Φ rest u) : QSs X Φ (st :: rest) (wSeq w u) := by
  refine ⟨fun ρ R R' h q => h1.mono ρ _ _ (h.nxTo fun ρ' q' => h2.mono ρ' R R' h q') q, PSsw (pss_cons h1.run h2.run) fun D σ H ⟨M, ρ, A, q⟩ => ?_⟩
  refine ⟨M, ρ, A, h1.mono ρ { absEnds Φ M H D with nx := fun ρ' => u (absEnds Φ M H D) ρ' } _ ⟨fun ρ' q' => ?_, fun _ _ h => h, fun _ h => h, fun _ h => h⟩ q⟩
  intro M' σ' H' A' S'
  exact ⟨M', ρ', A', h2.mono ρ' _ _ S'.ends q'⟩
theorem qss_one (h1 : QS X Φ st w) : QSs X Φ [st] w := ⟨h1.mono, pss_one h1.run⟩
theorem qs_never : QS X Φ st wNever := ⟨fun _ _ _ _ q => q.elim, PSw ps_never fun _ _ _ ⟨_, _, _, q⟩ => q.elim⟩
theorem qss_never {sts : List Stmt} : QSs X Φ sts wNever := ⟨fun _ _ _ _ q => q.elim, PSsw pss_never fun _ _ _ ⟨_, _, _, q⟩ => q.elim⟩
theorem qs_expr (he : QE X Φ e wa) (hs : swapsWith e none pos.line X.env = pure false := by rfl) : QS X Φ (.Expr e pos) (wDrop wa) := by
  refine ⟨fun ρ R R' h q => he.mono ρ _ _ (fun x ρ' q' => h.nx ρ' q') q, PSw (ps_expr he.run hs) fun D σ H ⟨M, ρ, A, q⟩ => ?_⟩
  exact ⟨M, ρ, A, he.mono ρ _ _ (fun x ρ' q' M' v H' A' S' r' => q' M' σ H' A' S') q⟩
theorem qs_ret (he : QE X Φ e wa) : QS X Φ (.Return (some e) pos) (wRet wa) := by
  refine ⟨fun ρ R R' h q => he.mono ρ _ _ (fun x ρ' q' => h.rt x ρ' q') q, PSw (ps_ret he.run) fun D σ H ⟨M, ρ, A, q⟩ => ?_⟩
  exact ⟨M, ρ, A, he.mono ρ _ _ (fun x ρ' q' M' v H' A' S' r' => q' M' σ v H' A' S' r') q⟩
theorem qs_retN : QS X Φ (.Return none pos) wRetN := ⟨fun ρ R R' h q => h.rt _ ρ q, PSw ps_retN fun D σ H ⟨M, ρ, A, q⟩ => q M σ .non H A .refl .non⟩
theorem qs_if {ss us : List Stmt} (hc : QT X Φ c ta) (ha : QSs X Φ ss w) (hb : QSs X Φ us u) : QS X Φ (.If c ss us pos) (wIfS ta w u) := by
  refine ⟨fun ρ R R' h q => hc.mono ρ _ _ (fun d ρ' q' => ?_) q, PSw (ps_if hc.run ha.run hb.run) fun D σ H ⟨M, ρ, A, q⟩ => ?_⟩
  · cases d with
    | true => exact ha.mono ρ' R R' h q'
    | false => exact hb.mono ρ' R R' h q'
  · refine ⟨M, ρ, A, hc.mono ρ _ _ (fun d ρ' q' => ?_) q⟩
    intro M' H' A' S'
    cases d with
    | true => exact ⟨M', ρ', A', ha.mono ρ' _ _ S'.ends q'⟩
    | false => exact ⟨M', ρ', A', hb.mono ρ' _ _ S'.ends q'⟩

/-! ### targets -/
abbrev WG := D → Ev → (Ev → Prop) → Prop
abbrev WGs := List D → Ev → (Ev → Prop) → Prop
def liftG (Φ : Cl) (w : WG) : TG := fun v σ H Q => ∃ M ρ x, Abs Φ M σ H ρ ∧ Rp Φ.K M H v x ∧ w x ρ fun ρ' => ∀ M' σ' H', Abs Φ M' σ' H' ρ' → Step M H M' H' → Q σ' H'
def liftGs (Φ : Cl) (w : WGs) : TGs := fun vs σ H Q => ∃ M ρ xs, Abs Φ M σ H ρ ∧ RpAll Φ.K M H vs xs ∧ w xs ρ fun ρ' => ∀ M' σ' H', Abs Φ M' σ' H' ρ' → Step M H M' H' → Q σ' H'
structure QG (X : Cx) (Φ : Cl) (tg : Expr) (w : WG) : Prop where
  mono : ∀ x ρ Q Q', (∀ ρ', Q ρ' → Q' ρ') → w x ρ Q → w x ρ Q'
  run : PG X tg (liftG Φ w)
structure QGs (X : Cx) (Φ : Cl) (tg : List Expr) (w : WGs) : Prop where
  mono : ∀ x ρ Q Q', (∀ ρ', Q ρ' → Q' ρ') → w x ρ Q → w x ρ Q'
  run : PGs X tg (liftGs Φ w)
theorem PGw {tg : Expr} {t t' : TG} (h : PG X tg t) (i : ∀ v σ H Q, t' v σ H Q → t v σ H Q) : PG X tg t' := ⟨fun pins s σ H v u Q I r q => h.run pins s σ H v u Q I r (i v σ H Q q)⟩
theorem PGsw {tg : List Expr} {t t' : TGs} (h : PGs X tg t) (i : ∀ v σ H Q, t' v σ H Q → t v σ H Q) : PGs X tg t' := ⟨fun pins s σ H v u Q I r q => h.run pins s σ H v u Q I r (i v σ H Q q)⟩
def wName (i : Nat) : WG := fun x ρ Q => Q (ρ.set i (.d x))
theorem Abs.store {M : Addr → Prop} {σ : L2.St} {H : Hp} {ρ : Ev} (A : Abs Φ M σ H ρ) {i : Nat} {v : V} {x : D} (r : Rp Φ.K M H v x) : Abs Φ M (σ.set i (some v)) H (ρ.set i (.d x)) := by
  refine ⟨by rw [List.length_set, List.length_set]; exact A.len, fun j en o h1 h2 => ?_, fun j k p w1 w2 ys zs h1 h2 h3 h4 => ?_, A.lst, A.m0, A.keep, A.wm, A.hold, fun j k b ys zs h1 h2 h3 h4 => by
    obtain ⟨n1, g1⟩ := not_dic (fun _ => En.noConfusion) h1
    obtain ⟨n2, g2⟩ := not_dic (fun _ => En.noConfusion) h2
    rw [List.getElem?_set_ne n1] at h3
    rw [List.getElem?_set_ne n2] at h4
    exact A.injd j k b ys zs g1 g2 h3 h4, A.tab, A.far.setB⟩
  · by_cases hj : i = j
    · subst hj
      have hi : i < ρ.length := by have := (List.getElem?_eq_some_iff.mp h1).1; rwa [List.length_set] at this
      rw [List.getElem?_set_self hi] at h1
      cases h1
      rw [List.getElem?_set_self (by rw [A.len]; exact hi)] at h2
      cases h2
      exact ⟨_, rfl, r⟩
    · rw [List.getElem?_set_ne hj] at h1 h2
      exact A.slot j en o h1 h2
  · by_cases hj : i = j
    · subst hj
      have hi : i < ρ.length := by have := (List.getElem?_eq_some_iff.mp h1).1; rwa [List.length_set] at this
      rw [List.getElem?_set_self hi] at h1
      cases h1
    · by_cases hk : i = k
      · subst hk
        have hi : i < ρ.length := by have := (List.getElem?_eq_some_iff.mp h2).1; rwa [List.length_set] at this
        rw [List.getElem?_set_self hi] at h2
        cases h2
      · rw [List.getElem?_set_ne hj] at h1 h3
        rw [List.getElem?_set_ne hk] at h2 h4
        exact A.inj j k p w1 w2 ys zs h1 h2 h3 h4
theorem Abs.storeOwn {M : Addr → Prop} {σ : L2.St} {H : Hp} {ρ : Ev} (A : Abs Φ M σ H ρ) {i : Nat} {p : Addr} {vs : List V} {xs : List D} (N : NewL Φ M σ H ρ p vs xs) : Abs Φ M (σ.set i (some (.ref p))) H (ρ.set i (.own false xs)) := by
  refine ⟨by rw [List.length_set, List.length_set]; exact A.len, fun j en o h1 h2 => ?_, fun j k q w1 w2 ys zs h1 h2 h3 h4 => ?_, A.lst, A.m0, A.keep, A.wm, A.hold, fun j k b ys zs h1 h2 h3 h4 => by
    obtain ⟨n1, g1⟩ := not_dic (fun _ => En.noConfusion) h1
    obtain ⟨n2, g2⟩ := not_dic (fun _ => En.noConfusion) h2
    rw [List.getElem?_set_ne n1] at h3
    rw [List.getElem?_set_ne n2] at h4
    exact A.injd j k b ys zs g1 g2 h3 h4, A.tab, A.far.set (fun k hk => List.getElem?_set_ne (fun z => hk z.symm)) (fun _ _ _ => En.noConfusion) (fun j w F P a _ h1 h3 => by
      have hi : i < σ.length := by have := (List.getElem?_eq_some_iff.mp h3).1; rwa [List.length_set] at this
      rw [List.getElem?_set_self hi] at h3
      cases h3
      exact N.f j w F P h1)⟩
  · by_cases hj : i = j
    · subst hj
      have hi : i < ρ.length := by have := (List.getElem?_eq_some_iff.mp h1).1; rwa [List.length_set] at this
      rw [List.getElem?_set_self hi] at h1
      cases h1
      rw [List.getElem?_set_self (by rw [A.len]; exact hi)] at h2
      cases h2
      exact ⟨p, vs, rfl, N.m, N.h, N.r, by rw [if_neg Bool.false_ne_true]; exact N.h0, N.t⟩
    · rw [List.getElem?_set_ne hj] at h1 h2
      exact A.slot j en o h1 h2
  · by_cases hj : i = j
    · by_cases hk : i = k
      · rw [← hj, ← hk]
      · subst hj
        have hi : i < ρ.length := by have := (List.getElem?_eq_some_iff.mp h1).1; rwa [List.length_set] at this
        rw [List.getElem?_set_ne hk] at h2 h4
        rw [List.getElem?_set_self (by rw [A.len]; exact hi)] at h3
        cases h3
        exact absurd h4 (N.n k _ _ h2)
    · by_cases hk : i = k
      · subst hk
        have hi : i < ρ.length := by have := (List.getElem?_eq_some_iff.mp h2).1; rwa [List.length_set] at this
        rw [List.getElem?_set_ne hj] at h1 h3
        rw [List.getElem?_set_self (by rw [A.len]; exact hi)] at h4
        cases h4
        exact absurd h3 (N.n j _ _ h1)
      · rw [List.getElem?_set_ne hj] at h1 h3
        rw [List.getElem?_set_ne hk] at h2 h4
        exact A.inj j k q w1 w2 ys zs h1 h2 h3 h4
theorem qg_name {i : Nat} {x : Str} (hN : X.N.Nodup) (hi : X.N[i]? = some x) (hx : Loc X.env.scope x) (hf : X.fn x = true ∨ X.env.scope.names.lookup x = some .local := by first | exact .inl rfl | exact .inr rfl | assumption) : QG X Φ (.Name x pos) (wName i) :=
  ⟨fun x ρ Q Q' h q => h _ q, PGw (pg_name hN hi hx hf) fun v σ H Q ⟨M, ρ, x, A, r, q⟩ => q M _ H (A.store r) .refl⟩
def wgNil : WGs := fun xs ρ Q => match xs with
  | [] => Q ρ
  | _ => False
def wgCons (g : WG) (r : WGs) : WGs := fun xs ρ Q => match xs with
  | x :: ys => g x ρ fun ρ' => r ys ρ' Q
  | [] => False
theorem qgs_nil : QGs X Φ [] wgNil := by
  refine ⟨fun xs ρ Q Q' h q => ?_, PGsw pgs_nil fun vs σ H Q ⟨M, ρ, xs, A, r, q⟩ => ?_⟩
  · cases xs with
    | nil => exact h _ q
    | cons _ _ => exact q.elim
  · cases r with
    | nil => exact ⟨rfl, q M σ H A .refl⟩
    | cons _ _ => exact q.elim
theorem qgs_cons {tg : Expr} {tgs : List Expr} {g : WG} {r : WGs} (h1 : QG X Φ tg g) (h2 : QGs X Φ tgs r)
    (hs : (assignEach (tg :: tgs) X.env).map (·.2) = assign tg X.env :: (assignEach tgs X.env).map (·.2) := by rfl) : QGs X Φ (tg :: tgs) (wgCons g r) := by
  refine ⟨fun xs ρ Q Q' h q => ?_, PGsw (pgs_cons h1.run h2.run hs) fun vs σ H Q ⟨M, ρ, xs, A, rr, q⟩ => ?_⟩
  · cases xs with
    | nil => exact q.elim
    | cons x ys => exact h1.mono x ρ _ _ (fun ρ' q' => h2.mono ys ρ' _ _ h q') q
  · cases rr with
    | nil => exact q.elim
    | cons r1 r2 =>
      refine ⟨_, _, rfl, M, ρ, _, A, r1, h1.mono _ ρ _ _ (fun ρ' q' => ?_) q⟩
      intro M' σ' H' A' S'
      exact ⟨M', ρ', _, A', r2.step S', h2.mono _ ρ' _ _ (fun ρ2 q2 M2 σ2 H2 A2 S2 => q2 M2 σ2 H2 A2 (S'.trans S2)) q'⟩
def wgTup (n : Nat) (g : WGs) : WG := fun x ρ Q => match x with
  | .tup xs => xs.length = n ∧ g xs ρ Q
  | _ => False
theorem qg_tup {tgs : List Expr} {k : Nat} {g : WGs} {n : Nat} (hc : X.calm = true) (h : QGs X Φ tgs g)
    (hn : (assignEach tgs X.env).length = n := by rfl) (hst : (assignEach tgs X.env).findIdx? (·.1) = none := by rfl) : QG X Φ (.Tuple tgs k pos) (wgTup n g) := by
  refine ⟨fun x ρ Q Q' i q => ?_, PGw (pg_tup hc h.run hn hst) fun v σ H Q ⟨M, ρ, x, A, r, q⟩ => ?_⟩
  · cases x <;> first | exact ⟨q.1, h.mono _ ρ _ _ i q.2⟩ | exact q.elim
  · cases r with
    | tup hh rr => exact ⟨_, _, rfl, .of hh, by rw [rr.length]; exact q.1, M, ρ, _, A, rr, q.2⟩
    | _ => exact q.elim
def wAsg (wa : WE) (g : WG) : WS := fun R ρ => wa ρ fun x ρ' => g x ρ' R.nx
theorem lift_asg {g : WG} (he : QE X Φ e wa) (hgm : ∀ x ρ Q Q', (∀ ρ', Q ρ' → Q' ρ') → g x ρ Q → g x ρ Q') : ∀ D σ H, liftS Φ (wAsg wa g) D σ H → tAsg (liftE Φ wa) (liftG Φ g) D σ H := by
  intro D σ H ⟨M, ρ, A, q⟩
  refine ⟨M, ρ, A, he.mono ρ _ _ (fun x ρ' q' => ?_) q⟩
  intro M' v H' A' S' r'
  exact ⟨M', ρ', x, A', r', hgm x ρ' _ _ (fun ρ2 q2 M2 σ2 H2 A2 S2 => q2 M2 σ2 H2 A2 (S'.trans S2)) q'⟩
theorem wAsg_mono {g : WG} (he : QE X Φ e wa) (hgm : ∀ x ρ Q Q', (∀ ρ', Q ρ' → Q' ρ') → g x ρ Q → g x ρ Q') : ∀ ρ R R', AEnds.Imp R R' → wAsg wa g R ρ → wAsg wa g R' ρ :=
  fun ρ R R' h q => he.mono ρ _ _ (fun x ρ' q' => hgm x ρ' _ _ h.nx q') q
theorem qs_asg {tg : Expr} {g : WG} (he : QE X Φ e wa) (hg : QG X Φ tg g) (hs : swapsWithSole [tg] e pos.line X.env = pure false := by rfl) (hw : swappedStores [tg] e X.env = pure none := by rfl)
    (h1 : (assignEach [tg] X.env).map (·.2) = [assign tg X.env] := by rfl) : QS X Φ (.Assign [tg] e pos) (wAsg wa g) :=
  ⟨wAsg_mono he hg.mono, PSw (ps_asg he.run hg.run hs hw h1) (lift_asg he hg.mono)⟩
theorem qs_set {i : Nat} {x : Str} {pos' : Pos} (hN : X.N.Nodup) (hi : X.N[i]? = some x) (hx : Loc X.env.scope x) (he : QE X Φ e wa) (hs : swapsWith e (some (.Name x pos')) pos.line X.env = pure false := by rfl) (hf : X.fn x = true ∨ X.env.scope.names.lookup x = some .local := by first | exact .inl rfl | exact .inr rfl | assumption) :
    QS X Φ (.Assign [.Name x pos'] e pos) (wAsg wa (wName i)) := by
  refine ⟨wAsg_mono he fun x ρ Q Q' h q => h _ q, PSw (ps_set hN hi hx he.run hs hf) fun D σ H ⟨M, ρ, A, q⟩ => ?_⟩
  refine ⟨M, ρ, A, he.mono ρ _ _ (fun x ρ' q' => ?_) q⟩
  intro M' v H' A' S' r'
  exact q' M' _ H' (A'.store r') S'
/-- name = a new list, to be changed -/
def wOwn (wa : WA) (i : Nat) : WS := fun R ρ => wa ρ fun xs ρ' => R.nx (ρ'.set i (.own false xs))
theorem qs_own {i : Nat} {x : Str} {pos' : Pos} {wl : WA} (hN : X.N.Nodup) (hi : X.N[i]? = some x) (hx : Loc X.env.scope x) (he : QF X Φ e wl) (hs : swapsWith e (some (.Name x pos')) pos.line X.env = pure false := by rfl) (hf : X.fn x = true ∨ X.env.scope.names.lookup x = some .local := by first | exact .inl rfl | exact .inr rfl | assumption) :
    QS X Φ (.Assign [.Name x pos'] e pos) (wOwn wl i) := by
  refine ⟨fun ρ R R' h q => he.mono ρ _ _ (fun xs ρ' q' => h.nx _ q') q, PSw (ps_set hN hi hx he.run hs hf) fun D σ H ⟨M, ρ, A, q⟩ => ?_⟩
  refine ⟨M, ρ, A, he.mono ρ _ _ (fun xs ρ' q' => ?_) q⟩
  intro M' p vs H' A' S' N'
  exact q' M' _ H' (A'.storeOwn N') S'
/-- a, b = x, y -/
def wPar (i j : Nat) (wr : WA) : WS := fun R ρ => wr ρ fun xs ρ' => match xs with
  | [x, y] => R.nx ((ρ'.set i (.d x)).set j (.d y))
  | _ => False
theorem qs_par {i j : Nat} {x y : Str} {wr : WA} {px py pt : Pos} {kt k2 pt2} (hc : X.calm = true) (hN : X.N.Nodup) (hi : X.N[i]? = some x) (hj : X.N[j]? = some y) (hij : i ≠ j)
    (hx : X.env.scope.names.lookup x = some .local) (hy : X.env.scope.names.lookup y = some .local) (ha : QA X Φ [a, b] wr)
    (hw : swappedStores [.Tuple [.Name x px, .Name y py] kt pt] (.Tuple [a, b] k2 pt2) X.env = pure (some [x, y]))
    (hs : swapsWithSole [.Tuple [.Name x px, .Name y py] kt pt] (.Tuple [a, b] k2 pt2) pos.line X.env = pure false := by rfl) :
    QS X Φ (.Assign [.Tuple [.Name x px, .Name y py] kt pt] (.Tuple [a, b] k2 pt2) pos) (wPar i j wr) := by
  refine ⟨fun ρ R R' h q => ha.mono ρ _ _ (fun xs ρ' q' => ?_) q, PSw (ps_par hc hN hi hj hij hx hy ha.run hw hs) fun D σ H ⟨M, ρ, A, q⟩ => ?_⟩
  · match xs, q' with
    | [x, y], q' => exact h.nx _ q'
  · refine ⟨M, ρ, A, ha.mono ρ _ _ (fun xs ρ' q' => ?_) q⟩
    intro M' vs H' A' S' r'
    match xs, q' with
    | [x, y], q' =>
      cases r' with
      | cons r1 r2 =>
        cases r2 with
        | cons r2 r3 =>
          cases r3
          exact ⟨_, _, rfl, q' M' _ H' ((A'.store r1).store r2) S'⟩
/-- name op= e -/
def wAug (i : Nat) (wa : WE) (k : K2) : WS := fun R ρ => match ρ[i]? with
  | some (.d x) => wa ρ fun y ρ' => k x y fun z => R.nx (ρ'.set i (.d z))
  | _ => False
theorem qs_aug {i : Nat} {x : Str} {op : Operator} {r : R2} {k : K2} {pos' : Pos} (hN : X.N.Nodup) (hi : X.N[i]? = some x) (hx : Loc X.env.scope x) (he : QE X Φ e wa) (ho : PIp X op r) (hk : Op2 Φ.K r k) (km : Mono2 k) (hf : X.fn x = true ∨ X.env.scope.names.lookup x = some .local := by first | exact .inl rfl | exact .inr rfl | assumption) :
    QS X Φ (.AugAssign (.Name x pos') op e pos) (wAug i wa k) := by
  refine ⟨fun ρ R R' h q => ?_, PSw (ps_aug hN hi hx he.run ho hf) fun D σ H ⟨M, ρ, A, q⟩ => ?_⟩
  · unfold wAug at q ⊢
    split at q
    · exact he.mono ρ _ _ (fun y ρ' q' => km _ y _ _ (fun z p => h.nx _ p) q') q
    · exact q.elim
  · unfold wAug at q
    split at q
    · rename_i x' hx'
      have hi : i < σ.length := by rw [A.len]; exact (List.getElem?_eq_some_iff.mp hx').1
      obtain ⟨v, e1, r1⟩ := A.slot i _ _ hx' (List.getElem?_eq_getElem hi)
      refine ⟨v, by rw [List.getElem?_eq_getElem hi, e1], M, ρ, A, he.mono ρ _ _ (fun y ρ' q' => ?_) q⟩
      intro M' u H' A' S' r'
      refine hk M' H' v u x' y _ _ (.inl (r1.step S')) (.inl r') (fun b hb => let ⟨_, z, _⟩ := A'.lst b hb; ⟨_, z⟩) q' fun z v' H2 p s r2 => ?_
      exact p M' _ H2 ((A'.same s).store r2) (S'.trans (step_same s))
    · exact q.elim

/-! ### what a loop walks -/
abbrev WI := Ev → (List D → Ev → Prop) → Prop
/-- J gives the items, one after another, as long as what stands stays -/
structure Gives (K : PySem.W.Frag) (M : Addr → Prop) (H : Hp) (J : It) (xs : List D) : Prop where
  ex : ∃ (G : Hp → Prop) (Y : Nat → Hp → V → Hp → Prop), Walk J xs.length G Y ∧ (∀ M' H', Step M H M' H' → G H') ∧
    ∀ (i : Nat) (M' : Addr → Prop) (H' H2 : Hp) (v : V), Step M H M' H' → Y i H' v H2 → Same H' H2 ∧ ∀ x, xs[i]? = some x → Rp K M' H2 v x
def liftI (Φ : Cl) (w : WI) : TI := fun σ H R => ∃ M ρ, Abs Φ M σ H ρ ∧ w ρ fun xs ρ' => ∀ M' H' J, Abs Φ M' σ H' ρ' → Step M H M' H' → Gives Φ.K M' H' J xs → R J H'
structure QI (X : Cx) (Φ : Cl) (tg it : Expr) (w : WI) : Prop where
  mono : ∀ ρ Q Q', (∀ x ρ', Q x ρ' → Q' x ρ') → w ρ Q → w ρ Q'
  run : PI X tg it (liftI Φ w)
theorem PIw {tg it : Expr} {t t' : TI} (h : PI X tg it t) (i : ∀ σ H Q, t' σ H Q → t σ H Q) : PI X tg it t' := ⟨fun pins s σ H Q I q => h.run pins s σ H Q I (i σ H Q q)⟩
def isL (x : D) (P : List D → Prop) : Prop := match x with
  | .lst xs => P xs
  | _ => False
def isT (x : D) (P : List D → Prop) : Prop := match x with
  | .tup xs => P xs
  | _ => False
theorem isL_mono {z : D} {P P' : List D → Prop} (h : ∀ b, P b → P' b) (q : isL z P) : isL z P' := by
  cases z <;> first | exact h _ q | exact q.elim
theorem isT_mono {z : D} {P P' : List D → Prop} (h : ∀ b, P b → P' b) (q : isT z P) : isT z P' := by
  cases z <;> first | exact h _ q | exact q.elim
def wList (wa : WE) : WI := fun ρ Q => wa ρ fun x ρ' => isL x fun xs => Q xs ρ'
def wTupI (wa : WE) : WI := fun ρ Q => wa ρ fun x ρ' => isT x fun xs => Q xs ρ'
theorem gives_list {K : PySem.W.Frag} {M : Addr → Prop} {H : Hp} {p : Addr} {vs : List V} {xs : List D} (hm : ¬ M p) (hh : H p = some (.lst vs)) (r : RpAll Φ.K M H vs xs) : Gives Φ.K M H (Itl K p) xs := by
  refine ⟨fun H' => SqL K H' p vs, YAt vs, ?_, fun M' H' S => SqL.of (S.st p _ hm hh).2, fun i M' H' H2 v S y => ?_⟩
  · have h := walk_list (K := K) (a := p) (xs := vs)
    rw [r.length] at h
    exact h
  · obtain ⟨e, y⟩ := y
    subst e
    refine ⟨Same.refl _, fun x hx => ?_⟩
    obtain ⟨d, hd, rd⟩ := (r.step S).getV y
    rw [hd] at hx
    cases hx
    exact rd
theorem gives_tup {K : PySem.W.Frag} {M : Addr → Prop} {H : Hp} {p : Addr} {vs : List V} {xs : List D} (hh : H p = some (.tup vs)) (r : RpAll Φ.K M H vs xs) : Gives Φ.K M H (Itt K p) xs := by
  refine ⟨fun H' => SqT K H' p vs, YAt vs, ?_, fun M' H' S => SqT.of (S.tu p _ hh), fun i M' H' H2 v S y => ?_⟩
  · have h := walk_tup (K := K) (a := p) (xs := vs)
    rw [r.length] at h
    exact h
  · obtain ⟨e, y⟩ := y
    subst e
    refine ⟨Same.refl _, fun x hx => ?_⟩
    obtain ⟨d, hd, rd⟩ := (r.step S).getV y
    rw [hd] at hx
    cases hx
    exact rd
theorem qi_list {tg : Expr} (he : QE X Φ e wa) : QI X Φ tg e (wList wa) := by
  refine ⟨fun ρ Q Q' h q => he.mono ρ _ _ (fun x ρ' q' => isL_mono (fun xs p => h xs ρ' p) q') q, PIw (pi_list he.run) fun σ H R ⟨M, ρ, A, q⟩ => ?_⟩
  refine ⟨M, ρ, A, he.mono ρ _ _ (fun x ρ' q' => ?_) q⟩
  intro M' v H' A' S' r'
  cases r' with
  | lst hm hh rr => exact ⟨_, rfl, ⟨_, SqL.of hh⟩, q' M' H' _ A' S' (gives_list hm hh rr)⟩
  | _ => exact q'.elim
theorem qi_tup {tg : Expr} (he : QE X Φ e wa) : QI X Φ tg e (wTupI wa) := by
  refine ⟨fun ρ Q Q' h q => he.mono ρ _ _ (fun x ρ' q' => isT_mono (fun xs p => h xs ρ' p) q') q, PIw (pi_tup he.run) fun σ H R ⟨M, ρ, A, q⟩ => ?_⟩
  refine ⟨M, ρ, A, he.mono ρ _ _ (fun x ρ' q' => ?_) q⟩
  intro M' v H' A' S' r'
  cases r' with
  | tup hh rr => exact ⟨_, rfl, ⟨_, SqT.of hh⟩, q' M' H' _ A' S' (gives_tup hh rr)⟩
  | _ => exact q'.elim
/-- lo, lo + 1, .. -/
def intsD (lo : Int) (n : Nat) : List D := (List.range n).map fun i => .int (lo + (i : Nat))
theorem ints_len (lo : Int) (n : Nat) : (intsD lo n).length = n := by unfold intsD; rw [List.length_map, List.length_range]
theorem gives_range {M : Addr → Prop} {H : Hp} {lo : Int} {n : Nat} : Gives Φ.K M H (Itr lo n) (intsD lo n) := by
  refine ⟨fun _ => True, YFn fun i => .int (lo + i), ?_, fun M' H' S => trivial, fun i M' H' H2 v S y => ?_⟩
  · rw [ints_len]; exact walk_range
  · obtain ⟨e, y⟩ := y
    subst e; subst y
    refine ⟨Same.refl _, fun x hx => ?_⟩
    unfold intsD at hx
    rw [List.getElem?_map] at hx
    cases h : (List.range n)[i]? with
    | none => rw [h] at hx; cases hx
    | some j =>
      rw [h] at hx
      have e1 := List.getElem?_eq_some_iff.mp h
      obtain ⟨h1, h2⟩ := e1
      rw [List.getElem_range] at h2
      subst h2
      cases hx
      exact .int _
def wRng1 (wr : WA) : WI := fun ρ Q => wr ρ fun xs ρ' => match xs with
  | [.int j] => (-(2 ^ 62) ≤ j ∧ j < 2 ^ 62) ∧ Q (intsD 0 j.toNat) ρ'
  | _ => False
def wRng2 (wr : WA) : WI := fun ρ Q => wr ρ fun xs ρ' => match xs with
  | [.int i, .int j] => (-(2 ^ 62) ≤ i ∧ i < 2 ^ 62 ∧ -(2 ^ 62) ≤ j ∧ j < 2 ^ 62) ∧ Q (intsD i (j - i).toNat) ρ'
  | _ => False
theorem rp_ints1 {K : PySem.W.Frag} {M : Addr → Prop} {H : Hp} {vs : List V} {j : Int} (r : RpAll K M H vs [.int j]) : vs = [.int j] := by
  cases r with
  | cons r1 r2 => cases r1; cases r2; rfl
theorem rp_ints2 {K : PySem.W.Frag} {M : Addr → Prop} {H : Hp} {vs : List V} {i j : Int} (r : RpAll K M H vs [.int i, .int j]) : vs = [.int i, .int j] := by
  cases r with
  | cons r1 r2 => cases r1; rw [rp_ints1 r2]
theorem qi_range1 {tg : Expr} {wr : WA} {p : Pos} (hg : Gl X "range") (hm : X.mg "range" = none) (ha : QA X Φ [a] wr) (hs : starEach [a] X.env = [(false, eval a X.env)] := by rfl) : QI X Φ tg (.Call (.Name "range" p) [a] [] pos) (wRng1 wr) := by
  refine ⟨fun ρ Q Q' h q => ha.mono ρ _ _ (fun xs ρ' q' => ?_) q, PIw (pi_range1 hg hm ha.run hs) fun σ H R ⟨M, ρ, A, q⟩ => ?_⟩
  · match xs, q' with
    | [.int j], q' => exact ⟨q'.1, h _ _ q'.2⟩
  · refine ⟨M, ρ, A, ha.mono ρ _ _ (fun xs ρ' q' => ?_) q⟩
    intro M' vs H' A' S' r'
    match xs, q' with
    | [.int j], q' => exact ⟨j, rp_ints1 r', q'.1.1, q'.1.2, q'.2 M' H' _ A' S' gives_range⟩
theorem qi_range2 {tg : Expr} {wr : WA} {p : Pos} (hg : Gl X "range") (hm : X.mg "range" = none) (ha : QA X Φ [a, b] wr) (hs : starEach [a, b] X.env = [(false, eval a X.env), (false, eval b X.env)] := by rfl) (hs2 : starEach [b] X.env = [(false, eval b X.env)] := by rfl) :
    QI X Φ tg (.Call (.Name "range" p) [a, b] [] pos) (wRng2 wr) := by
  refine ⟨fun ρ Q Q' h q => ha.mono ρ _ _ (fun xs ρ' q' => ?_) q, PIw (pi_range2 hg hm ha.run hs hs2) fun σ H R ⟨M, ρ, A, q⟩ => ?_⟩
  · match xs, q' with
    | [.int i, .int j], q' => exact ⟨q'.1, h _ _ q'.2⟩
  · refine ⟨M, ρ, A, ha.mono ρ _ _ (fun xs ρ' q' => ?_) q⟩
    intro M' vs H' A' S' r'
    match xs, q' with
    | [.int i, .int j], q' => exact ⟨i, j, rp_ints2 r', q'.1, q'.2 M' H' _ A' S' gives_range⟩
/-- (0, x), (1, y), .. -/
def enums : Nat → List D → List D
  | _, [] => []
  | k, x :: r => .tup [.int (k : Nat), x] :: enums (k + 1) r
theorem enums_len : ∀ (k : Nat) (xs : List D), (enums k xs).length = xs.length
  | _, [] => rfl
  | k, x :: r => by unfold enums; rw [List.length_cons, List.length_cons, enums_len (k + 1) r]
theorem enums_get : ∀ (k : Nat) (xs : List D) (i : Nat), (enums k xs)[i]? = xs[i]?.map fun x => .tup [.int ((k + i : Nat) : Int), x]
  | _, [], i => by simp [enums]
  | k, x :: r, 0 => by simp [enums]
  | k, x :: r, i + 1 => by
    unfold enums
    rw [List.getElem?_cons_succ, List.getElem?_cons_succ, enums_get (k + 1) r i]
    rw [show k + 1 + i = k + (i + 1) by omega]

/-! ### for -/
/-- the items one after another -/
def wLoop (g : WG) (wb : WS) (R : AEnds) : List D → Ev → Prop
  | [], ρ => R.nx ρ
  | x :: r, ρ => g x ρ fun ρ1 => wb { R with nx := fun ρ2 => wLoop g wb R r ρ2, ct := fun ρ2 => wLoop g wb R r ρ2, bk := R.nx } ρ1
def wFor (wi : WI) (g : WG) (wb : WS) : WS := fun R ρ => wi ρ fun xs ρ' => wLoop g wb R xs ρ'
theorem wLoop_mono {g : WG} {wb : WS} (hg : ∀ x ρ Q Q', (∀ ρ', Q ρ' → Q' ρ') → g x ρ Q → g x ρ Q') (hb : ∀ ρ R R', AEnds.Imp R R' → wb R ρ → wb R' ρ) {R R' : AEnds} (h : R.Imp R') : ∀ (xs : List D) (ρ : Ev), wLoop g wb R xs ρ → wLoop g wb R' xs ρ
  | [], ρ, q => h.nx ρ q
  | x :: r, ρ, q => hg x ρ _ _ (fun ρ1 q1 => hb ρ1 { R with nx := fun ρ2 => wLoop g wb R r ρ2, ct := fun ρ2 => wLoop g wb R r ρ2, bk := R.nx } _ ⟨fun ρ2 q2 => wLoop_mono hg hb h r ρ2 q2, h.rt, fun ρ2 q2 => h.nx ρ2 q2, fun ρ2 q2 => wLoop_mono hg hb h r ρ2 q2⟩ q1) q
theorem qs_for {tg it : Expr} {body : List Stmt} {wi : WI} {g : WG} {wb : WS} (hp : PassesOwn (model X.prog X.w) X.A X.env X.xe) (hc : X.calm = true) (hi : QI X Φ tg it wi) (hg : QG X Φ tg g) (hb : QSs X Φ body wb)
    (hs : ∀ x, foldedSetIterable it X.env x = pure x := by intro _; rfl) : QS X Φ (.For tg it body [] pos) (wFor wi g wb) := by
  refine ⟨fun ρ R R' h q => hi.mono ρ _ _ (fun xs ρ' q' => wLoop_mono hg.mono hb.mono h xs ρ' q') q, PSw (ps_for hp hc hi.run hg.run hb.run hs) fun D σ H ⟨M, ρ, A, q⟩ => ?_⟩
  refine ⟨M, ρ, A, hi.mono ρ _ _ (fun xs ρ1 q1 => ?_) q⟩
  intro M1 H1 J A1 S1 G1
  obtain ⟨G, Y, W, hG, hY⟩ := G1.ex
  refine for_it W (fun i σ2 H2 => ∃ M2 ρ2, Abs Φ M2 σ2 H2 ρ2 ∧ Step M1 H1 M2 H2 ∧ wLoop g wb (absEnds Φ M2 H2 D) (xs.drop i) ρ2) ⟨M1, ρ1, A1, .refl, ?_⟩ (fun i σ2 H2 hi ⟨M2, ρ2, A2, S2, q2⟩ => hG M2 H2 S2) (fun i v σ2 H2 H3 hlt ⟨M2, ρ2, A2, S2, q2⟩ y => ?_) fun σ2 H2 ⟨M2, ρ2, A2, S2, q2⟩ => ?_
  · rw [List.drop_zero]
    exact wLoop_mono hg.mono hb.mono S1.ends xs ρ1 q1
  · obtain ⟨sm, hx⟩ := hY i M2 H2 H3 v S2 y
    have rx := hx xs[i] (List.getElem?_eq_getElem hlt)
    rw [List.drop_eq_getElem_cons hlt] at q2
    have A3 := A2.same sm
    have S3 : Step M2 H2 M2 H3 := step_same sm
    refine ⟨M2, ρ2, _, A3, rx, hg.mono _ ρ2 _ _ (fun ρ4 q4 => ?_) q2⟩
    intro M4 σ4 H4 A4 S4
    refine ⟨M4, ρ4, A4, hb.mono ρ4 { absEnds Φ M2 H2 D with nx := fun ρ5 => wLoop g wb (absEnds Φ M2 H2 D) (xs.drop (i + 1)) ρ5, ct := fun ρ5 => wLoop g wb (absEnds Φ M2 H2 D) (xs.drop (i + 1)) ρ5, bk := (absEnds Φ M2 H2 D).nx } _ ⟨fun ρ5 q5 => ?_, fun x ρ5 q5 => ?_, fun ρ5 q5 => ?_, fun ρ5 q5 => ?_⟩ q4⟩
    · intro M5 σ5 H5 A5 S5
      have t := S3.trans (S4.trans S5)
      exact ⟨M5, ρ5, A5, S2.trans t, wLoop_mono hg.mono hb.mono t.ends _ ρ5 q5⟩
    · intro M5 σ5 v5 H5 A5 S5 r5
      exact q5 M5 σ5 v5 H5 A5 (S3.trans (S4.trans S5)) r5
    · intro M5 σ5 H5 A5 S5
      exact q5 M5 σ5 H5 A5 (S3.trans (S4.trans S5))
    · intro M5 σ5 H5 A5 S5
      have t := S3.trans (S4.trans S5)
      exact ⟨M5, ρ5, A5, S2.trans t, wLoop_mono hg.mono hb.mono t.ends _ ρ5 q5⟩
  · rw [List.drop_length] at q2
    exact q2 M2 σ2 H2 A2 .refl

/-! ### while, by fuel -/
def wWhN (t : WT) (wb : WS) (R : AEnds) : Nat → Ev → Prop
  | 0, _ => False
  | n + 1, ρ => t ρ fun c ρ1 => if c = true then wb { R with nx := fun ρ2 => wWhN t wb R n ρ2, ct := fun ρ2 => wWhN t wb R n ρ2, bk := R.nx } ρ1 else R.nx ρ1
def wWhile (t : WT) (wb : WS) : WS := fun R ρ => ∃ n, wWhN t wb R n ρ
theorem wWhN_mono {t : WT} {wb : WS} (ht : ∀ ρ Q Q', (∀ x ρ', Q x ρ' → Q' x ρ') → t ρ Q → t ρ Q') (hb : ∀ ρ R R', AEnds.Imp R R' → wb R ρ → wb R' ρ) {R R' : AEnds} (h : R.Imp R') : ∀ (n : Nat) (ρ : Ev), wWhN t wb R n ρ → wWhN t wb R' n ρ
  | 0, _, q => q
  | n + 1, ρ, q => by
    refine ht ρ _ _ (fun d ρ1 q1 => ?_) q
    cases d with
    | true => exact hb ρ1 { R with nx := fun ρ2 => wWhN t wb R n ρ2, ct := fun ρ2 => wWhN t wb R n ρ2, bk := R.nx } _ ⟨fun ρ2 q2 => wWhN_mono ht hb h n ρ2 q2, h.rt, fun ρ2 q2 => h.nx ρ2 q2, fun ρ2 q2 => wWhN_mono ht hb h n ρ2 q2⟩ q1
    | false => exact h.nx ρ1 q1
theorem qs_while {body : List Stmt} {wb : WS} (hp : PassesOwn (model X.prog X.w) X.A X.env X.xe) (hc : QT X Φ c ta) (hb : QSs X Φ body wb) : QS X Φ (.While c body [] pos) (wWhile ta wb) := by
  refine ⟨fun ρ R R' h ⟨n, q⟩ => ⟨n, wWhN_mono hc.mono hb.mono h n ρ q⟩, PSw (ps_while hp hc.run hb.run) fun D σ H ⟨M, ρ, A, n, q⟩ => ?_⟩
  refine ⟨fun m σ2 H2 => ∃ M2 ρ2, Abs Φ M2 σ2 H2 ρ2 ∧ Step M H M2 H2 ∧ wWhN ta wb (absEnds Φ M2 H2 D) m ρ2, ⟨n, M, ρ, A, .refl, q⟩, fun m σ2 H2 ⟨M2, ρ2, A2, S2, q2⟩ => ?_⟩
  match m, q2 with
  | m + 1, q2 =>
    refine ⟨M2, ρ2, A2, hc.mono ρ2 _ _ (fun d ρ3 q3 => ?_) q2⟩
    intro M3 H3 A3 S3
    cases d with
    | true =>
      rw [if_pos rfl] at q3
      refine iteT ⟨fun σ5 H5 => ∃ M5 ρ5, Abs Φ M5 σ5 H5 ρ5 ∧ Step M H M5 H5 ∧ wWhN ta wb (absEnds Φ M5 H5 D) m ρ5, fun σ5 H5 h5 => ⟨m, Nat.lt_succ_self m, h5⟩, M3, ρ3, A3, hb.mono ρ3 { absEnds Φ M2 H2 D with nx := fun ρ5 => wWhN ta wb (absEnds Φ M2 H2 D) m ρ5, ct := fun ρ5 => wWhN ta wb (absEnds Φ M2 H2 D) m ρ5, bk := (absEnds Φ M2 H2 D).nx } _ ⟨fun ρ5 q5 => ?_, fun x ρ5 q5 => ?_, fun ρ5 q5 => ?_, fun ρ5 q5 => ?_⟩ q3⟩
      · intro M5 σ5 H5 A5 S5
        have t := S3.trans S5
        exact ⟨M5, ρ5, A5, S2.trans t, wWhN_mono hc.mono hb.mono t.ends _ ρ5 q5⟩
      · intro M5 σ5 v5 H5 A5 S5 r5
        exact q5 M5 σ5 v5 H5 A5 (S3.trans S5) r5
      · intro M5 σ5 H5 A5 S5
        exact q5 M5 σ5 H5 A5 (S3.trans S5)
      · intro M5 σ5 H5 A5 S5
        have t := S3.trans S5
        exact ⟨M5, ρ5, A5, S2.trans t, wWhN_mono hc.mono hb.mono t.ends _ ρ5 q5⟩
    | false => exact iteF (q3 M3 σ2 H3 A3 S3)
end
end AL
set_option Elab.async false
set_option linter.all false
set_option maxRecDepth 100000
namespace AL
open PySem PySem.Spec PyProof.Rows L2

/-! ### comprehensions -/
def wipeE (ρ : Ev) : List Nat → Ev
  | [] => ρ
  | v :: vs => (wipeE ρ vs).set v .un
theorem wipeE_length (ρ : Ev) : ∀ vs : List Nat, (wipeE ρ vs).length = ρ.length
  | [] => rfl
  | v :: vs => by unfold wipeE; rw [List.length_set, wipeE_length ρ vs]
theorem wipeE_in {ρ : Ev} {i : Nat} {e : En} : ∀ {vs : List Nat}, i ∈ vs → (wipeE ρ vs)[i]? = some e → e = .un
  | [], h, _ => by cases h
  | v :: vs, h, q => by
    unfold wipeE at q
    by_cases hv : v = i
    · subst hv
      have hi : v < (wipeE ρ vs).length := by have := (List.getElem?_eq_some_iff.mp q).1; rwa [List.length_set] at this
      rw [List.getElem?_set_self hi] at q
      cases q; rfl
    · rw [List.getElem?_set_ne hv] at q
      rcases List.mem_cons.mp h with z | z
      · exact absurd z.symm hv
      · exact wipeE_in z q
theorem wipeE_out {ρ : Ev} {i : Nat} : ∀ {vs : List Nat}, i ∉ vs → (wipeE ρ vs)[i]? = ρ[i]?
  | [], _ => rfl
  | v :: vs, h => by
    unfold wipeE
    rw [List.getElem?_set_ne (fun z => h (by rw [z]; exact List.mem_cons_self)), wipeE_out fun z => h (List.mem_cons_of_mem _ z)]
theorem wipe_out {σ : L2.St} {i : Nat} : ∀ {vs : List Nat}, i ∉ vs → (wipe σ vs)[i]? = σ[i]?
  | [], _ => rfl
  | v :: vs, h => by
    unfold wipe
    rw [List.getElem?_set_ne (fun z => h (by rw [z]; exact List.mem_cons_self)), wipe_out fun z => h (List.mem_cons_of_mem _ z)]
section
variable {X : Cx} {Φ : Cl} [ok : ClOk Φ] {pos : Pos} {e a b c : Expr} {wa wb wc : WE} {ta : WT} {st : Stmt} {rest : List Stmt} {w u : WS} {M : Addr → Prop} {σ σ' : L2.St} {H : Hp} {ρ : Ev}
/-- what is not said of a slot is not asked -/
theorem Abs.wiped (A : Abs Φ M σ H ρ) (vs : List Nat) (hl : σ'.length = σ.length) (hs : ∀ i, i ∉ vs → σ'[i]? = σ[i]?) : Abs Φ M σ' H (wipeE ρ vs) := by
  refine ⟨by rw [hl, wipeE_length]; exact A.len, fun i en o h1 h2 => ?_, fun i j p w1 w2 xs ys h1 h2 h3 h4 => ?_, A.lst, A.m0, A.keep, A.wm, A.hold, fun i j p xs ys h1 h2 h3 h4 => ?_, A.tab, fun i j w F P e a hij h1 h2 h3 => by
    by_cases hi : i ∈ vs
    · have := wipeE_in hi h1; cases this
    · by_cases hj : j ∈ vs
      · rw [wipeE_in hj h2]; trivial
      · rw [wipeE_out hi] at h1
        rw [wipeE_out hj] at h2
        rw [hs j hj] at h3
        exact A.far i j w F P e a hij h1 h2 h3⟩
  · by_cases hi : i ∈ vs
    · rw [wipeE_in hi h1]; trivial
    · rw [wipeE_out hi] at h1
      rw [hs i hi] at h2
      exact A.slot i en o h1 h2
  · by_cases hi : i ∈ vs
    · have := wipeE_in hi h1; cases this
    · by_cases hj : j ∈ vs
      · have := wipeE_in hj h2; cases this
      · rw [wipeE_out hi] at h1
        rw [wipeE_out hj] at h2
        rw [hs i hi] at h3
        rw [hs j hj] at h4
        exact A.inj i j p w1 w2 xs ys h1 h2 h3 h4
  · by_cases hi : i ∈ vs
    · have := wipeE_in hi h1; cases this
    · by_cases hj : j ∈ vs
      · have := wipeE_in hj h2; cases this
      · rw [wipeE_out hi] at h1
        rw [wipeE_out hj] at h2
        rw [hs i hi] at h3
        rw [hs j hj] at h4
        exact A.injd i j p xs ys h1 h2 h3 h4
/-- a comprehension's target: the slots vs alone are stored -/
def liftC (Φ : Cl) (vs : List Nat) (w : WG) : TG := fun v σ H Q => ∃ M ρ x, Abs Φ M σ H ρ ∧ Rp Φ.K M H v x ∧ w x ρ fun ρ' => ∀ M' σ' H', Abs Φ M' σ' H' ρ' → Step M H M' H' → (σ'.length = σ.length ∧ ∀ i, i ∉ vs → σ'[i]? = σ[i]?) → Q σ' H'
def liftCs (Φ : Cl) (vs : List Nat) (w : WGs) : TGs := fun us σ H Q => ∃ M ρ xs, Abs Φ M σ H ρ ∧ RpAll Φ.K M H us xs ∧ w xs ρ fun ρ' => ∀ M' σ' H', Abs Φ M' σ' H' ρ' → Step M H M' H' → (σ'.length = σ.length ∧ ∀ i, i ∉ vs → σ'[i]? = σ[i]?) → Q σ' H'
structure QC (X : Cx) (Φ : Cl) (vs : List Nat) (tg : Expr) (w : WG) : Prop where
  mono : ∀ x ρ Q Q', (∀ ρ', Q ρ' → Q' ρ') → w x ρ Q → w x ρ Q'
  run : PG X tg (liftC Φ vs w)
structure QCs (X : Cx) (Φ : Cl) (vs : List Nat) (tg : List Expr) (w : WGs) : Prop where
  mono : ∀ x ρ Q Q', (∀ ρ', Q ρ' → Q' ρ') → w x ρ Q → w x ρ Q'
  run : PGs X tg (liftCs Φ vs w)
theorem qc_name {i : Nat} {x : Str} {vs : List Nat} (hN : X.N.Nodup) (hi : X.N[i]? = some x) (hx : Loc X.env.scope x) (hm : i ∈ vs) (hf : X.fn x = true ∨ X.env.scope.names.lookup x = some .local := by first | exact .inl rfl | exact .inr rfl | assumption) : QC X Φ vs (.Name x pos) (wName i) :=
  ⟨fun x ρ Q Q' h q => h _ q, PGw (pg_name hN hi hx hf) fun v σ H Q ⟨M, ρ, x, A, r, q⟩ => q M _ H (A.store r) .refl ⟨by rw [List.length_set], fun j hj => List.getElem?_set_ne (fun z => hj (by rw [← z]; exact hm))⟩⟩
theorem qcs_nil {vs : List Nat} : QCs X Φ vs [] wgNil := by
  refine ⟨fun xs ρ Q Q' h q => ?_, PGsw pgs_nil fun us σ H Q ⟨M, ρ, xs, A, r, q⟩ => ?_⟩
  · cases xs with
    | nil => exact h _ q
    | cons _ _ => exact q.elim
  · cases r with
    | nil => exact ⟨rfl, q M σ H A .refl ⟨rfl, fun _ _ => rfl⟩⟩
    | cons _ _ => exact q.elim
theorem qcs_cons {vs : List Nat} {tg : Expr} {tgs : List Expr} {g : WG} {r : WGs} (h1 : QC X Φ vs tg g) (h2 : QCs X Φ vs tgs r)
    (hs : (assignEach (tg :: tgs) X.env).map (·.2) = assign tg X.env :: (assignEach tgs X.env).map (·.2) := by rfl) : QCs X Φ vs (tg :: tgs) (wgCons g r) := by
  refine ⟨fun xs ρ Q Q' h q => ?_, PGsw (pgs_cons h1.run h2.run hs) fun us σ H Q ⟨M, ρ, xs, A, rr, q⟩ => ?_⟩
  · cases xs with
    | nil => exact q.elim
    | cons x ys => exact h1.mono x ρ _ _ (fun ρ' q' => h2.mono ys ρ' _ _ h q') q
  · cases rr with
    | nil => exact q.elim
    | cons r1 r2 =>
      refine ⟨_, _, rfl, M, ρ, _, A, r1, h1.mono _ ρ _ _ (fun ρ' q' => ?_) q⟩
      intro M' σ' H' A' S' t'
      exact ⟨M', ρ', _, A', r2.step S', h2.mono _ ρ' _ _ (fun ρ2 q2 M2 σ2 H2 A2 S2 t2 => q2 M2 σ2 H2 A2 (S'.trans S2) ⟨t2.1.trans t'.1, fun i hi => (t2.2 i hi).trans (t'.2 i hi)⟩) q'⟩
theorem qc_tup {vs : List Nat} {tgs : List Expr} {k : Nat} {g : WGs} {n : Nat} (hc : X.calm = true) (h : QCs X Φ vs tgs g)
    (hn : (assignEach tgs X.env).length = n := by rfl) (hst : (assignEach tgs X.env).findIdx? (·.1) = none := by rfl) : QC X Φ vs (.Tuple tgs k pos) (wgTup n g) := by
  refine ⟨fun x ρ Q Q' i q => ?_, PGw (pg_tup hc h.run hn hst) fun v σ H Q ⟨M, ρ, x, A, r, q⟩ => ?_⟩
  · cases x <;> first | exact ⟨q.1, h.mono _ ρ _ _ i q.2⟩ | exact q.elim
  · cases r with
    | tup hh rr => exact ⟨_, _, rfl, .of hh, by rw [rr.length]; exact q.1, M, ρ, _, A, rr, q.2⟩
    | _ => exact q.elim

def wYes : WT := fun ρ Q => Q true ρ
structure QTs (X : Cx) (Φ : Cl) (ifs : List Expr) (w : WT) : Prop where
  mono : ∀ ρ Q Q', (∀ x ρ', Q x ρ' → Q' x ρ') → w ρ Q → w ρ Q'
  run : PTs X ifs (liftT Φ w)
theorem PTsw {ifs : List Expr} {t t' : TT} (h : PTs X ifs t) (i : ∀ σ H Q, t' σ H Q → t σ H Q) : PTs X ifs t' := ⟨fun pins s σ H Q I q => h.run pins s σ H Q I (i σ H Q q)⟩
theorem qts_nil : QTs X Φ [] wYes := ⟨fun ρ Q Q' h q => h _ _ q, PTsw pts_nil fun σ H Q ⟨M, ρ, A, q⟩ => q M H A .refl⟩
theorem qts_one {t : WT} (h : QT X Φ c t) : QTs X Φ [c] t := ⟨h.mono, pts_one h.run⟩

/-- the items one after another, acc what is made so far -/
def wMake (g : WG) (tt : WT) (we : WE) (vs : List Nat) (Q : List D → Ev → Prop) : List D → List D → Ev → Prop
  | [], acc, ρ => Q acc ρ
  | x :: r, acc, ρ => g x ρ fun ρ1 => tt ρ1 fun b ρ2 => if b = true then we ρ2 fun y ρ3 => acc.length < sizeLine ∧ wMake g tt we vs Q r (acc ++ [y]) (wipeE ρ3 vs) else wMake g tt we vs Q r acc (wipeE ρ2 vs)
def wLc (wi : WI) (g : WG) (tt : WT) (we : WE) (vs : List Nat) : WA := fun ρ Q => wi ρ fun xs ρ' => wMake g tt we vs Q xs [] (wipeE ρ' vs)
theorem wMake_mono {g : WG} {tt : WT} {we : WE} {vs : List Nat} (hg : ∀ x ρ Q Q', (∀ ρ', Q ρ' → Q' ρ') → g x ρ Q → g x ρ Q') (ht : ∀ ρ Q Q', (∀ x ρ', Q x ρ' → Q' x ρ') → tt ρ Q → tt ρ Q') (he : ∀ ρ Q Q', (∀ x ρ', Q x ρ' → Q' x ρ') → we ρ Q → we ρ Q')
    {Q Q' : List D → Ev → Prop} (h : ∀ x ρ, Q x ρ → Q' x ρ) : ∀ (xs acc : List D) (ρ : Ev), wMake g tt we vs Q xs acc ρ → wMake g tt we vs Q' xs acc ρ
  | [], acc, ρ, q => h _ _ q
  | x :: r, acc, ρ, q => hg x ρ _ _ (fun ρ1 q1 => ht ρ1 _ _ (fun b ρ2 q2 => by
      cases b with
      | true => exact he ρ2 _ _ (fun y ρ3 q3 => ⟨q3.1, wMake_mono hg ht he h r _ _ q3.2⟩) q2
      | false => exact wMake_mono hg ht he h r _ _ q2) q1) q
/-- a new list is held: nothing within changes it -/
def Cl.held (Φ : Cl) (p : Addr) (acc : List V) : Cl := { Φ with T := upd Φ.T p (.lst acc) }
instance held_ok {p : Addr} {acc : List V} : ClOk (Φ.held p acc) := ⟨ok.trk⟩
theorem Abs.hold_in (A : Abs Φ M σ H ρ) {p : Addr} {acc : List V} {ds : List D} (N : NewL Φ M σ H ρ p acc ds) : Abs (Φ.held p acc) M σ H ρ := by
  refine ⟨A.len, fun i en o h1 h2 => ?_, A.inj, A.lst, A.m0, A.keep, A.wm, fun a o h => ?_, A.injd, fun P q e => ?_, A.far⟩
  · have q := A.slot i en o h1 h2
    cases en with
    | un => trivial
    | d x => exact q
    | own w xs =>
      obtain ⟨a, vs, e1, m, h, r, z, t⟩ := q
      refine ⟨a, vs, e1, m, h, r, z, ?_⟩
      show upd Φ.T p _ a = none
      rw [upd_ne fun y => N.n i w xs h1 (by rw [h2, e1, y])]
      exact t
    | dic ks =>
      obtain ⟨a, P, w, vs, e1, m, h, r, z, t⟩ := q
      refine ⟨a, P, w, vs, e1, m, h, r, z, ?_⟩
      show upd Φ.T p _ a = none
      rw [upd_ne fun y => by rw [y, N.h] at h; cases h]
      exact t
    | obj w F P =>
      obtain ⟨a, e1, f, g, r⟩ := q
      refine ⟨a, e1, fun b hb => ⟨(f b hb).1, (f b hb).2.1, ?_⟩, g, r⟩
      show upd Φ.T p _ b = none
      rw [upd_ne (show b ≠ p from fun y => N.f i w F P h1 (y ▸ hb))]
      exact (f b hb).2.2
  · have h' : upd Φ.T p (.lst acc) a = some o := h
    by_cases y : a = p
    · rw [y, upd_same] at h'
      cases h'
      rw [y]; exact ⟨N.m, N.h⟩
    · rw [upd_ne y] at h'
      exact A.hold a o h'
  · obtain ⟨m, w, tn, ps, h, t⟩ := A.tab P q e
    refine ⟨m, w, ?_, ps, h, t⟩
    show upd Φ.T p _ P = none
    rw [upd_ne fun y => by rw [y, N.h] at h; cases h]
    exact tn
theorem Abs.hold_out {p : Addr} {acc : List V} (A : Abs (Φ.held p acc) M σ H ρ) (ht : Φ.T p = none) (h0 : Φ.H0 p = none) {ds : List D} (r : RpAll Φ.K M H acc ds) : Abs Φ M σ H ρ ∧ NewL Φ M σ H ρ p acc ds := by
  have tt : ∀ a, (Φ.held p acc).T a = none → Φ.T a = none := fun a h => by
    have h' : upd Φ.T p (.lst acc) a = none := h
    by_cases y : a = p
    · rw [y]; exact ht
    · rw [upd_ne y] at h'; exact h'
  have hp := A.hold p (.lst acc) upd_same
  refine ⟨⟨A.len, fun i en o h1 h2 => ?_, A.inj, A.lst, A.m0, A.keep, A.wm, fun a o h => ?_, A.injd, fun P q e => let ⟨m, w, tn, t⟩ := A.tab P q e; ⟨m, w, tt P tn, t⟩, A.far⟩, hp.1, hp.2, r, h0, ht, fun i w ys h1 h2 => ?_, fun i w F P h1 hf => ?_⟩
  · have q := A.slot i en o h1 h2
    cases en with
    | un => trivial
    | d x => exact q
    | own w xs =>
      obtain ⟨a, vs, e1, m, h, r, z, t⟩ := q
      exact ⟨a, vs, e1, m, h, r, z, tt a t⟩
    | dic ks =>
      obtain ⟨a, P, w, vs, e1, m, h, r, z, t⟩ := q
      exact ⟨a, P, w, vs, e1, m, h, r, z, tt a t⟩
    | obj w F P =>
      obtain ⟨a, e1, f, g, r⟩ := q
      exact ⟨a, e1, fun b hb => ⟨(f b hb).1, (f b hb).2.1, tt b (f b hb).2.2⟩, g, r⟩
  · refine A.hold a o ?_
    show upd Φ.T p _ a = some o
    rw [upd_ne fun y => by rw [y, ht] at h; cases h]
    exact h
  · obtain ⟨a, vs, e1, m, h, r, z, t⟩ := A.slot i _ _ h1 h2
    cases e1
    have t' : upd Φ.T p (.lst acc) p = none := t
    rw [upd_same] at t'; cases t'
  · have hi : i < σ.length := by rw [A.len]; exact (List.getElem?_eq_some_iff.mp h1).1
    obtain ⟨a, e1, f, g, r⟩ := A.slot i _ _ h1 (List.getElem?_eq_getElem hi)
    have t' : upd Φ.T p (.lst acc) p = none := (f p hf).2.2
    rw [upd_same] at t'; cases t'
/-- a list in M that no slot holds is written -/
theorem Abs.put (A : Abs Φ M σ H ρ) {p : Addr} {vs ws : List V} {ds es : List D} (N : NewL Φ M σ H ρ p vs ds) (r : RpAll Φ.K M H ws es) :
    Abs Φ M σ (upd H p (.lst ws)) ρ ∧ Step M H M (upd H p (.lst ws)) ∧ NewL Φ M σ (upd H p (.lst ws)) ρ p ws es := by
  have st : Step M H M (upd H p (.lst ws)) := by
    refine ⟨fun a o hm h => ⟨hm, ?_⟩, fun a xs h => ?_, fun a o u h => ?_⟩
    · rw [upd_ne (fun z => hm (by rw [z]; exact N.m))]; exact h
    · rw [upd_ne (fun z => by rw [z, N.h] at h; cases h)]; exact h
    · rw [upd_ne (fun z => by rw [z, N.h] at h; cases h)]; exact h
  refine ⟨⟨A.len, fun i en o h1 h2 => ?_, A.inj, fun a ha => ?_, A.m0, fun a o h1 h2 => ?_, A.wm, fun a o h => ?_, A.injd, A.tabs st fun P ps m h => ⟨m, by rw [upd_ne (fun y => by rw [y, N.h] at h; cases h)]; exact h⟩, A.far⟩, st, N.m, upd_same, r.step st, N.h0, N.t, N.n, N.f⟩
  · have q := A.slot i en o h1 h2
    cases en with
    | un => trivial
    | d x => obtain ⟨v, e1, r⟩ := q; exact ⟨v, e1, r.step st⟩
    | own w xs =>
      obtain ⟨a, ys, e1, m1, h3, r, z⟩ := q
      have ne : a ≠ p := fun y => N.n i w xs h1 (by rw [h2, e1, y])
      exact ⟨a, ys, e1, m1, by rw [upd_ne ne]; exact h3, r.step st, z⟩
    | dic ks =>
      obtain ⟨a, P, w, ys, e1, m1, h3, r, z⟩ := q
      have ne : a ≠ p := fun y => by rw [y, N.h] at h3; cases h3
      exact ⟨a, P, w, ys, e1, m1, by rw [upd_ne ne]; exact h3, r.step st, z⟩
    | obj w F P =>
      obtain ⟨a, e1, f, g, r⟩ := q
      exact ⟨a, e1, f, g, g.1 _ _ _ _ _ st (fun b hb => upd_ne (show b ≠ p from fun y => N.f i w F P h1 (y ▸ hb))) r⟩
  · by_cases y : a = p
    · rw [y]; exact ⟨_, upd_same, trivial⟩
    · obtain ⟨ys, q, mu⟩ := A.lst a ha
      exact ⟨ys, by rw [upd_ne y]; exact q, mu⟩
  · have ne : a ≠ p := fun y => by rw [y, N.h0] at h1; cases h1
    rw [upd_ne ne]; exact A.keep a o h1 h2
  · have ne : a ≠ p := fun y => by rw [y, N.t] at h; cases h
    rw [upd_ne ne]; exact A.hold a o h
theorem NewL.moved {vs : List Nat} {p : Addr} {acc : List V} {ds : List D} (N : NewL Φ M σ H ρ p acc ds) (hs : ∀ i, i ∉ vs → σ'[i]? = σ[i]?) : NewL Φ M σ' H (wipeE ρ vs) p acc ds := by
  refine ⟨N.m, N.h, N.r, N.h0, N.t, fun i w ys h1 h2 => ?_, fun i w F P h1 hf => ?_⟩
  · by_cases hi : i ∈ vs
    · have := wipeE_in hi h1; cases this
    · rw [wipeE_out hi] at h1
      rw [hs i hi] at h2
      exact N.n i w ys h1 h2
  · by_cases hi : i ∈ vs
    · have := wipeE_in hi h1; cases this
    · rw [wipeE_out hi] at h1
      exact N.f i w F P h1 hf
variable {elt tg iter : Expr} {ifs : List Expr} {scope : Scope} {own : List (Str × Nat)} {wi : WI} {g : WG} {tt : WT} {we : WE}
/-- the block's parts, whatever frame it gets -/
structure Blk (X : Cx) (Φ : Cl) (scope : Scope) (vs : List Nat) (tg : Expr) (ifs : List Expr) (elt : Expr) (g : WG) (tt : WT) (we : WE) : Prop where
  g : ∀ (T : Hp) (s : Shared) (H : Hp) (C : Addr) (cl : List (Str × Addr)) (fp : List Addr), QC (X.blk s H scope (compEnvC scope cl C X.env) fp) { Φ with T := T } vs tg g
  t : ∀ (T : Hp) (s : Shared) (H : Hp) (C : Addr) (cl : List (Str × Addr)) (fp : List Addr), QTs (X.blk s H scope (compEnvC scope cl C X.env) fp) { Φ with T := T } ifs tt
  e : ∀ (T : Hp) (s : Shared) (H : Hp) (C : Addr) (cl : List (Str × Addr)) (fp : List Addr), QE (X.blk s H scope (compEnvC scope cl C X.env) fp) { Φ with T := T } elt we
theorem wLc_mono {vs : List Nat} (hi : QI X Φ tg iter wi) (B : Blk X Φ scope vs tg ifs elt g tt we) : ∀ ρ Q Q', (∀ x ρ', Q x ρ' → Q' x ρ') → wLc wi g tt we vs ρ Q → wLc wi g tt we vs ρ Q' := fun ρ Q Q' h q =>
  hi.mono ρ _ _ (fun xs ρ' q' => wMake_mono (B.g (fun _ => none) X.s_0 (fun _ => none) 0 [] []).mono (B.t (fun _ => none) X.s_0 (fun _ => none) 0 [] []).mono (B.e (fun _ => none) X.s_0 (fun _ => none) 0 [] []).mono h _ _ _ q') q
/-- the readings of the parts, the held list told by the heap -/
def heldG (Φ : Cl) (p : Addr) (vs : List Nat) (w : WG) : TG := fun v σ H Q => ∃ acc, liftC (Φ.held p acc) vs w v σ H Q
def heldT (Φ : Cl) (p : Addr) (w : WT) : TT := fun σ H Q => ∃ acc, liftT (Φ.held p acc) w σ H Q
def heldE (Φ : Cl) (p : Addr) (w : WE) : TE := fun σ H Q => ∃ acc, liftE (Φ.held p acc) w σ H Q
def anyG (Φ : Cl) (vs : List Nat) (w : WG) : TG := fun v σ H Q => ∃ p, heldG Φ p vs w v σ H Q
def anyT (Φ : Cl) (w : WT) : TT := fun σ H Q => ∃ p, heldT Φ p w σ H Q
def anyE (Φ : Cl) (w : WE) : TE := fun σ H Q => ∃ p, heldE Φ p w σ H Q
theorem lift_lc (hi : QI X Φ tg iter wi) (B : Blk X Φ scope (own.map (·.2)) tg ifs elt g tt we) : ∀ σ H Q, liftF Φ (wLc wi g tt we (own.map (·.2))) σ H Q →
    tLc (liftI Φ wi) (anyG Φ (own.map (·.2)) g) (anyT Φ tt) (anyE Φ we) (own.map (·.2)) σ H Q := by
  intro σ H Q ⟨M, ρ, A, q⟩
  generalize own.map (·.2) = vs at *
  have gm := (B.g (fun _ => none) X.s_0 (fun _ => none) 0 [] []).mono
  have tm := (B.t (fun _ => none) X.s_0 (fun _ => none) 0 [] []).mono
  have em := (B.e (fun _ => none) X.s_0 (fun _ => none) 0 [] []).mono
  refine ⟨M, ρ, A, hi.mono ρ _ _ (fun xs ρ1 q1 => ?_) q⟩
  intro M1 H1 J A1 S1 G1 p hp
  obtain ⟨G, Y, W, hG, hY⟩ := G1.ex
  have hw : (wipe σ vs).length = σ.length := wipe_length σ vs
  obtain ⟨A2, S2, N2⟩ := A1.add (vs := []) hp .nil
  have h0 := N2.h0
  have ht := N2.t
  generalize hQ : (fun (zs : List D) (ρ' : Ev) => ∀ M' p vs H', Abs Φ M' σ H' ρ' → Step M H M' H' → NewL Φ M' σ H' ρ' p vs zs → Q (.ref p) H') = QQ at q1
  refine lc_it W (fun i H2 => ∃ M2 ρ2 acc ds, Abs Φ M2 (wipe σ vs) H2 ρ2 ∧ NewL Φ M2 (wipe σ vs) H2 ρ2 p acc ds ∧ Step M1 H1 M2 H2 ∧ (∀ i ∈ vs, ∀ e, ρ2[i]? = some e → e = .un) ∧ wMake g tt we vs QQ (xs.drop i) ds ρ2) ?_ (fun i H2 hi ⟨M2, ρ2, acc, ds, A2, N2, S2, u2, q2⟩ => hG M2 H2 S2) ?_ ?_
  · exact ⟨_, _, [], [], A2.wiped vs hw fun i hi => wipe_out hi, N2.moved fun i hi => wipe_out hi, S2, fun i hi e h => wipeE_in hi h, by rw [List.drop_zero]; exact q1⟩
  · intro i v H2 H3 hlt ⟨M2, ρ2, acc, ds, A2, N2, S2, u2, q2⟩ y
    obtain ⟨sm, hx⟩ := hY i M2 H2 H3 v S2 y
    have rx := hx xs[i] (List.getElem?_eq_getElem hlt)
    rw [List.drop_eq_getElem_cons hlt] at q2
    have S3 : Step M2 H2 M2 H3 := step_same sm
    have A3 := (A2.hold_in N2).same sm
    refine ⟨p, acc, M2, ρ2, _, A3, rx, gm _ _ _ _ (fun ρ4 q4 => ?_) q2⟩
    intro M4 σ4 H4 A4 S4 t4
    have e4 : wipe σ4 vs = wipe σ vs := by
      apply List.ext_getElem?
      intro k
      by_cases hk : k ∈ vs
      · have hl : (wipe σ4 vs).length = (wipe σ vs).length := by rw [wipe_length]; exact t4.1
        have un : ∀ (τ : L2.St) (o : Option V), (wipe τ vs)[k]? = some o → o = none := fun τ o h => by
          cases o with
          | none => rfl
          | some v => exact absurd hk (wipe_some h).2
        cases h1 : (wipe σ4 vs)[k]? with
        | none =>
          have : (wipe σ vs)[k]? = none := by
            rw [List.getElem?_eq_none_iff] at h1 ⊢
            omega
          rw [this]
        | some o =>
          have hk2 : k < (wipe σ vs).length := by
            have := (List.getElem?_eq_some_iff.mp h1).1
            omega
          rw [List.getElem?_eq_getElem hk2]
          rw [un _ _ h1, un σ _ (List.getElem?_eq_getElem hk2)]
      · rw [wipe_out hk, t4.2 k hk]
    refine ⟨e4, p, acc, M4, ρ4, A4, tm _ _ _ (fun b ρ5 q5 => ?_) q4⟩
    intro M5 H5 A5 S5
    have back : ∀ {M6 : Addr → Prop} {H6 : Hp} {ρ6 : Ev}, Abs (Φ.held p acc) M6 σ4 H6 ρ6 → Step M2 H2 M6 H6 → Abs Φ M6 (wipe σ vs) H6 (wipeE ρ6 vs) ∧ NewL Φ M6 (wipe σ vs) H6 (wipeE ρ6 vs) p acc ds := fun {M6 H6 ρ6} A6 S6 => by
      obtain ⟨h1, h2⟩ := A6.hold_out ht h0 (N2.r.step S6)
      have hs : ∀ k, k ∉ vs → (wipe σ vs)[k]? = σ4[k]? := fun k hk => by rw [← e4, wipe_out hk]
      exact ⟨h1.wiped vs (by rw [wipe_length, t4.1, wipe_length]) hs, h2.moved hs⟩
    cases b with
    | true =>
      refine iteT ⟨p, acc, M5, ρ5, A5, em _ _ _ (fun y ρ6 q6 => ?_) q5⟩
      intro M6 u H6 A6 S6 r6
      have SS := S3.trans (S4.trans (S5.trans S6))
      obtain ⟨B6, N6⟩ := back A6 SS
      obtain ⟨B7, S7, N7⟩ := B6.put N6 (N6.r.append (.cons r6 .nil))
      refine ⟨acc, N6.h, by rw [N6.r.length]; exact q6.1, M6, _, _, _, B7, N7, S2.trans (SS.trans S7), fun k hk e h => wipeE_in hk h, q6.2⟩
    | false =>
      have SS := S3.trans (S4.trans S5)
      obtain ⟨B6, N6⟩ := back A5 SS
      exact iteF ⟨M5, _, _, _, B6, N6, S2.trans SS, fun k hk e h => wipeE_in hk h, q5⟩
  · intro H2 ⟨M2, ρ2, acc, ds, A2, N2, S2, u2, q2⟩
    rw [List.drop_length] at q2
    have q2' : QQ ds ρ2 := q2
    subst hQ
    refine q2' M2 p acc H2 ?_ (S1.trans S2) ?_
    · refine ⟨by rw [← A2.len, hw], fun k en o h1 h2 => ?_, fun k j a w1 w2 ys zs h1 h2 h3 h4 => ?_, A2.lst, A2.m0, A2.keep, A2.wm, A2.hold, fun k j a ys zs h1 h2 h3 h4 => ?_, A2.tab, fun k j w F P e a hkj h1 h2 h3 => by
        by_cases hk : k ∈ vs
        · have := u2 k hk _ h1; cases this
        · by_cases hj : j ∈ vs
          · rw [u2 j hj _ h2]; trivial
          · exact A2.far k j w F P e a hkj h1 h2 (by rw [wipe_out hj]; exact h3)⟩
      · by_cases hk : k ∈ vs
        · rw [u2 k hk en h1]; trivial
        · exact A2.slot k en o h1 (by rw [wipe_out hk]; exact h2)
      · by_cases hk : k ∈ vs
        · have := u2 k hk _ h1; cases this
        · by_cases hj : j ∈ vs
          · have := u2 j hj _ h2; cases this
          · exact A2.inj k j a w1 w2 ys zs h1 h2 (by rw [wipe_out hk]; exact h3) (by rw [wipe_out hj]; exact h4)
      · by_cases hk : k ∈ vs
        · have := u2 k hk _ h1; cases this
        · by_cases hj : j ∈ vs
          · have := u2 j hj _ h2; cases this
          · exact A2.injd k j a ys zs h1 h2 (by rw [wipe_out hk]; exact h3) (by rw [wipe_out hj]; exact h4)
    · refine ⟨N2.m, N2.h, N2.r, N2.h0, N2.t, fun k w ys h1 h2 => ?_, fun k w F P h1 hf => N2.f k w F P h1 hf⟩
      by_cases hk : k ∈ vs
      · have := u2 k hk _ h1; cases this
      · exact N2.n k w ys h1 (by rw [wipe_out hk]; exact h2)
theorem anyE_of {X : Cx} (h : ∀ T, QE X { Φ with T := T } elt we) : PE X elt (anyE Φ we) := ⟨fun pins s σ H Q I ⟨p, acc, q⟩ => (h (upd Φ.T p (.lst acc))).run.run pins s σ H Q I q⟩
theorem anyT_of {X : Cx} (h : ∀ T, QTs X { Φ with T := T } ifs tt) : PTs X ifs (anyT Φ tt) := ⟨fun pins s σ H Q I ⟨p, acc, q⟩ => (h (upd Φ.T p (.lst acc))).run.run pins s σ H Q I q⟩
theorem anyG_of {X : Cx} {vs : List Nat} (h : ∀ T, QC X { Φ with T := T } vs tg g) : PG X tg (anyG Φ vs g) := ⟨fun pins s σ H v u Q I r ⟨p, acc, q⟩ => (h (upd Φ.T p (.lst acc))).run.run pins s σ H v u Q I r q⟩
theorem qf_lc (hc : X.calm = true) (hN : X.N.Nodup) (hi : QI X Φ tg iter wi) {vs : List Nat} (bk : BlkOk X.N X.env.scope scope own) (B : Blk X Φ scope vs tg ifs elt g tt we)
    (hvs : own.map (·.2) = vs := by rfl) (hs : ∀ x, foldedSetIterable iter X.env x = pure x := by intro _; rfl) : QF X Φ (.ListComp elt [⟨tg, iter, ifs, 0⟩] scope pos) (wLc wi g tt we vs) := by
  subst hvs
  exact ⟨wLc_mono hi B, PEw (pe_lc hc hN hi.run bk (fun s H C cl fp => anyG_of fun T => B.g T s H C cl fp) (fun s H C cl fp => anyT_of fun T => B.t T s H C cl fp) (fun s H C cl fp => anyE_of fun T => B.e T s H C cl fp) hs) (lift_lc hi B)⟩
/-- name = [..], the name a local: as a value, or to be changed -/
theorem qs_setLc {i : Nat} {y : Str} {py spos : Pos} (hc : X.calm = true) (hN : X.N.Nodup) (hy : X.N[i]? = some y) (hyl : X.env.scope.names.lookup y = some .local)
    (hsw : swapsWith (.ListComp elt [⟨tg, iter, ifs, 0⟩] scope pos) (some (.Name y py)) spos.line X.env = pure true) (hi : QI X Φ tg iter wi) {vs : List Nat} (bk : BlkOk X.N X.env.scope scope own) (B : Blk X Φ scope vs tg ifs elt g tt we)
    (hvs : own.map (·.2) = vs := by rfl) (hs : ∀ x, foldedSetIterable iter X.env x = pure x := by intro _; rfl) :
    QS X Φ (.Assign [.Name y py] (.ListComp elt [⟨tg, iter, ifs, 0⟩] scope pos) spos) (wAsg (fun ρ Q => wLc wi g tt we vs ρ fun xs ρ' => Q (.lst xs) ρ') (wName i)) := by
  subst hvs
  refine ⟨fun ρ R R' h q => wLc_mono hi B ρ _ _ (fun xs ρ' q' => h.nx _ q') q, PSw (ps_setLc hc hN hy hyl hsw hi.run bk (fun s H C cl fp => anyG_of fun T => B.g T s H C cl fp) (fun s H C cl fp => anyT_of fun T => B.t T s H C cl fp) (fun s H C cl fp => anyE_of fun T => B.e T s H C cl fp) hs) fun D σ H ⟨M, ρ, A, q⟩ => ?_⟩
  refine lift_lc hi B σ H _ ⟨M, ρ, A, wLc_mono hi B ρ _ _ (fun xs ρ' q' => ?_) q⟩
  intro M' p vs H' A' S' N'
  obtain ⟨A2, S2, r2⟩ := A'.drop N'
  exact q' _ _ H' (A2.store r2) (S'.trans S2)
theorem qs_setLcOwn {i : Nat} {y : Str} {py spos : Pos} (hc : X.calm = true) (hN : X.N.Nodup) (hy : X.N[i]? = some y) (hyl : X.env.scope.names.lookup y = some .local)
    (hsw : swapsWith (.ListComp elt [⟨tg, iter, ifs, 0⟩] scope pos) (some (.Name y py)) spos.line X.env = pure true) (hi : QI X Φ tg iter wi) {vs : List Nat} (bk : BlkOk X.N X.env.scope scope own) (B : Blk X Φ scope vs tg ifs elt g tt we)
    (hvs : own.map (·.2) = vs := by rfl) (hs : ∀ x, foldedSetIterable iter X.env x = pure x := by intro _; rfl) :
    QS X Φ (.Assign [.Name y py] (.ListComp elt [⟨tg, iter, ifs, 0⟩] scope pos) spos) (wOwn (wLc wi g tt we vs) i) := by
  subst hvs
  refine ⟨fun ρ R R' h q => wLc_mono hi B ρ _ _ (fun xs ρ' q' => h.nx _ q') q, PSw (ps_setLc hc hN hy hyl hsw hi.run bk (fun s H C cl fp => anyG_of fun T => B.g T s H C cl fp) (fun s H C cl fp => anyT_of fun T => B.t T s H C cl fp) (fun s H C cl fp => anyE_of fun T => B.e T s H C cl fp) hs) fun D σ H ⟨M, ρ, A, q⟩ => ?_⟩
  refine lift_lc hi B σ H _ ⟨M, ρ, A, wLc_mono hi B ρ _ _ (fun xs ρ' q' => ?_) q⟩
  intro M' p vs H' A' S' N'
  exact q' _ _ H' (A'.storeOwn N') S'
end
end AL
set_option Elab.async false
set_option linter.all false
set_option maxRecDepth 100000
namespace AL
open PySem PySem.Spec PyProof.Rows L2

section
variable {X : Cx} {Φ : Cl} [ok : ClOk Φ] {pos : Pos} {e a b c : Expr} {es : List Expr} {wa wb wc : WE} {wr : WA} {ta : WT} {st : Stmt} {rest : List Stmt} {w u : WS} {M : Addr → Prop} {σ σ' : L2.St} {H H' : Hp} {ρ : Ev}
theorem qv (i : Nat) {x : Str} (hN : X.N[i]? = some x := by rfl) (hv : Vis X.env.scope x := by first | exact Or.inl rfl | exact Or.inr (Or.inl rfl) | exact Or.inr (Or.inr rfl)) (hd : (x == ("__debug__" : Str)) = false := by decide)
    (hcd : (x == ("__classdict__" : Str)) = false := by decide) : QE X Φ (.Name x pos) (wVar i) := qe_var hN hv hd hcd
theorem qvb (i : Nat) {x : Str} (hN : X.N[i]? = some x := by rfl) (hv : Vis X.env.scope x := by first | exact Or.inl rfl | exact Or.inr (Or.inl rfl) | exact Or.inr (Or.inr rfl)) (hd : (x == ("__debug__" : Str)) = false := by decide)
    (hcd : (x == ("__classdict__" : Str)) = false := by decide) : QB X Φ (.Name x pos) (wVarB i) := qb_var hN hv hd hcd
theorem q2v (i : Nat) {x : Str} {p : Pos} (hb : QB X Φ b wb) (hN : X.N[i]? = some x := by rfl) (hv : Vis X.env.scope x := by first | exact Or.inl rfl | exact Or.inr (Or.inl rfl) | exact Or.inr (Or.inr rfl)) (hd : (x == ("__debug__" : Str)) = false := by decide)
    (hcd : (x == ("__classdict__" : Str)) = false := by decide) : Q2 X Φ (.Name x p) b (w2v i wb) := q2_v hN hv hb hd hcd

/-! ### an own list is written -/
/-- the list at r, of slot i, is now us' -/
theorem Abs.writeOwn (A : Abs Φ M σ H ρ) {i : Nat} {w : Bool} {xs ys : List D} {r : Addr} {us' : List V} (e : ρ[i]? = some (.own w xs)) (es : σ[i]? = some (some (.ref r))) (old : ∀ b o, b ≠ r → H b = some o → H' b = some o) (new : H' r = some (.lst us')) (rr : RpAll Φ.K M H' us' ys) :
    Abs Φ M σ H' (ρ.set i (.own w ys)) ∧ Step M H M H' := by
  obtain ⟨a, vs, e1, m, hh, r0, z, t⟩ := A.slot i _ _ e es
  cases e1
  have st : Step M H M H' := ⟨fun b o hm h => ⟨hm, old b o (fun y => hm (by rw [y]; exact m)) h⟩, fun b zs h => old b _ (fun y => by rw [y, hh] at h; cases h) h, fun b o u h => old b _ (fun y => by rw [y, hh] at h; cases h) h⟩
  have hi : i < ρ.length := (List.getElem?_eq_some_iff.mp e).1
  have own : ∀ {j : Nat} {w' : Bool} {zs : List D}, (ρ.set i (.own w ys))[j]? = some (.own w' zs) → ∃ zs', ρ[j]? = some (.own w' zs') := fun {j w' zs} h => by
    by_cases hj : i = j
    · subst hj
      rw [List.getElem?_set_self hi] at h
      cases h; exact ⟨xs, e⟩
    · rw [List.getElem?_set_ne hj] at h; exact ⟨zs, h⟩
  refine ⟨⟨by rw [List.length_set]; exact A.len, fun j en o h1 h2 => ?_, fun j k p w1 w2 zs1 zs2 h1 h2 h3 h4 => ?_, fun b hb => ?_, A.m0, fun b o h1 h2 => ?_, A.wm, fun b o h => ?_, fun j k b ys zs h1 h2 h3 h4 => A.injd j k b ys zs (not_dic (fun _ => En.noConfusion) h1).2 (not_dic (fun _ => En.noConfusion) h2).2 h3 h4, A.tabs st fun P ps m' h => ⟨m', old _ _ (fun y => by rw [y, hh] at h; cases h) h⟩, A.far.set (fun _ _ => rfl) (fun _ _ _ => En.noConfusion) fun j w F P a hji h1 h3 => (show ¬ F a from A.far j i w F P (.own _ xs) a hji h1 e h3)⟩, st⟩
  · by_cases hj : i = j
    · subst hj
      rw [List.getElem?_set_self hi] at h1
      cases h1
      rw [es] at h2; cases h2
      exact ⟨r, us', rfl, m, new, rr, z, t⟩
    · rw [List.getElem?_set_ne hj] at h1
      have q := A.slot j en o h1 h2
      cases en with
      | un => trivial
      | d x => obtain ⟨v, e1, r1⟩ := q; exact ⟨v, e1, r1.step st⟩
      | own w' zs =>
        obtain ⟨b, ws, e1, m1, h3, r1, z1⟩ := q
        have ne : b ≠ r := fun y => by
          subst y; subst e1
          exact hj (A.inj i j _ _ _ _ _ e h1 es h2)
        exact ⟨b, ws, e1, m1, old b _ ne h3, r1.step st, z1⟩
      | dic ks =>
        obtain ⟨b, P, w, ws, e1, m1, h3, r1, z1⟩ := q
        have ne : b ≠ r := fun y => by rw [y, hh] at h3; cases h3
        exact ⟨b, P, w, ws, e1, m1, old b _ ne h3, r1.step st, z1⟩
      | obj w F P =>
        obtain ⟨b, e1, f, g, r1⟩ := q
        have nf : ¬ F r := A.far j i w F P _ r (fun z => hj z.symm) h1 e es
        refine ⟨b, e1, f, g, g.1 _ _ _ _ _ st (fun c hc => ?_) r1⟩
        obtain ⟨o, hb', _⟩ := A.lst c (f c hc).1
        rw [hb', old c o (fun z => nf (z ▸ hc)) hb']
  · obtain ⟨y1, g1⟩ := own h1
    obtain ⟨y2, g2⟩ := own h2
    exact A.inj j k p w1 w2 y1 y2 g1 g2 h3 h4
  · by_cases y : b = r
    · rw [y]; exact ⟨_, new, trivial⟩
    · obtain ⟨ws, q, mu⟩ := A.lst b hb
      exact ⟨ws, old b _ y q, mu⟩
  · refine old b o (fun y => ?_) (A.keep b o h1 h2)
    subst y
    cases w with
    | true => exact h2 z
    | false =>
      have z' : Φ.H0 b = none := z
      rw [z'] at h1; cases h1
  · exact ⟨(A.hold b o h).1, old b o (fun y => by rw [y, t] at h; cases h) (A.hold b o h).2⟩
/-- what an own slot holds -/
def ownE : Option En → (Bool → List D → Prop) → Prop
  | some (.own w xs), P => P w xs
  | _, _ => False
theorem ownE_mono {o : Option En} {P P' : Bool → List D → Prop} (h : ∀ w x, P w x → P' w x) (q : ownE o P) : ownE o P' := by
  cases o with
  | none => exact q.elim
  | some e => cases e <;> first | exact h _ _ q | exact q.elim
theorem ownE_rp (A : Abs Φ M σ H ρ) {i : Nat} {P : Bool → List D → Prop} (q : ownE ρ[i]? P) : ∃ w xs r vs, ρ[i]? = some (.own w xs) ∧ σ[i]? = some (some (.ref r)) ∧ M r ∧ H r = some (.lst vs) ∧ RpAll Φ.K M H vs xs ∧ P w xs := by
  cases he : ρ[i]? with
  | none => rw [he] at q; exact q.elim
  | some en =>
    have hi : i < σ.length := by rw [A.len]; exact (List.getElem?_eq_some_iff.mp he).1
    have sl := A.slot i en _ he (List.getElem?_eq_getElem hi)
    rw [he] at q
    cases en with
    | un => exact q.elim
    | d x => exact q.elim
    | own w xs => obtain ⟨r, vs, e, m, h, rr, _⟩ := sl; exact ⟨w, xs, r, vs, rfl, by rw [List.getElem?_eq_getElem hi, e], m, h, rr, q⟩
    | dic ks => exact q.elim
    | obj w F P => exact q.elim
theorem upd_old {r : Addr} {o : HO} : ∀ b u, b ≠ r → H b = some u → upd H r o b = some u := fun b u n h => by rw [upd_ne n]; exact h
theorem step_upd {r : Addr} {vs us : List V} (m : M r) (hh : H r = some (.lst vs)) : Step M H M (upd H r (.lst us)) :=
  ⟨fun b o hm h => ⟨hm, upd_old b o (fun y => hm (by rw [y]; exact m)) h⟩, fun b zs h => upd_old b _ (fun y => by rw [y, hh] at h; cases h) h, fun b o u h => upd_old b _ (fun y => by rw [y, hh] at h; cases h) h⟩

/-- xs.append(e) -/
def wApp (i : Nat) (wa : WE) : WE := fun ρ Q => ownE ρ[i]? fun _ _ => wa ρ fun x ρ1 => ownE ρ1[i]? fun w xs => xs.length < sizeLine ∧ Q .non (ρ1.set i (.own w (xs ++ [x])))
/-- xs.pop(e) -/
def wPop (i : Nat) (wa : WE) : WE := fun ρ Q => ownE ρ[i]? fun _ _ => wa ρ fun x ρ1 => ownE ρ1[i]? fun w xs => match x with
  | .int k => (-(2 ^ 63) ≤ k ∧ k < 2 ^ 63) ∧ ∃ j y, seqIndex? k xs.length = some j ∧ xs[j]? = some y ∧ Q y (ρ1.set i (.own w (xs.eraseIdx j)))
  | _ => False
theorem qe_app {i : Nat} {x : Str} {p : Pos} (hN : X.N[i]? = some x) (hv : Vis X.env.scope x) (ha : QE X Φ e wa) (hd : (x == ("__debug__" : Str)) = false := by decide) (hcd : (x == ("__classdict__" : Str)) = false := by decide)
    (mk : ∀ ta tb, PE X (.Name x p) ta → PA X [e] tb → PE X c (tBM X.K "list" rAppend ta tb)) (hs : starEach (e :: []) X.env = (false, eval e X.env) :: starEach [] X.env := by rfl) : QE X Φ c (wApp i wa) := by
  refine ⟨fun ρ Q Q' h q => ownE_mono (fun _ _ q => ha.mono ρ _ _ (fun x ρ1 q1 => ownE_mono (fun w xs p => ⟨p.1, h _ _ p.2⟩) q1) q) q, PEw (mk _ _ (pe_var hN hv hd hcd) (pa_cons ha.run pa_nil hs)) fun σ H Q ⟨M, ρ, A, q⟩ => ?_⟩
  obtain ⟨w, xs, r, vs, e1, es, m, hh, rr, q⟩ := ownE_rp A q
  refine ⟨.ref r, es, .inl ⟨rfl, _, SqL.of hh⟩, M, ρ, A, ha.mono ρ _ _ (fun x ρ1 q1 => ?_) q⟩
  intro M1 v H1 A1 S1 r1
  obtain ⟨w1, xs1, r', vs1, e2, es2, m2, hh2, rr2, p⟩ := ownE_rp A1 q1
  rw [es] at es2; cases es2
  refine ⟨r, vs1, v, rfl, rfl, hh2, by rw [rr2.length]; exact p.1, ?_⟩
  have st : Step M1 H1 M1 (upd H1 r (.lst (vs1 ++ [v]))) := step_upd m2 hh2
  obtain ⟨A3, S3⟩ := A1.writeOwn e2 es upd_old upd_same ((rr2.append (.cons r1 .nil)).step st)
  exact p.2 M1 .non _ A3 (S1.trans S3) .non
theorem qe_pop {i : Nat} {x : Str} {p : Pos} (hN : X.N[i]? = some x) (hv : Vis X.env.scope x) (ha : QE X Φ e wa) (hd : (x == ("__debug__" : Str)) = false := by decide) (hcd : (x == ("__classdict__" : Str)) = false := by decide)
    (mk : ∀ ta tb, PE X (.Name x p) ta → PA X [e] tb → PE X c (tBM X.K "list" rPopAt ta tb)) (hs : starEach (e :: []) X.env = (false, eval e X.env) :: starEach [] X.env := by rfl) : QE X Φ c (wPop i wa) := by
  refine ⟨fun ρ Q Q' h q => ownE_mono (fun _ _ q => ha.mono ρ _ _ (fun x ρ1 q1 => ownE_mono (fun w xs p => ?_) q1) q) q, PEw (mk _ _ (pe_var hN hv hd hcd) (pa_cons ha.run pa_nil hs)) fun σ H Q ⟨M, ρ, A, q⟩ => ?_⟩
  · cases x <;> first | exact p.elim | exact ⟨p.1, let ⟨j, y, h1, h2, h3⟩ := p.2; ⟨j, y, h1, h2, h _ _ h3⟩⟩
  obtain ⟨w, xs, r, vs, e1, es, m, hh, rr, q⟩ := ownE_rp A q
  refine ⟨.ref r, es, .inl ⟨rfl, _, SqL.of hh⟩, M, ρ, A, ha.mono ρ _ _ (fun x ρ1 q1 => ?_) q⟩
  intro M1 v H1 A1 S1 r1
  obtain ⟨w1, xs1, r', vs1, e2, es2, m2, hh2, rr2, p⟩ := ownE_rp A1 q1
  rw [es] at es2; cases es2
  cases x with
  | int k =>
    cases r1
    obtain ⟨⟨l1, l2⟩, j, y, h1, h2, h3⟩ := p
    obtain ⟨yv, g1, g2⟩ := rr2.get h2
    refine ⟨r, vs1, k, j, yv, rfl, rfl, hh2, l1, l2, by rw [rr2.length]; exact h1, g1, ?_⟩
    have st : Step M1 H1 M1 (upd H1 r (.lst (vs1.eraseIdx j))) := step_upd m2 hh2
    obtain ⟨A3, S3⟩ := A1.writeOwn e2 es upd_old upd_same ((rr2.eraseIdx j).step st)
    exact h3 M1 yv _ A3 (S1.trans S3) (g2.step st)
  | _ => exact p.elim
/-- xs[k] = e -/
def wSetI (wa : WE) (i : Nat) (k : Nat) : WS := fun R ρ => wa ρ fun x ρ1 => ownE ρ1[i]? fun w xs => k < xs.length ∧ R.nx (ρ1.set i (.own w (xs.set k x)))
theorem qs_setI {i k : Nat} {x : Str} {p spos : Pos} {j ip} (hN : X.N[i]? = some x) (hv : Vis X.env.scope x) (ha : QE X Φ e wa) (hd : (x == ("__debug__" : Str)) = false := by decide) (hcd : (x == ("__classdict__" : Str)) = false := by decide)
    (hsub : ∀ v, assign (.Subscript (.Name x p) (.Constant (.int (k : Nat)) j ip) spos) X.env v = (do
      let ov ← holding [v] (eval (.Name x p) X.env)
      let iv ← holding [v, ov] (eval (.Constant (.int (k : Nat)) j ip) X.env)
      standAt spos
      holding [v, ov, iv] (setItem ov iv v)
      release [v, ov, iv] []) := by intro _; rfl)
    (hs : swapsWithSole [.Subscript (.Name x p) (.Constant (.int (k : Nat)) j ip) spos] e pos.line X.env = pure false := by rfl) (hw : swappedStores [.Subscript (.Name x p) (.Constant (.int (k : Nat)) j ip) spos] e X.env = pure none := by rfl)
    (h1 : (assignEach [.Subscript (.Name x p) (.Constant (.int (k : Nat)) j ip) spos] X.env).map (·.2) = [assign (.Subscript (.Name x p) (.Constant (.int (k : Nat)) j ip) spos) X.env] := by rfl) : QS X Φ (.Assign [.Subscript (.Name x p) (.Constant (.int (k : Nat)) j ip) spos] e pos) (wSetI wa i k) := by
  refine ⟨fun ρ R R' h q => ha.mono ρ _ _ (fun x ρ1 q1 => ownE_mono (fun w xs p => ⟨p.1, h.nx _ p.2⟩) q1) q, PSw (ps_asg ha.run (pg_sub (pe_var hN hv hd hcd) pe_int set_list hsub) hs hw h1) fun D σ H ⟨M, ρ, A, q⟩ => ?_⟩
  refine ⟨M, ρ, A, ha.mono ρ _ _ (fun x ρ1 q1 => ?_) q⟩
  intro M1 v H1 A1 S1 r1
  obtain ⟨w1, xs1, r, vs1, e2, es2, m2, hh2, rr2, hk, q2⟩ := ownE_rp A1 q1
  refine ⟨.ref r, es2, r, vs1, (k : Int), k, rfl, rfl, hh2, ?_, ?_⟩
  · unfold ixN
    rw [if_pos (by omega), if_pos (by rw [rr2.length]; omega)]
    rfl
  · have st : Step M1 H1 M1 (upd H1 r (.lst (vs1.set k v))) := step_upd m2 hh2
    obtain ⟨A3, S3⟩ := A1.writeOwn e2 es2 upd_old upd_same ((RpAll.set r1 k rr2).step st)
    exact q2 M1 σ _ A3 (S1.trans S3)

/-! ### calls of the text's own defs -/
abbrev ASp := List D → (D → Prop) → Prop
abbrev RSp := List D → List D → (D → List D → Prop) → Prop
def MonoA (s : ASp) : Prop := ∀ xs P P', (∀ y, P y → P' y) → s xs P → s xs P'
def MonoR (s : RSp) : Prop := ∀ r xs P P', (∀ y z, P y z → P' y z) → s r xs P → s r xs P'
/-- arguments as data; what stood stands; the answer as data -/
def liftSp (K : PySem.W.Frag) (s : ASp) : Sp := fun vs H Q E => ∃ M xs, (∀ p, M p → ∃ o, H p = some o ∧ MutO o) ∧ RpAll K M H vs xs ∧ s xs fun y => ∀ v H', Same H H' → Rp K M H' v y → Q v H'
/-- the first argument a list that may be changed -/
def liftRw (K : PySem.W.Frag) (s : RSp) : Sp := fun vs H Q E => ∃ M r us row ws xs, vs = .ref r :: ws ∧ M r ∧ (∀ p, M p → ∃ o, H p = some o ∧ MutO o) ∧ H r = some (.lst us) ∧ RpAll K M H us row ∧ RpAll K M H ws xs ∧
  s row xs fun y row' => ∀ v H' us', (∀ b o, b ≠ r → H b = some o → H' b = some o) → H' r = some (.lst us') → RpAll K M H' us' row' → Rp K M H' v y → Q v H'
def wCallS (s : ASp) (wr : WA) : WE := fun ρ Q => wr ρ fun xs ρ1 => s xs fun y => Q y ρ1
theorem wCallS_mono {s : ASp} (sm : MonoA s) (ha : QA X Φ es wr) : ∀ ρ Q Q', (∀ x ρ', Q x ρ' → Q' x ρ') → wCallS s wr ρ Q → wCallS s wr ρ Q' := fun ρ Q Q' h q => ha.mono ρ _ _ (fun xs ρ1 q1 => sm xs _ _ (fun y p => h y ρ1 p) q1) q
theorem lift_callS {s : ASp} (sm : MonoA s) (ha : QA X Φ es wr) {E : XK} : ∀ σ H Q, liftE Φ (wCallS s wr) σ H Q → tCall (liftSp Φ.K s) [] E (liftA Φ wr) σ H Q := by
  intro σ H Q ⟨M, ρ, A, q⟩
  refine ⟨M, ρ, A, ha.mono ρ _ _ (fun xs ρ1 q1 => ?_) q⟩
  intro M1 vs H1 A1 S1 r1
  rw [List.append_nil]
  refine ⟨M1, xs, A1.lst, r1, sm xs _ _ (fun y p v H' s' r' => ?_) q1⟩
  exact p M1 v H' (A1.same s') (S1.trans (step_same s')) r'
variable {k : Nat} {f : Addr} {fd : FuncData} {ps : List Str} {x : Str} {p : Pos} {CX : CXT} {E : XK}
theorem qe_call {s : ASp} (sm : MonoA s) (F : FnOk X.prog X.w X.K X.mg X.base CX k f fd ps (liftSp Φ.K s)) (hr : Room k X.A) (hm : X.mg x = some (.ref f)) (hk : PySem.W.keepIn X.K (.ref f) = true) (hb : Binds X.K fd ps []) (hx : Passes CX X E)
    (ha : QA X Φ (e :: es) wr) (hg : Gl X x := by rfl) (hdb : (x == ("__debug__" : Str)) = false := by decide) (he : starEach (e :: es) X.env = (false, eval e X.env) :: starEach es X.env := by rfl) (hpl : (backTo pos (starEach es X.env)).any (·.1) = false := by rfl) :
    QE X Φ (.Call (.Name x p) (e :: es) [] pos) (wCallS s wr) :=
  ⟨wCallS_mono sm ha, PEw (pe_call F hr hg hm hk hb .nil hx ha.run hdb he hpl) (lift_callS sm ha)⟩
/-- f(row, ..), row the name at slot i -/
def wCallR (s : RSp) (i : Nat) (wr : WA) : WE := fun ρ Q => ownE ρ[i]? fun _ _ => wr ρ fun xs ρ1 => ownE ρ1[i]? fun w row => s row xs fun y row' => Q y (ρ1.set i (.own w row'))
theorem qe_callR {s : RSp} {i : Nat} {y : Str} {py : Pos} (sm : MonoR s) (F : FnOk X.prog X.w X.K X.mg X.base CX k f fd ps (liftRw Φ.K s)) (hr : Room k X.A) (hm : X.mg x = some (.ref f)) (hk : PySem.W.keepIn X.K (.ref f) = true) (hb : Binds X.K fd ps []) (hx : Passes CX X E)
    (hN : X.N[i]? = some y) (hv : Vis X.env.scope y) (ha : QA X Φ es wr) (hg : Gl X x := by rfl) (hdb : (x == ("__debug__" : Str)) = false := by decide) (hdy : (y == ("__debug__" : Str)) = false := by decide) (hcd : (y == ("__classdict__" : Str)) = false := by decide)
    (he : starEach (.Name y py :: es) X.env = (false, eval (.Name y py) X.env) :: starEach es X.env := by rfl) (hpl : (backTo pos (starEach es X.env)).any (·.1) = false := by rfl) :
    QE X Φ (.Call (.Name x p) (.Name y py :: es) [] pos) (wCallR s i wr) := by
  refine ⟨fun ρ Q Q' h q => ownE_mono (fun _ _ q => ha.mono ρ _ _ (fun xs ρ1 q1 => ownE_mono (fun w row q2 => sm row xs _ _ (fun y z p => h _ _ p) q2) q1) q) q, PEw (pe_call F hr hg hm hk hb .nil hx (pa_cons (pe_var hN hv hdy hcd) ha.run he) hdb he hpl) fun σ H Q ⟨M, ρ, A, q⟩ => ?_⟩
  obtain ⟨w, xs, r, vs, e1, es1, m, hh, rr, q⟩ := ownE_rp A q
  refine ⟨.ref r, es1, M, ρ, A, ha.mono ρ _ _ (fun xs1 ρ1 q1 => ?_) q⟩
  intro M1 vs1 H1 A1 S1 r1
  obtain ⟨w1, row, r', us, e2, es2, m2, hh2, rr2, q2⟩ := ownE_rp A1 q1
  rw [es1] at es2; cases es2
  rw [List.append_nil]
  refine ⟨M1, r, us, row, vs1, xs1, rfl, m2, A1.lst, hh2, rr2, r1, sm row xs1 _ _ (fun z row' p v H' us' old new rw' rv => ?_) q2⟩
  obtain ⟨A3, S3⟩ := A1.writeOwn e2 es1 old new rw'
  exact p M1 v H' A3 (S1.trans S3) rv
end

/-! ### a def keeps its promise -/
section
variable {P : Program} {w : World} {K : PySem.W.Frag} {mg : Str → Option Value} {base : Heap}
def startE (N ps : List Str) (xs : List D) : Ev := xs.map En.d ++ List.replicate (N.length - xs.length) En.un
theorem start_abs {M : Addr → Prop} {H : Hp} {N : List Str} {vs : List V} {xs : List D} {Φ : Cl} (h : RpAll Φ.K M H vs xs) (hm : ∀ p, M p → ∃ o, H p = some o ∧ MutO o) (h1 : Φ.M0 = M) (h2 : ∀ a, Φ.W a → Φ.M0 a) (h3 : Φ.H0 = H) (h4 : ∀ a, Φ.T a = none) (h5 : ∀ P q, Φ.TB = some (P, q) → M P ∧ Φ.W P ∧ Φ.T P = none ∧ TabM M H P q) :
    Abs Φ M (L2.start N vs) H (startE N [] xs) := by
  have hl := h.length
  have hs : ∀ (i : Nat) (e : En), (startE N [] xs)[i]? = some e → (∃ x, xs[i]? = some x ∧ e = .d x) ∨ (xs.length ≤ i ∧ e = .un) := fun i e he => by
    unfold startE at he
    by_cases hi : i < xs.length
    · rw [List.getElem?_append_left (by rw [List.length_map]; exact hi), List.getElem?_map, List.getElem?_eq_getElem hi] at he
      cases he
      exact .inl ⟨_, List.getElem?_eq_getElem hi, rfl⟩
    · rw [List.getElem?_append_right (by rw [List.length_map]; omega)] at he
      exact .inr ⟨by omega, List.eq_of_mem_replicate (List.mem_of_getElem? he)⟩
  refine ⟨?_, fun i e o he ho => ?_, fun i j a w1 w2 ys zs q1 q2 q3 q4 => ?_, hm, fun a ha => by rw [h1] at ha; exact ha, fun a o q _ => by rw [h3] at q; exact q, h2, fun a o q => (by rw [h4 a] at q; cases q), fun i j a ys zs q1 _ _ _ => (by rcases hs i _ q1 with ⟨x, hx, e⟩ | ⟨_, e⟩ <;> cases e), h5, fun i j w F P en a _ q1 _ _ => (by rcases hs i _ q1 with ⟨x, hx, e⟩ | ⟨_, e⟩ <;> cases e)⟩
  · unfold L2.start startE
    rw [List.length_append, List.length_append, List.length_map, List.length_map, List.length_replicate, List.length_replicate, hl]
  · rcases hs i e he with ⟨x, hx, rfl⟩ | ⟨_, rfl⟩
    · obtain ⟨v, hv, r⟩ := h.get hx
      refine ⟨v, ?_, r⟩
      unfold L2.start at ho
      have hi : i < vs.length := (List.getElem?_eq_some_iff.mp hv).1
      rw [List.getElem?_append_left (by rw [List.length_map]; exact hi), List.getElem?_map, hv] at ho
      cases ho; rfl
    · trivial
  · rcases hs i _ q1 with ⟨x, hx, e⟩ | ⟨_, e⟩ <;> cases e
def clOf (K : PySem.W.Frag) (M W : Addr → Prop) (H : Hp) : Cl := ⟨K, M, W, H, fun _ => none, none⟩
/-- from the readings over data to the promise -/
theorem fn_ok {x qual : Str} {st : Stmt} {f : Addr} {fd : FuncData} {N ps : List Str} {k : Nat} {s : ASp} {wb : WS} (F : Fun K x qual st f fd) (S : FnScope N ps (defScope st)) (len : ∀ xs Q, s xs Q → xs.length = ps.length)
    (body : ∀ (cdv : Value) (A : Around) (outer : List PySem.Env) (s₀ : Shared) (H : Hp) (E : XK) (M W : Addr → Prop) (H0 T : Hp) [ClOk ⟨K, M, W, H0, T, none⟩], Room k (A.deeper (envOfC qual (defScope st) s₀.heap.objs.size f cdv)) → QSs (cxOf CX0 P w K mg base N qual (defScope st) f cdv A outer s₀ H E).nox ⟨K, M, W, H0, T, none⟩ (defBody st) wb)
    (read : ∀ xs Q, s xs Q → wb { nx := fun _ => Q .non, rt := fun y _ => Q y } (startE N [] xs)) : FnOk P w K mg base CX0 (k + 1) f fd ps (liftSp K s) := by
  refine F.ok S (fun vs H Q E h => ?_) (fun cdv A outer s₀ H vs Q E hr h => ?_)
  · obtain ⟨M, xs, _, r, q⟩ := h
    rw [r.length]; exact len _ _ q
  · obtain ⟨M, xs, hm, r, q⟩ := h
    haveI : ClOk ⟨K, M, fun _ => False, H, fun _ => none, none⟩ := ⟨fun b hb => let ⟨us, z, _⟩ := hm b hb; ⟨_, z⟩⟩
    have B := body cdv A outer s₀ H E M (fun _ => False) H (fun _ => none) hr
    refine ⟨_, B.run, M, startE N [] xs, start_abs r hm rfl (fun a h => h.elim) rfl (fun _ => rfl) (fun P q e => by cases e), B.mono _ { nx := fun _ => ∀ v H', Same H H' → Rp K M H' v .non → Q v H', rt := fun y _ => ∀ v H', Same H H' → Rp K M H' v y → Q v H' } _ ⟨fun ρ q => ?_, fun y ρ q => ?_, fun _ q => q.elim, fun _ q => q.elim⟩ (read xs _ q)⟩
    · intro M' σ' H' A' S'
      exact q .non H' (fun a o e => A'.keep a o e fun z => z) .non
    · intro M' σ' v H' A' S' r'
      exact q v H' (fun a o e => A'.keep a o e fun z => z) (r'.step ⟨fun a o h e => ⟨fun z => h (A'.m0 a z), e⟩, fun _ _ e => e, fun _ _ _ e => e⟩)
def startR (N : List Str) (row xs : List D) : Ev := .own true row :: (xs.map En.d ++ List.replicate (N.length - (xs.length + 1)) En.un)
theorem start_absR {M : Addr → Prop} {H : Hp} {N : List Str} {r : Addr} {us vs : List V} {row xs : List D} {Φ : Cl} (h : RpAll Φ.K M H vs xs) (hr : M r) (hu : H r = some (.lst us)) (hw : RpAll Φ.K M H us row) (hm : ∀ p, M p → ∃ o, H p = some o ∧ MutO o) (h1 : Φ.M0 = M) (h2 : ∀ a, Φ.W a ↔ a = r) (h3 : Φ.H0 = H) (h4 : ∀ a, Φ.T a = none) (h5 : Φ.TB = none) :
    Abs Φ M (L2.start N (.ref r :: vs)) H (startR N row xs) := by
  have hl := h.length
  have hs : ∀ (i : Nat) (e : En), (startR N row xs)[i]? = some e → (i = 0 ∧ e = .own true row) ∨ (∃ j x, i = j + 1 ∧ xs[j]? = some x ∧ e = .d x) ∨ e = .un := fun i e he => by
    unfold startR at he
    match i, he with
    | 0, he => cases he; exact .inl ⟨rfl, rfl⟩
    | j + 1, he =>
      rw [List.getElem?_cons_succ] at he
      by_cases hi : j < xs.length
      · rw [List.getElem?_append_left (by rw [List.length_map]; exact hi), List.getElem?_map, List.getElem?_eq_getElem hi] at he
        cases he
        exact .inr (.inl ⟨j, _, rfl, List.getElem?_eq_getElem hi, rfl⟩)
      · rw [List.getElem?_append_right (by rw [List.length_map]; omega)] at he
        exact .inr (.inr (List.eq_of_mem_replicate (List.mem_of_getElem? he)))
  have h0 : (L2.start N (.ref r :: vs))[0]? = some (some (.ref r)) := by unfold L2.start; rfl
  refine ⟨?_, fun i e o he ho => ?_, fun i j a w1 w2 ys zs q1 q2 q3 q4 => ?_, hm, fun a ha => by rw [h1] at ha; exact ha, fun a o q _ => by rw [h3] at q; exact q, fun a q => by rw [(h2 a).mp q, h1]; exact hr, fun a o q => (by rw [h4 a] at q; cases q), fun i j a ys zs q1 _ _ _ => (by rcases hs i _ q1 with ⟨_, e⟩ | ⟨_, x, _, hx, e⟩ | e <;> cases e), (fun P q e => by rw [h5] at e; cases e), fun i j w F P en a _ q1 _ _ => (by rcases hs i _ q1 with ⟨_, e⟩ | ⟨_, x, _, hx, e⟩ | e <;> cases e)⟩
  · unfold L2.start startR
    simp only [List.length_append, List.length_cons, List.length_map, List.length_replicate, hl]
    omega
  · rcases hs i e he with ⟨rfl, rfl⟩ | ⟨j, x, rfl, hx, rfl⟩ | rfl
    · rw [h0] at ho; cases ho
      exact ⟨r, us, rfl, hr, hu, hw, (h2 r).mpr rfl, h4 r⟩
    · obtain ⟨v, hv, rr⟩ := h.get hx
      refine ⟨v, ?_, rr⟩
      unfold L2.start at ho
      have hi : j < vs.length := (List.getElem?_eq_some_iff.mp hv).1
      rw [List.getElem?_append_left (by rw [List.length_map, List.length_cons]; omega), List.getElem?_map, List.getElem?_cons_succ, hv] at ho
      cases ho; rfl
    · trivial
  · rcases hs i _ q1 with ⟨rfl, _⟩ | ⟨_, x, _, hx, e⟩ | e
    · rcases hs j _ q2 with ⟨rfl, _⟩ | ⟨_, x, _, hx, e⟩ | e
      · rfl
      · cases e
      · cases e
    · cases e
    · cases e
theorem fn_okR {x qual : Str} {st : Stmt} {f : Addr} {fd : FuncData} {N ps : List Str} {k : Nat} {s : RSp} {wb : WS} (F : Fun K x qual st f fd) (S : FnScope N ps (defScope st)) (len : ∀ row xs Q, s row xs Q → xs.length + 1 = ps.length)
    (hσ : ∀ (cdv : Value) (A : Around) (outer : List PySem.Env) (s₀ : Shared) (H : Hp) (E : XK), True)
    (body : ∀ (cdv : Value) (A : Around) (outer : List PySem.Env) (s₀ : Shared) (H : Hp) (E : XK) (M W : Addr → Prop) (H0 T : Hp) [ClOk ⟨K, M, W, H0, T, none⟩], Room k (A.deeper (envOfC qual (defScope st) s₀.heap.objs.size f cdv)) → QSs (cxOf CX0 P w K mg base N qual (defScope st) f cdv A outer s₀ H E).nox ⟨K, M, W, H0, T, none⟩ (defBody st) wb)
    (read : ∀ row xs Q, s row xs Q → wb { nx := fun ρ => ownE ρ[0]? fun w row' => w = true ∧ Q .non row', rt := fun y ρ => ownE ρ[0]? fun w row' => w = true ∧ Q y row' } (startR N row xs)) : FnOk P w K mg base CX0 (k + 1) f fd ps (liftRw K s) := by
  refine F.ok S (fun vs H Q E h => ?_) (fun cdv A outer s₀ H vs Q E hr h => ?_)
  · obtain ⟨M, r, us, row, ws, xs, rfl, _, _, _, _, rw', q⟩ := h
    rw [List.length_cons, rw'.length]; exact len _ _ _ q
  · obtain ⟨M, r, us, row, ws, xs, rfl, hM, hm, hu, hrow, hws, q⟩ := h
    haveI : ClOk ⟨K, M, fun a => a = r, H, fun _ => none, none⟩ := ⟨fun b hb => let ⟨us, z, _⟩ := hm b hb; ⟨_, z⟩⟩
    have B := body cdv A outer s₀ H E M (fun a => a = r) H (fun _ => none) hr
    have fin : ∀ {y : D} {ρ : Ev} {M' : Addr → Prop} {σ' : L2.St} {v : V} {H' : Hp}, Abs (clOf K M (fun a => a = r) H) M' σ' H' ρ → Rp K M' H' v y →
        (ownE ρ[0]? fun w row' => w = true ∧ ∀ v H' us', (∀ b o, b ≠ r → H b = some o → H' b = some o) → H' r = some (.lst us') → RpAll K M H' us' row' → Rp K M H' v y → Q v H') → Q v H' := fun {y ρ M' σ' v H'} A' r' q => by
      have st : Step M' H' M H' := ⟨fun a o h e => ⟨fun z => h (A'.m0 a z), e⟩, fun _ _ e => e, fun _ _ _ e => e⟩
      cases he : ρ[0]? with
      | none => rw [he] at q; exact q.elim
      | some en =>
        have hi : 0 < σ'.length := by rw [A'.len]; exact (List.getElem?_eq_some_iff.mp he).1
        have sl := A'.slot 0 en _ he (List.getElem?_eq_getElem hi)
        rw [he] at q
        cases en with
        | un => exact q.elim
        | d x => exact q.elim
        | dic ks => exact q.elim
        | obj w F P => exact q.elim
        | own w xs =>
          obtain ⟨rfl, q⟩ := q
          obtain ⟨a, vs', e1, m1, h1, r1, z, t⟩ := sl
          have z' : a = r := z
          subst z'
          exact q v H' vs' (fun b o n e => A'.keep b o e n) h1 (r1.step st) (r'.step st)
    refine ⟨_, B.run, M, startR N row xs, start_absR hws hM hu hrow hm rfl (fun a => Iff.rfl) rfl (fun _ => rfl) rfl, B.mono _ { nx := fun ρ => ownE ρ[0]? fun w row' => w = true ∧ ∀ v H' us', (∀ b o, b ≠ r → H b = some o → H' b = some o) → H' r = some (.lst us') → RpAll K M H' us' row' → Rp K M H' v .non → Q v H', rt := fun y ρ => ownE ρ[0]? fun w row' => w = true ∧ ∀ v H' us', (∀ b o, b ≠ r → H b = some o → H' b = some o) → H' r = some (.lst us') → RpAll K M H' us' row' → Rp K M H' v y → Q v H' } _ ⟨fun ρ q => ?_, fun y ρ q => ?_, fun _ q => q.elim, fun _ q => q.elim⟩ (read row xs _ q)⟩
    · intro M' σ' H' A' S'
      exact fin A' .non q
    · intro M' σ' v H' A' S' r'
      exact fin A' r' q
end
end AL
set_option Elab.async false
set_option linter.all false
set_option maxRecDepth 100000
namespace AL
open PySem PySem.Spec PyProof.Rows L2

/-! ### numbers, lists of numbers -/
theorem rp_ints {K : PySem.W.Frag} {M : Addr → Prop} {H : Hp} : ∀ {ns : List Int} {vs : List V}, RpAll K M H vs (ns.map D.int) → vs = ns.map V.int
  | [], _, .nil => rfl
  | n :: ns, _, .cons r t => by
    have e := rp_ints t
    cases r
    rw [List.map_cons, e]
theorem ints_rp {K : PySem.W.Frag} {M : Addr → Prop} {H : Hp} : ∀ ns : List Int, RpAll K M H (ns.map V.int) (ns.map D.int)
  | [] => .nil
  | n :: ns => .cons (.int n) (ints_rp ns)
def kI2 (C : Int → Int → Prop) (f : Int → Int → D) : K2 := fun x y P => match x, y with
  | .int i, .int j => C i j ∧ P (f i j)
  | _, _ => False
theorem kI2_mono {C : Int → Int → Prop} {f : Int → Int → D} : Mono2 (kI2 C f) := fun x y P P' h q => by
  cases x <;> cases y <;> first | exact q.elim | exact ⟨q.1, h _ q.2⟩
theorem kI2_op {C : Int → Int → Prop} {f : Int → Int → D} {K : PySem.W.Frag} {g : Int → Int → V} (hfg : ∀ M H i j, Rp K M H (g i j) (f i j)) : Op2 K (rI C g) (kI2 C f) := fun M H v u x y P Q r1 r2 _ q fin => by
  cases x <;> cases y <;> first | exact q.elim | exact ⟨_, _, r1.int, r2.int, q.1, fin _ _ H q.2 (Same.refl H) (hfg M H _ _)⟩
def kI (f : Int → Int → D) : K2 := fun x y P => match x, y with
  | .int i, .int j => P (f i j)
  | _, _ => False
theorem kI_mono {f : Int → Int → D} : Mono2 (kI f) := fun x y P P' h q => by
  cases x <;> cases y <;> first | exact q.elim | exact h _ q
theorem kI_op {f : Int → Int → D} {K : PySem.W.Frag} {g : Int → Int → V} (hfg : ∀ M H i j, Rp K M H (g i j) (f i j)) : Op2 K (rI0 g) (kI f) := fun M H v u x y P Q r1 r2 _ q fin => by
  cases x <;> cases y <;> first | exact q.elim | exact ⟨_, _, r1.int, r2.int, fin _ _ H q (Same.refl H) (hfg M H _ _)⟩
def kSub : K2 := kI fun i j => .int (i - j)
def kMul : K2 := kI2 CMul fun i j => .int (i * j)
def kMod : K2 := kI2 (fun _ j => 0 < j) fun i j => .int (i % j)
def kDiv : K2 := kI2 CDiv fun i j => .int (i / j)
def kPow : K2 := kI2 CPow fun i j => .int (i ^ j.toNat)
def kLt : K2 := kI fun i j => .bl (decide (i < j))
def kLe : K2 := kI fun i j => .bl (decide (i ≤ j))
def kGt : K2 := kI fun i j => .bl (decide (j < i))
def kGe : K2 := kI fun i j => .bl (decide (j ≤ i))
/-- + of numbers, lists, tuples, texts -/
def kAdd : K2 := fun x y P => match x, y with
  | .int i, .int j => P (.int (i + j))
  | .lst xs, .lst ys => xs.length + ys.length ≤ sizeLine ∧ P (.lst (xs ++ ys))
  | .tup xs, .tup ys => xs.length + ys.length ≤ sizeLine ∧ P (.tup (xs ++ ys))
  | .str a, .str b => a.length + b.length ≤ sizeLine ∧ P (.str (a ++ b))
  | _, _ => False
theorem kAdd_mono : Mono2 kAdd := fun x y P P' h q => by
  cases x <;> cases y <;> first | exact q.elim | exact h _ q | exact ⟨q.1, h _ q.2⟩
section
variable {X : Cx}
theorem op_addA : OpR X (binaryOp .Add) (fun x y H Q => rI0 (fun i j => .int (i + j)) x y H Q ∨ rCat x y H Q ∨ rCatA X.K x y H Q ∨ (∃ i j, x = .str i ∧ y = .str j ∧ i.length + j.length ≤ sizeLine ∧ Q (.str (i ++ j)) H)) :=
  op_add.or (op_cat.or (op_catA.or op_add_str))
/-- a new list stands outside of M -/
theorem rp_newL {K : PySem.W.Frag} {M : Addr → Prop} {H : Hp} {p : Addr} {vs : List V} {ds : List D} (hM : ∀ a, M a → ∃ o, H a = some o) (hp : H p = none) (r : RpAll K M H vs ds) : Rp K M (upd H p (.lst vs)) (.ref p) (.lst ds) :=
  .lst (fun z => by obtain ⟨o, q⟩ := hM p z; rw [hp] at q; cases q) upd_same (r.step (step_same (same_upd hp)))
theorem rp_newT {K : PySem.W.Frag} {M : Addr → Prop} {H : Hp} {p : Addr} {vs : List V} {ds : List D} (hp : H p = none) (r : RpAll K M H vs ds) : Rp K M (upd H p (.tup vs)) (.ref p) (.tup ds) :=
  .tup upd_same (r.step (step_same (same_upd hp)))
theorem kAdd_op {K : PySem.W.Frag} : Op2 K (fun x y H Q => rI0 (fun i j => .int (i + j)) x y H Q ∨ rCat x y H Q ∨ rCatA K x y H Q ∨ (∃ i j, x = .str i ∧ y = .str j ∧ i.length + j.length ≤ sizeLine ∧ Q (.str (i ++ j)) H)) kAdd := fun M H v u x y P Q r1 r2 hM q fin => by
  cases x <;> cases y <;> first
    | exact q.elim
    | exact .inl ⟨_, _, r1.int, r2.int, fin _ _ H q (Same.refl H) (.int _)⟩
    | exact .inr (.inr (.inr ⟨_, _, r1.str, r2.str, q.1, fin _ _ H q.2 (Same.refl H) (.str _)⟩))
    | skip
  · obtain ⟨a, vs, rfl, ha, ra⟩ := r1.tup
    obtain ⟨b, us, rfl, hb, rb⟩ := r2.tup
    refine .inr (.inr (.inl ⟨a, b, vs, us, rfl, rfl, .of ha, .of hb, by rw [ra.length, rb.length]; exact q.1, fun e => ?_, fun _ e => ?_, fun _ _ p hp => ?_⟩))
    · subst e
      have e2 := List.length_eq_zero_iff.mp (ra.length.symm.trans rfl)
      refine fin _ _ H q.2 (Same.refl H) ?_
      rw [e2]
      exact .tup hb rb
    · subst e
      have e2 := List.length_eq_zero_iff.mp (rb.length.symm.trans rfl)
      refine fin _ _ H q.2 (Same.refl H) ?_
      rw [e2, List.append_nil]
      exact .tup ha ra
    · exact fin _ _ _ q.2 (same_upd hp) (rp_newT hp (ra.append rb))
  · obtain ⟨a, vs, rfl, ha, ra⟩ := r1.lst
    obtain ⟨b, us, rfl, hb, rb⟩ := r2.lst
    exact .inr (.inl ⟨a, b, vs, us, rfl, rfl, ha, hb, by rw [ra.length, rb.length]; exact q.1, fun p hp => fin _ _ _ q.2 (same_upd hp) (rp_newL hM hp (ra.append rb))⟩)
/-- a list: xs[i]; a tuple: t[i] -/
def kIx : K2 := fun x y P => match x, y with
  | .lst xs, .int i => ∃ d, atI xs i = some d ∧ P d
  | .tup xs, .int i => ∃ d, atI xs i = some d ∧ P d
  | .scr ns, .int i => ∃ n, atI ns i = some n ∧ P (.int n)
  | _, _ => False
theorem kIx_mono : Mono2 kIx := fun x y P P' h q => by
  cases x <;> cases y <;> first | exact q.elim | exact (let ⟨d, e, p⟩ := q; ⟨d, e, h _ p⟩)
theorem atI_rp {K : PySem.W.Frag} {M : Addr → Prop} {H : Hp} {vs : List V} {ds : List D} {i : Int} {d : D} (r : RpAll K M H vs ds) (h : atI ds i = some d) : ∃ v, atI vs i = some v ∧ Rp K M H v d := by
  unfold atI at h ⊢
  rw [r.length]
  cases e : ixN ds.length i with
  | none => rw [e] at h; cases h
  | some j =>
    rw [e] at h
    exact r.get h
theorem RpB.scr {K : PySem.W.Frag} {M : Addr → Prop} {H : Hp} {v : V} {ns : List Int} (r : RpB K M H v (.scr ns)) : ∃ a, v = .ref a ∧ ScrAt K M H a ns := by
  rcases r with r | ⟨a, vs, ds', e, e2, h, r⟩
  · cases r with
    | scr h => exact ⟨_, rfl, h⟩
  · cases e2
theorem atI_ints {ns : List Int} {i n : Int} (h : atI ns i = some n) : atI (ns.map V.int) i = some (.int n) := by
  unfold atI at h ⊢
  rw [List.length_map]
  cases e : ixN ns.length i with
  | none => rw [e] at h; cases h
  | some j =>
    rw [e] at h
    have h' : ns[j]? = some n := h
    show (ns.map V.int)[j]? = some (.int n)
    rw [List.getElem?_map, h']; rfl
theorem kIx_op {K : PySem.W.Frag} : Op2 K (rIx K) kIx := fun M H v u x y P Q r1 r2 hM q fin => by
  cases x <;> cases y <;> first
    | exact q.elim
    | skip
  · obtain ⟨a, vs, rfl, ha, ra⟩ := r1.tup
    obtain ⟨d, e, p⟩ := q
    obtain ⟨z, hz, rz⟩ := atI_rp ra e
    exact .inr (.inl ⟨a, vs, _, z, rfl, r2.int, .of ha, hz, fin _ _ H p (Same.refl H) rz⟩)
  · obtain ⟨a, vs, rfl, ha, ra⟩ := r1.lst
    obtain ⟨d, e, p⟩ := q
    obtain ⟨z, hz, rz⟩ := atI_rp ra e
    exact .inl ⟨a, vs, _, z, rfl, r2.int, .of ha, hz, fin _ _ H p (Same.refl H) rz⟩
  · obtain ⟨a, rfl, hs⟩ := r1.scr
    obtain ⟨n, e, p⟩ := q
    exact .inl ⟨a, _, _, .int n, rfl, r2.int, hs.sq, atI_ints e, fin _ _ H p (Same.refl H) (.int n)⟩
/-- is None, is not None -/
def kIsN : K2 := fun x y P => match y with
  | .non => (match x with | .non => P (.bl true) | .raw _ => False | .dct _ => False | .scr _ => False | _ => P (.bl false))
  | _ => False
def kNotN : K2 := fun x y P => match y with
  | .non => (match x with | .non => P (.bl false) | .raw _ => False | .dct _ => False | .scr _ => False | _ => P (.bl true))
  | _ => False
theorem kIsN_mono : Mono2 kIsN := fun x y P P' h q => by cases y <;> first | exact q.elim | (cases x <;> first | exact q.elim | exact h _ q)
theorem kNotN_mono : Mono2 kNotN := fun x y P P' h q => by cases y <;> first | exact q.elim | (cases x <;> first | exact q.elim | exact h _ q)
end

/-! ### data that can be compared -/
mutual
theorem Rp.dp {K : PySem.W.Frag} {M : Addr → Prop} {H : Hp} : ∀ {d : D} {v : V}, d.plain = true → Rp K M H v d → Dp K H v d.py
  | _, _, _, .non => .non
  | _, _, _, .bl b => .bl b
  | _, _, _, .int i => .int i
  | _, _, _, .str x => .str x
  | _, _, h, .tup e r => .tup (.of e) (RpAll.dp h r)
  | _, _, h, .lst m e r => .lst (.of e) (RpAll.dp h r)
  | .scr w, _, h, r => by simp [D.plain] at h
  | .raw w, _, h, r => by simp [D.plain] at h
  | .dct w, _, h, r => by simp [D.plain] at h
theorem RpAll.dp {K : PySem.W.Frag} {M : Addr → Prop} {H : Hp} : ∀ {ds : List D} {vs : List V}, D.plains ds = true → RpAll K M H vs ds → DpAll K H vs (D.pys ds)
  | _, _, _, .nil => .nil
  | _, _, h, .cons r t => by
    have h' := Bool.and_eq_true_iff.mp h
    exact .cons (Rp.dp h'.1 r) (RpAll.dp h'.2 t)
end
theorem RpB.dp {K : PySem.W.Frag} {M : Addr → Prop} {H : Hp} {d : D} {v : V} (h : d.plain = true) (r : RpB K M H v d) : Dp K H v d.py := by
  rcases r with r | ⟨a, vs, ds, rfl, rfl, e, r⟩
  · exact r.dp h
  · exact .lst (.of e) (RpAll.dp h r)
/-- can be compared -/
def okD (d : D) : Bool := d.plain && SeqAt.shaped d.py
def eqD (x y : D) : Bool := PyData.eqv x.py y.py
def kEq : K2 := fun x y P => okD x = true ∧ okD y = true ∧ P (.bl (eqD x y))
def kNe : K2 := fun x y P => okD x = true ∧ okD y = true ∧ P (.bl (!eqD x y))
theorem kEq_mono : Mono2 kEq := fun x y P P' h q => ⟨q.1, q.2.1, h _ q.2.2⟩
theorem kNe_mono : Mono2 kNe := fun x y P P' h q => ⟨q.1, q.2.1, h _ q.2.2⟩
theorem kEq_op {K : PySem.W.Frag} : Op2 K (rEqD K) kEq := fun M H v u x y P Q r1 r2 hM q fin => by
  obtain ⟨o1, o2, p⟩ := q
  have h1 := Bool.and_eq_true_iff.mp o1
  have h2 := Bool.and_eq_true_iff.mp o2
  exact ⟨_, _, r1.dp h1.1, r2.dp h2.1, h1.2, h2.2, fin _ _ H p (Same.refl H) (.bl _)⟩
theorem kNe_op {K : PySem.W.Frag} : Op2 K (rNeD K) kNe := fun M H v u x y P Q r1 r2 hM q fin => by
  obtain ⟨o1, o2, p⟩ := q
  have h1 := Bool.and_eq_true_iff.mp o1
  have h2 := Bool.and_eq_true_iff.mp o2
  exact ⟨_, _, r1.dp h1.1, r2.dp h2.1, h1.2, h2.2, fin _ _ H p (Same.refl H) (.bl _)⟩
theorem kIsN_op {K : PySem.W.Frag} : Op2 K (fun x y H Q => y = .non ∧ Q (.bl (decide (x = .non))) H) kIsN := fun M H v u x y P Q r1 r2 hM q fin => by
  cases y with
  | non =>
    refine ⟨r2.non, ?_⟩
    cases x with
    | non => rw [r1.non]; exact fin _ _ H q (Same.refl H) (.bl _)
    | bl b => rw [r1.bl]; exact fin _ _ H q (Same.refl H) (.bl _)
    | int b => rw [r1.int]; exact fin _ _ H q (Same.refl H) (.bl _)
    | str b => rw [r1.str]; exact fin _ _ H q (Same.refl H) (.bl _)
    | tup b => obtain ⟨a, vs, rfl, _⟩ := r1.tup; exact fin _ _ H q (Same.refl H) (.bl _)
    | lst b => obtain ⟨a, vs, rfl, _⟩ := r1.lst; exact fin _ _ H q (Same.refl H) (.bl _)
    | scr w => exact q.elim
    | raw w => exact q.elim
    | dct w => exact q.elim
  | _ => exact q.elim
theorem kNotN_op {K : PySem.W.Frag} : Op2 K (fun x y H Q => y = .non ∧ Q (.bl (!decide (x = .non))) H) kNotN := fun M H v u x y P Q r1 r2 hM q fin => by
  cases y with
  | non =>
    refine ⟨r2.non, ?_⟩
    cases x with
    | non => rw [r1.non]; exact fin _ _ H q (Same.refl H) (.bl _)
    | bl b => rw [r1.bl]; exact fin _ _ H q (Same.refl H) (.bl _)
    | int b => rw [r1.int]; exact fin _ _ H q (Same.refl H) (.bl _)
    | str b => rw [r1.str]; exact fin _ _ H q (Same.refl H) (.bl _)
    | tup b => obtain ⟨a, vs, rfl, _⟩ := r1.tup; exact fin _ _ H q (Same.refl H) (.bl _)
    | lst b => obtain ⟨a, vs, rfl, _⟩ := r1.lst; exact fin _ _ H q (Same.refl H) (.bl _)
    | scr w => exact q.elim
    | raw w => exact q.elim
    | dct w => exact q.elim
  | _ => exact q.elim

/-! ### in, not in: flat things -/
def D.flat : D → Bool
  | .non => true
  | .bl _ => true
  | .int _ => true
  | .str _ => true
  | _ => false
def D.v : D → V
  | .non => .non
  | .bl b => .bl b
  | .int i => .int i
  | .str x => .str x
  | _ => .non
theorem flat_rp {K : PySem.W.Frag} {M : Addr → Prop} {H : Hp} {v : V} {d : D} (h : d.flat = true) (r : RpB K M H v d) : v = d.v ∧ flatV v = true := by
  cases d with
  | non => rw [r.non]; exact ⟨rfl, rfl⟩
  | bl b => rw [r.bl]; exact ⟨rfl, rfl⟩
  | int b => rw [r.int]; exact ⟨rfl, rfl⟩
  | str b => rw [r.str]; exact ⟨rfl, rfl⟩
  | _ => cases h
theorem flats_rp {K : PySem.W.Frag} {M : Addr → Prop} {H : Hp} : ∀ {ds : List D} {vs : List V}, ds.all D.flat = true → RpAll K M H vs ds → vs = ds.map D.v ∧ vs.all flatV = true
  | _, _, _, .nil => ⟨rfl, rfl⟩
  | d :: ds, v :: vs, h, .cons r t => by
    rw [List.all_cons, Bool.and_eq_true] at h
    obtain ⟨e1, e2⟩ := flat_rp h.1 (.inl r)
    obtain ⟨e3, e4⟩ := flats_rp h.2 t
    exact ⟨by rw [List.map_cons, ← e1, ← e3], by rw [List.all_cons, e2, e4]; rfl⟩
def inD (x : D) (xs : List D) : Bool := inV x.v (xs.map D.v)
def kIn (neg : Bool) : K2 := fun x y P => match y with
  | .lst xs => x.flat = true ∧ xs.all D.flat = true ∧ P (.bl (if neg then !inD x xs else inD x xs))
  | .tup xs => x.flat = true ∧ xs.all D.flat = true ∧ P (.bl (if neg then !inD x xs else inD x xs))
  | _ => False
theorem kIn_mono {neg : Bool} : Mono2 (kIn neg) := fun x y P P' h q => by
  cases y <;> first | exact q.elim | exact ⟨q.1, q.2.1, h _ q.2.2⟩
theorem kIn_op {K : PySem.W.Frag} {neg : Bool} : Op2 K (rIn K neg) (kIn neg) := fun M H v u x y P Q r1 r2 hM q fin => by
  cases y <;> first
    | exact q.elim
    | skip
  · obtain ⟨a, vs, rfl, ha, ra⟩ := r2.tup
    obtain ⟨o1, o2, p⟩ := q
    obtain ⟨e1, e2⟩ := flat_rp o1 r1
    obtain ⟨e3, e4⟩ := flats_rp o2 ra
    refine ⟨a, vs, rfl, .inr (.of ha), e2, e4, ?_⟩
    rw [e1, e3]
    exact fin _ _ H p (Same.refl H) (.bl _)
  · obtain ⟨a, vs, rfl, ha, ra⟩ := r2.lst
    obtain ⟨o1, o2, p⟩ := q
    obtain ⟨e1, e2⟩ := flat_rp o1 r1
    obtain ⟨e3, e4⟩ := flats_rp o2 ra
    refine ⟨a, vs, rfl, .inl (.of ha), e2, e4, ?_⟩
    rw [e1, e3]
    exact fin _ _ H p (Same.refl H) (.bl _)
/-- -x -/
def kNeg : K1 := fun x P => match x with
  | .int i => P (.int (-i))
  | _ => False
theorem kNeg_mono : Mono1 kNeg := fun x P P' h q => by cases x <;> first | exact q.elim | exact h _ q
theorem kNeg_op {K : PySem.W.Frag} : Op1 K (rU fun i => .int (-i)) kNeg := fun M H v x P Q r _ q fin => by
  cases x <;> first | exact q.elim | exact ⟨_, r.int, fin _ _ H q (Same.refl H) (.int _)⟩

/-! ### built-ins of one argument -/
def kLen : K1 := fun x P => match x with
  | .lst xs => P (.int xs.length)
  | .tup xs => P (.int xs.length)
  | .scr ns => P (.int ns.length)
  | _ => False
theorem kLen_mono : Mono1 kLen := fun x P P' h q => by cases x <;> first | exact q.elim | exact h _ q
theorem kLen_op {K : PySem.W.Frag} : Op1L K (fun xs H Q => ∃ p ys, xs = [.ref p] ∧ (SqL K H p ys ∨ SqT K H p ys) ∧ Q (.int ys.length) H) kLen := fun M H v x P Q r _ q fin => by
  cases x <;> first | exact q.elim | skip
  · obtain ⟨a, vs, rfl, ha, ra⟩ := r.tup
    refine ⟨a, vs, rfl, .inr (.of ha), ?_⟩
    rw [ra.length]
    exact fin _ _ H q (Same.refl H) (.int _)
  · obtain ⟨a, vs, rfl, ha, ra⟩ := r.lst
    refine ⟨a, vs, rfl, .inl (.of ha), ?_⟩
    rw [ra.length]
    exact fin _ _ H q (Same.refl H) (.int _)
  · obtain ⟨a, rfl, hs⟩ := r.scr
    refine ⟨a, _, rfl, .inl hs.sq, ?_⟩
    rw [List.length_map]
    exact fin _ _ H q (Same.refl H) (.int _)
/-- sum(ints) -/
def kSum : K1 := fun x P => ∃ ns : List Int, x = .lst (ns.map D.int) ∧ P (.int ns.sum)
theorem kSum_mono : Mono1 kSum := fun x P P' h ⟨ns, e, q⟩ => ⟨ns, e, h _ q⟩
theorem kSum_op {K : PySem.W.Frag} : Op1L K (rSum K) kSum := fun M H v x P Q r _ q fin => by
  obtain ⟨ns, rfl, q⟩ := q
  obtain ⟨a, vs, rfl, ha, ra⟩ := r.lst
  have e := rp_ints ra
  subst e
  exact ⟨a, ns, rfl, .of ha, fin _ _ H q (Same.refl H) (.int _)⟩
/-- max(ints), min(ints) -/
def kMax : K1 := fun x P => ∃ ns : List Int, x = .lst (ns.map D.int) ∧ 0 < ns.length ∧ ∀ m, m ∈ ns → (∀ y, y ∈ ns → y ≤ m) → P (.int m)
def kMin : K1 := fun x P => ∃ ns : List Int, x = .lst (ns.map D.int) ∧ 0 < ns.length ∧ ∀ m, m ∈ ns → (∀ y, y ∈ ns → m ≤ y) → P (.int m)
theorem kMax_mono : Mono1 kMax := fun x P P' h ⟨ns, e, l, q⟩ => ⟨ns, e, l, fun m a b => h _ (q m a b)⟩
theorem kMin_mono : Mono1 kMin := fun x P P' h ⟨ns, e, l, q⟩ => ⟨ns, e, l, fun m a b => h _ (q m a b)⟩
theorem kMax_op {K : PySem.W.Frag} : Op1L K (rMax K) kMax := fun M H v x P Q r _ q fin => by
  obtain ⟨ns, rfl, l, q⟩ := q
  obtain ⟨a, vs, rfl, ha, ra⟩ := r.lst
  have e := rp_ints ra
  subst e
  exact ⟨a, ns, rfl, .of ha, l, fun m h1 h2 => fin _ _ H (q m h1 h2) (Same.refl H) (.int _)⟩
theorem kMin_op {K : PySem.W.Frag} : Op1L K (rMin K) kMin := fun M H v x P Q r _ q fin => by
  obtain ⟨ns, rfl, l, q⟩ := q
  obtain ⟨a, vs, rfl, ha, ra⟩ := r.lst
  have e := rp_ints ra
  subst e
  exact ⟨a, ns, rfl, .of ha, l, fun m h1 h2 => fin _ _ H (q m h1 h2) (Same.refl H) (.int _)⟩
/-- sorted(ints): a new list -/
def kSortI : KF := fun x P => ∃ ns : List Int, x = .lst (ns.map D.int) ∧ ∀ ns' : List Int, ns'.Perm ns → ns'.Pairwise (· ≤ ·) → P (ns'.map D.int)
theorem kSortI_mono : MonoF kSortI := fun x P P' h ⟨ns, e, q⟩ => ⟨ns, e, fun m a b => h _ (q m a b)⟩
theorem kSortI_op {K : PySem.W.Frag} : OpF K (rSortedI K) kSortI := fun M H v x P Q r q fin => by
  obtain ⟨ns, rfl, q⟩ := q
  obtain ⟨a, vs, rfl, ha, ra⟩ := r.lst
  have e := rp_ints ra
  subst e
  exact ⟨a, ns, rfl, .of ha, fun ns' p h1 h2 hp => fin _ _ p (q ns' h1 h2) hp (ints_rp ns')⟩
/-- list(xs), list(t): a new list -/
def kList : KF := fun x P => match x with
  | .lst xs => P xs
  | .tup xs => P xs
  | _ => False
theorem kList_mono : MonoF kList := fun x P P' h q => by cases x <;> first | exact q.elim | exact h _ q
theorem kList_op {K : PySem.W.Frag} : OpF K (fun xs H Q => ∃ p ys, xs = [.ref p] ∧ (SqL K H p ys ∨ SqT K H p ys) ∧ ∀ l, H l = none → Q (.ref l) (upd H l (.lst ys))) kList := fun M H v x P Q r q fin => by
  cases x <;> first | exact q.elim | skip
  · obtain ⟨a, vs, rfl, ha, ra⟩ := r.tup
    exact ⟨a, vs, rfl, .inr (.of ha), fun l hl => fin _ _ l q hl ra⟩
  · obtain ⟨a, vs, rfl, ha, ra⟩ := r.lst
    exact ⟨a, vs, rfl, .inl (.of ha), fun l hl => fin _ _ l q hl ra⟩
/-- tuple(xs), tuple(t) -/
def kTuple : K1 := fun x P => match x with
  | .lst xs => P (.tup xs)
  | .tup xs => P (.tup xs)
  | _ => False
theorem kTuple_mono : Mono1 kTuple := fun x P P' h q => by cases x <;> first | exact q.elim | exact h _ q
theorem kTuple_op {K : PySem.W.Frag} : Op1L K (fun xs H Q => ∃ p ys, xs = [.ref p] ∧ ((SqL K H p ys ∧ ∀ l, H l = none → Q (.ref l) (upd H l (.tup ys))) ∨ (SqT K H p ys ∧ Q (.ref p) H))) kTuple := fun M H v x P Q r hM q fin => by
  cases x <;> first | exact q.elim | skip
  · obtain ⟨a, vs, rfl, ha, ra⟩ := r.tup
    exact ⟨a, vs, rfl, .inr ⟨.of ha, fin _ _ H q (Same.refl H) (.tup ha ra)⟩⟩
  · obtain ⟨a, vs, rfl, ha, ra⟩ := r.lst
    exact ⟨a, vs, rfl, .inl ⟨.of ha, fun l hl => fin _ _ _ q (same_upd hl) (rp_newT hl ra)⟩⟩
/-- int(n), int(flag) -/
def kInt : K1 := fun x P => match x with
  | .int i => P (.int i)
  | .bl b => P (.int (if b then 1 else 0))
  | _ => False
theorem kInt_mono : Mono1 kInt := fun x P P' h q => by cases x <;> first | exact q.elim | exact h _ q
theorem kInt_op {K : PySem.W.Frag} : Op1L K (fun xs H Q => (∃ i, xs = [.int i] ∧ Q (.int i) H) ∨ ∃ k, xs = [.bl k] ∧ Q (.int (if k then 1 else 0)) H) kInt := fun M H v x P Q r hM q fin => by
  cases x <;> first | exact q.elim | skip
  · exact .inr ⟨_, by rw [r.bl], fin _ _ H q (Same.refl H) (.int _)⟩
  · exact .inl ⟨_, by rw [r.int], fin _ _ H q (Same.refl H) (.int _)⟩

/-! ### built-ins of two arguments -/
def kMax2 : KL := fun xs P => match xs with
  | [.int i, .int j] => P (.int (if j > i then j else i))
  | _ => False
def kMin2 : KL := fun xs P => match xs with
  | [.int i, .int j] => P (.int (if j < i then j else i))
  | _ => False
theorem kMax2_mono : MonoL kMax2 := fun xs P P' h q => by
  unfold kMax2 at q ⊢
  split at q
  · exact h _ q
  · exact q.elim
theorem kMin2_mono : MonoL kMin2 := fun xs P P' h q => by
  unfold kMin2 at q ⊢
  split at q
  · exact h _ q
  · exact q.elim
theorem kMax2_op {K : PySem.W.Frag} : OpL K (fun xs H Q => ∃ i j, xs = [.int i, .int j] ∧ Q (.int (if j > i then j else i)) H) kMax2 := fun M H vs xs P Q r hM q fin => by
  unfold kMax2 at q
  split at q
  · exact ⟨_, _, rp_ints2 r, fin _ _ H q (Same.refl H) (.int _)⟩
  · exact q.elim
theorem kMin2_op {K : PySem.W.Frag} : OpL K (fun xs H Q => ∃ i j, xs = [.int i, .int j] ∧ Q (.int (if j < i then j else i)) H) kMin2 := fun M H vs xs P Q r hM q fin => by
  unfold kMin2 at q
  split at q
  · exact ⟨_, _, rp_ints2 r, fin _ _ H q (Same.refl H) (.int _)⟩
  · exact q.elim
/-- isinstance(x, T), isinstance(x, (T, U)) -/
def D.ty : D → String
  | .non => "NoneType"
  | .bl _ => "bool"
  | .int _ => "int"
  | .str _ => "str"
  | .tup _ => "tuple"
  | .lst _ => "list"
  | .scr _ => "list"
  | .raw _ => ""
  | .dct _ => "dict"
def D.isRaw : D → Bool
  | .scr _ => true
  | .raw _ => true
  | .dct _ => true
  | _ => false
def kIsi : KL := fun xs P => match xs with
  | [x, .raw (.ty T)] => x.isRaw = false ∧ ∃ b, kitB x.ty T = some b ∧ P (.bl b)
  | [x, .tup [.raw (.ty T), .raw (.ty U)]] => x.isRaw = false ∧ ∃ b c, kitB x.ty T = some b ∧ kitB x.ty U = some c ∧ P (.bl (b || c))
  | _ => False
theorem kIsi_mono : MonoL kIsi := fun xs P P' h q => by
  unfold kIsi at q ⊢
  split at q
  · exact ⟨q.1, let ⟨b, e, p⟩ := q.2; ⟨b, e, h _ p⟩⟩
  · exact ⟨q.1, let ⟨b, c, e, e2, p⟩ := q.2; ⟨b, c, e, e2, h _ p⟩⟩
  · exact q.elim
theorem ty_rp {K : PySem.W.Frag} {M : Addr → Prop} {H : Hp} {v : V} {x : D} (h : x.isRaw = false) (r : Rp K M H v x) : TyX K H v (.type x.ty) := by
  cases r with
  | non => exact .base .non
  | bl b => exact .base (.bl b)
  | int i => exact .base (.int i)
  | str z => exact .base (.str z)
  | tup e _ => exact .base (.tup e)
  | lst _ e _ => exact .base (.lst e)
  | scr v => cases h
  | raw v => cases h
  | dct _ => cases h
theorem rp_raw {K : PySem.W.Frag} {M : Addr → Prop} {H : Hp} {v u : V} (r : Rp K M H v (.raw u)) : v = u := by cases r; rfl
theorem kIsi_op {K : PySem.W.Frag} : OpL K (fun xs H Q => rIsi K xs H Q ∨ rIsiT K xs H Q) kIsi := fun M H vs xs P Q r hM q fin => by
  unfold kIsi at q
  split at q
  · rename_i x T
    obtain ⟨o, b, e, p⟩ := q
    cases r with
    | cons r1 r2 =>
      cases r2 with
      | cons r2 r3 =>
        cases r3
        rw [rp_raw r2]
        exact .inl ⟨_, _, _, _, b, rfl, .ty T, ty_rp o r1, kit_ty e, fin _ _ H p (Same.refl H) (.bl _)⟩
  · rename_i x T U
    obtain ⟨o, b, c, e1, e2, p⟩ := q
    cases r with
    | cons r1 r2 =>
      cases r2 with
      | cons r2 r3 =>
        cases r3
        cases r2 with
        | tup hh rr =>
          cases rr with
          | cons s1 s2 =>
            cases s2 with
            | cons s2 s3 =>
              cases s3
              rw [rp_raw s1, rp_raw s2] at hh
              refine .inr ⟨_, _, _, _, [.type T, .type U], b || c, rfl, hh, .cons (.ty T) (.cons (.ty U) .nil), ty_rp o r1, ?_, fin _ _ H p (Same.refl H) (.bl _)⟩
              refine kitAny_cons (kit_ty e1) (fun hb => ?_) (fun hb => by rw [hb]; rfl)
              subst hb
              refine kitAny_cons (kit_ty e2) (fun hc => ?_) (fun hc => by rw [hc]; rfl)
              subst hc
              rfl
  · exact q.elim
theorem CallR.or {X : Cx} {f : Value} {r r' : List V → Hp → VK → Prop} (h : CallR X f r) (h' : CallR X f r') : CallR X f (fun xs H Q => r xs H Q ∨ r' xs H Q) := by
  intro pins s σ H xs us Q I rv q
  rcases q with q | q
  · exact h pins s σ H xs us Q I rv q
  · exact h' pins s σ H xs us Q I rv q
theorem call_isiA {X : Cx} : CallR X (.builtin "isinstance") (fun xs H Q => rIsi X.K xs H Q ∨ rIsiT X.K xs H Q) := CallR.or call_isi call_isiT
/-- a built-in type as a value -/
theorem qe_ty {X : Cx} {Φ : Cl} [ClOk Φ] {x : Str} {T : String} {pos : Pos} (hg : Gl X x) (hm : X.mg x = none) (hv : bootBuiltins x = some (.type T)) (hn : x ≠ "__name__" := by decide) (hd : (x == ("__debug__" : Str)) = false := by decide) : QE X Φ (.Name x pos) (wC (.raw (.ty T))) :=
  qe_const (pe_bltn hg hm hv (show RelV (.ty T) (.type T) from rfl) hn hd) fun _ _ => .raw _
/-- a module's constant -/
theorem qe_glob {X : Cx} {Φ : Cl} [ClOk Φ] {x : Str} {v : V} {u : Value} {d : D} {pos : Pos} (hg : Gl X x) (hm : X.mg x = some u) (r : RelV v u) (hr : ∀ M H, Rp Φ.K M H v d) (hd : (x == ("__debug__" : Str)) = false := by decide) : QE X Φ (.Name x pos) (wC d) :=
  qe_const (pe_glob hg hm r hd) hr
end AL
set_option Elab.async false
set_option linter.all false
set_option maxRecDepth 100000
/-! ### enumerate(v), v whatever begins -/
namespace PySem
open Sem (wp)
set_option maxHeartbeats 1000000 in
theorem al_enum_new {u : Value} {ob : Obj} {G : Heap → Prop} (beg : Begins u ob G) :
    Meets (Builtin.«enumerate.__new__» ⟨[.type "enumerate", u], []⟩) (fun _ R s => G s.heap ∧
      R (.ok (.ret (.ref (s.heap.push ob).objs.size)))
        { s with heap := (s.heap.push ob).push ⟨.type "enumerate", none, .fields #[.none, .bool false, .ref s.heap.objs.size, rawInt 0, .none, .none], #[]⟩ }) := by
  refine .of_wp fun prog w A R st0 hyp => ?_
  obtain ⟨hp, g, d, tk, os⟩ := st0
  obtain ⟨hG, hyp⟩ := hyp
  have sub := sub_enumerate
  have it : ∀ {A' : Around} {E Q : Value → Shared → Prop}, Q (.ref hp.objs.size) ⟨hp.push ob, g, d, tk, os⟩ → wpAny (model prog w) A' (pyIter u) Q E ⟨hp, g, d, tk, os⟩ := fun {A' E Q} q => beg.iter prog w A' E ⟨hp, g, d, tk, os⟩ Q hG q
  wp_walk using it
  refine wpAny_stack_any fun stk => wpAny_pure ?_
  split
  · rename_i c _ _ _ _ _
    cases (c == Value.type "enumerate") <;> (wp_walk using it; exact ⟨_, rfl, hyp⟩)
  · wp_walk using it
    exact ⟨_, rfl, hyp⟩
theorem al_enum_call {prog : Program} {w : World} {A : Around} {E : Value → Shared → Prop} {s : Shared} {u : Value} {ob : Obj} {G : Heap → Prop} {Q : Value → Shared → Prop} (beg : Begins u ob G) (hG : G s.heap)
    (go : ∀ h1, IsEnum h1 (s.heap.objs.size + 1) s.heap.objs.size 0 .none → h1.get? s.heap.objs.size = some ob → (∀ b o, s.heap.get? b = some o → h1.get? b = some o) → Q (.ref (s.heap.objs.size + 1)) { s with heap := h1 }) :
    wpAny (model prog w) A (call (.type "enumerate") [u]) Q E s := by
  refine callType_new F.called_enumerate (by decide) (F.typeCall_enumerate_1 _) (F.newCall_enumerate_1 _) (fun obj => F.args_object_init_2 obj _) F.entry_enumerate_new (al_enum_new beg) ⟨hG, ?_⟩
  have hz : (s.heap.push ob).objs.size = s.heap.objs.size + 1 := Heap.size_push ..
  have h2 : ((s.heap.push ob).push ⟨.type "enumerate", none, .fields #[.none, .bool false, .ref s.heap.objs.size, rawInt 0, .none, .none], #[]⟩).get? (s.heap.objs.size + 1) = some ⟨.type "enumerate", none, .fields #[.none, .bool false, .ref s.heap.objs.size, rawInt 0, .none, .none], #[]⟩ := by
    rw [← hz]; exact Heap.get?_push_size _ rfl
  show _ ∧ _
  rw [hz]
  exact ⟨⟨_, h2, rfl⟩, go _ h2 (Heap.get?_push_of_some _ (Heap.get?_push_size _ beg.free)) fun b o x => Heap.get?_push_of_some _ (Heap.get?_push_of_some _ x)⟩
end PySem
namespace AL
open PySem PySem.Spec PyProof.Rows L2
/-- a tuple's items with their places, in new pairs -/
def ItEt (K : PySem.W.Frag) (a : Addr) : It where
  go := fun i H => ∃ (xs : List V) (x : V), SqT K H a xs ∧ xs[i]? = some x
  yld := fun i H v H' => ∃ T x, v = .ref T ∧ H T = none ∧ H' = upd H T (.tup [.int (i : Nat), x]) ∧ ∀ xs, SqT K H a xs → xs[i]? = some x
  stop := fun i H => ∃ xs : List V, SqT K H a xs ∧ xs.length ≤ i
theorem turn_enumT {P : Program} {w : World} {K : PySem.W.Frag} {elts : List Expr} {kk : Nat} {tpos : Pos} (a e it : Addr) (items : Array Value) (hai : a ≠ it) (hae : a ≠ e) :
    Turn P w K (.Tuple elts kk tpos) (ItEt K a) [e, it] e (fun i h => (∃ old, IsEnum h e it ((i : Nat) : Int) old) ∧ h.IsTupleIter it a i ∧ e ≠ it) where
  mem := by simp
  obj := fun i h st b hb => by
    obtain ⟨⟨old, he⟩, ⟨o, ho, hc, hd⟩, _⟩ := st
    rcases (show b = e ∨ b = it by simpa using hb) with rfl | rfl
    · exact ⟨_, he, fun v q => nomatch q⟩
    · exact ⟨o, ho, fun v q => by rw [hd] at q; cases q⟩
  keep := fun i h h' st kp => by
    obtain ⟨⟨old, he⟩, hi, hne⟩ := st
    exact ⟨⟨old, kp e (by simp) _ he⟩, hi.at fun o q => kp it (by simp) o q, hne⟩
  item := by
    intro X hP hw hK hc i pins s σ H E I hf st hg
    subst hP hw hK
    obtain ⟨⟨old, he⟩, hit, hne⟩ := st
    obtain ⟨xs, x, hq, hx⟩ := hg
    obtain ⟨its, rv, tp, hz⟩ := I.tuple hq
    have hel : e < s.heap.objs.size := Heap.lt_size he
    have hil : it < s.heap.objs.size := let ⟨_, q, _⟩ := hit; Heap.lt_size q
    obtain ⟨u, hu, ru⟩ := rv.get hx
    have hlt : i < its.toArray.size := by rw [List.size_toArray]; exact (List.getElem?_eq_some_iff.mp hu).1
    have hef : e ∉ [it, a] := by
      intro z
      rcases (show e = it ∨ e = a by simpa using z) with z | z
      · exact hne z
      · exact hae z.symm
    have DD : Draws X.prog X.w X.A.in1 it [it, a] its.toArray.size (fun i v => its.toArray[i]? = some v) (fun i h => h.IsTupleIter it a i ∧ h.IsTuple a its.toArray) := Draws.tuple (show X.A.in1.handled = none from I.ok.hd hc) it a hai its.toArray
    refine wpAny_pyNext_enum_itemD DD he ⟨hit, tp⟩ hlt hne hef fun y h' tk hy ho hst' hT hsz hk => ?_
    have ey : y = u := by
      have : its.toArray[i]? = some u := by simpa using hu
      rw [this] at hy
      exact (Option.some.inj hy).symm
    subst ey
    refine ⟨_, rfl, wpAny_letOwnedTupleGo_enum (s := { s with heap := h', toks := tk + 1 }) ho fun h2 he2 sb => ?_⟩
    have hT2 := (sb.2 _ (Nat.ne_of_gt hel)).trans hT
    have new : ObjOk X.prog X.w (upd H s.heap.objs.size (.tup [.int (i : Nat), x])) h2 s.heap.objs.size (.tup [.int (i : Nat), x]) := by
      refine ⟨by show 2 ≤ sizeLine; decide, [.int i tk, y], .cons ⟨_, rfl⟩ (.cons ru .nil), ?_⟩
      exact ⟨_, hT2, rfl, _, rfl⟩
    have I1 := I.turnedNew (h' := h2) (t' := tk + 1) (ch := [e, it]) (fun b ob hb q => (sb.2 b (fun z => hb (by simp [z]))).trans (hk b ob (fun z => hb (by simp [z])) (fun z => hb (by simp [z])) q)) hf (Nat.le_refl _) new
    refine ⟨.ref s.heap.objs.size, _, I1, rfl, ⟨_, x, rfl, I.hok.fresh (Nat.le_refl _), rfl, fun ys hy => by rw [I.tuple_inj hy hq]; exact hx⟩, ⟨⟨y, ?_⟩, hst'.1.at fun o q => (sb.2 it (Ne.symm hne)).trans q, hne⟩, fun b hb => ?_⟩
    · rw [show ((i + 1 : Nat) : Int) = (i : Int) + 1 by omega]
      exact he2
    · have hb' : b < s.heap.objs.size := by
        rcases (show b = e ∨ b = it by simpa using hb) with rfl | rfl
        · exact hel
        · exact hil
      rw [upd_ne (Nat.ne_of_lt hb')]
      exact (hf b hb).1
  done := by
    intro X hP hw hK hc i pins s σ H E I hf st hg
    subst hP hw hK
    obtain ⟨⟨old, he⟩, hit, hne⟩ := st
    obtain ⟨xs, hq, hx⟩ := hg
    obtain ⟨its, rv, tp, hz⟩ := I.tuple hq
    obtain ⟨f0, f1, f2, f3, f4, f5⟩ := hf it (by simp)
    have hl := rv.length
    have none_at : its.toArray[i]? = none := by
      rw [List.getElem?_toArray, List.getElem?_eq_none_iff]; omega
    have DD : Draws X.prog X.w X.A.in1 it [it, a] i (fun _ _ => False) (fun j h => j = i ∧ h.IsTupleIter it a i ∧ h.IsTuple a its.toArray) :=
      { live := fun j h st => let ⟨o, ho, _⟩ := st.2.1; ⟨o, ho⟩
        frame := fun j h h' st kp => ⟨st.1, st.2.1.at fun o q => kp it (by simp) o q, st.2.2.at fun o q => kp a (by simp) o q⟩
        item := fun j s Q E hj st _ => absurd st.1 (Nat.ne_of_lt hj)
        done := fun s Q E st hE => wpAny_nextOf_tuple_end (show X.A.in1.handled = none from I.ok.hd hc) st.2.1 st.2.2 none_at hE }
    exact wpAny_pyNext_enum_endD DD he ⟨rfl, hit, tp⟩ fun h' eb => ⟨rfl, I.turned (t' := s.toks) (fun b o hb q => eb b o hb q) f0 f1 f3 f4 f5⟩
  self := fun A i s Q E st h => let ⟨⟨_, he⟩, _⟩ := st; wpAny_pyIter_enum he h
def iEnumT (K : PySem.W.Frag) (ta : TA) : TI := fun σ H R => ta σ H fun vs H1 => ∃ a xs, vs = [.ref a] ∧ SqT K H1 a xs ∧ R (ItEt K a) H1
theorem pi_enumT {X : Cx} {e : Expr} {ta : TA} {p pos tpos : Pos} {elts : List Expr} {kk : Nat} (hg : Gl X "enumerate") (hm : X.mg "enumerate" = none) (ha : PA X [e] ta) (hs : starEach [e] X.env = [(false, eval e X.env)] := by rfl) :
    PI X (.Tuple elts kk tpos) (.Call (.Name "enumerate" p) [e] [] pos) (iEnumT X.K ta) := by
  refine ⟨fun pins s σ H R I h => Call_ (ld_blt I hg hm PyProof.Rows.boot_enumerate (PyProof.Rows.callWith_type1 (thn (ha.run pos pins s σ H _ I h) ?_) hs rfl))⟩
  rintro us s1 ⟨vs, H1, I1, r1, a, xs, rfl, hq, q⟩
  cases r1 with
  | cons r rr =>
    cases rr
    cases r
    obtain ⟨its, rv, tp, hz⟩ := I1.tuple hq
    have ha : a < s1.heap.objs.size := let ⟨o, ho, _⟩ := tp; Heap.lt_size ho
    refine al_enum_call (begins_tuple a its.toArray) tp fun h1 he hit hk => wpAny_pyIter_enum he ?_
    have I2 : Inv X pins σ H1 { s1 with heap := h1 } := I1.kept (t' := s1.toks) hk
    refine ⟨s1.heap.objs.size + 1, [s1.heap.objs.size + 1, s1.heap.objs.size], _, _, H1, rfl, I2, turn_enumT a (s1.heap.objs.size + 1) s1.heap.objs.size its.toArray (Nat.ne_of_lt ha) (Nat.ne_of_lt (Nat.lt_succ_of_lt ha)), ⟨⟨.none, he⟩, ⟨_, hit, rfl, rfl⟩, Nat.succ_ne_self _⟩, fun b hb => ?_, q⟩
    have hle : s1.heap.objs.size ≤ b := by
      rcases (show b = s1.heap.objs.size + 1 ∨ b = s1.heap.objs.size by simpa using hb) with rfl | rfl
      · exact Nat.le_succ _
      · exact Nat.le_refl _
    exact I1.fpOk hle (I1.hok.fresh hle)
theorem walk_enumT {K : PySem.W.Frag} {a : Addr} {xs : List V} : Walk (ItEt K a) xs.length (fun H => SqT K H a xs) (YPair (fun i => some (.int (i : Nat))) (fun i => xs[i]?)) := by
  refine ⟨fun i H hi q => ⟨xs, xs[i], q, List.getElem?_eq_getElem hi⟩, fun H q => ⟨xs, q, Nat.le_refl _⟩, fun i H v H' hi q y => ?_⟩
  obtain ⟨T, x, h1, h2, h3, h4⟩ := y
  exact ⟨T, .int (i : Nat), x, h1, h2, h3, rfl, h4 xs q⟩
section
variable {X : Cx} {Φ : Cl} [ok : ClOk Φ] {pos : Pos} {e a b c : Expr} {wa wb wc : WE} {wr : WA}
theorem gives_pair {M : Addr → Prop} {H : Hp} {J : It} {vs : List V} {xs : List D} {G : Hp → Prop} (W : Walk J vs.length G (YPair (fun i => some (.int (i : Nat))) (fun i => vs[i]?))) (hG : ∀ M' H', Step M H M' H' → G H') (r : RpAll Φ.K M H vs xs) : Gives Φ.K M H J (enums 0 xs) := by
  refine ⟨G, YPair (fun i => some (.int (i : Nat))) (fun i => vs[i]?), ?_, hG, fun i M' H' H2 v S y => ?_⟩
  · rw [enums_len, ← r.length]; exact W
  · obtain ⟨T, x, z, rfl, hn, rfl, e1, e2⟩ := y
    cases e1
    have sm := same_upd (o := .tup [.int (i : Nat), z]) hn
    refine ⟨sm, fun d hd => ?_⟩
    rw [enums_get] at hd
    obtain ⟨dz, h1, h2⟩ := (r.step S).getV e2
    rw [h1] at hd
    cases hd
    rw [Nat.zero_add]
    exact .tup upd_same (.cons (.int _) (.cons (h2.step (step_same sm)) .nil))
/-- enumerate(t), enumerate(xs) -/
def wEnumT (wa : WE) : WI := fun ρ Q => wa ρ fun x ρ' => isT x fun xs => Q (enums 0 xs) ρ'
def wEnumL (wa : WE) : WI := fun ρ Q => wa ρ fun x ρ' => isL x fun xs => Q (enums 0 xs) ρ'
theorem qi_enumT {elts : List Expr} {kk : Nat} {tpos p : Pos} (hg : Gl X "enumerate") (hm : X.mg "enumerate" = none) (ha : QE X Φ a wa) (hs : starEach [a] X.env = [(false, eval a X.env)] := by rfl) (hs2 : starEach (a :: []) X.env = (false, eval a X.env) :: starEach [] X.env := by rfl) :
    QI X Φ (.Tuple elts kk tpos) (.Call (.Name "enumerate" p) [a] [] pos) (wEnumT wa) := by
  refine ⟨fun ρ Q Q' h q => ha.mono ρ _ _ (fun x ρ' q' => isT_mono (fun xs p => h _ ρ' p) q') q, PIw (pi_enumT hg hm (pa_cons ha.run pa_nil hs2) hs) fun σ H R ⟨M, ρ, A, q⟩ => ?_⟩
  refine ⟨M, ρ, A, ha.mono ρ _ _ (fun x ρ' q' => ?_) q⟩
  intro M' v H' A' S' r'
  cases r' with
  | tup hh rr => exact ⟨_, _, rfl, SqT.of hh, q' M' H' _ A' S' (gives_pair walk_enumT (fun M2 H2 S => SqT.of (S.tu _ _ hh)) rr)⟩
  | _ => exact q'.elim
theorem qi_enumL {elts : List Expr} {kk : Nat} {tpos p : Pos} (hg : Gl X "enumerate") (hm : X.mg "enumerate" = none) (ha : QE X Φ a wa) (hs : starEach [a] X.env = [(false, eval a X.env)] := by rfl) (hs2 : starEach (a :: []) X.env = (false, eval a X.env) :: starEach [] X.env := by rfl) :
    QI X Φ (.Tuple elts kk tpos) (.Call (.Name "enumerate" p) [a] [] pos) (wEnumL wa) := by
  refine ⟨fun ρ Q Q' h q => ha.mono ρ _ _ (fun x ρ' q' => isL_mono (fun xs p => h _ ρ' p) q') q, PIw (pi_enum hg hm (pa_cons ha.run pa_nil hs2) hs) fun σ H R ⟨M, ρ, A, q⟩ => ?_⟩
  refine ⟨M, ρ, A, ha.mono ρ _ _ (fun x ρ' q' => ?_) q⟩
  intro M' v H' A' S' r'
  cases r' with
  | lst hm hh rr => exact ⟨_, _, rfl, SqL.of hh, q' M' H' _ A' S' (gives_pair walk_enum (fun M2 H2 S => SqL.of (S.st _ _ hm hh).2) rr)⟩
  | _ => exact q'.elim

/-! ### slices -/
abbrev WO := Ev → (Option Int → Ev → Prop) → Prop
def liftO (Φ : Cl) (w : WO) : TO := fun σ H Q => ∃ M ρ, Abs Φ M σ H ρ ∧ w ρ fun o ρ' => ∀ M' H', Abs Φ M' σ H' ρ' → Step M H M' H' → Q o H'
structure QO (X : Cx) (Φ : Cl) (e : Option Expr) (w : WO) : Prop where
  mono : ∀ ρ Q Q', (∀ x ρ', Q x ρ' → Q' x ρ') → w ρ Q → w ρ Q'
  run : PO X e (liftO Φ w)
theorem POw {e : Option Expr} {t t' : TO} (h : PO X e t) (i : ∀ σ H Q, t' σ H Q → t σ H Q) : PO X e t' := ⟨fun pins s σ H Q I q => h.run pins s σ H Q I (i σ H Q q)⟩
def wNoPart : WO := fun ρ Q => Q none ρ
def isI (x : D) (P : Int → Prop) : Prop := match x with
  | .int i => P i
  | _ => False
theorem isI_mono {z : D} {P P' : Int → Prop} (h : ∀ b, P b → P' b) (q : isI z P) : isI z P' := by
  cases z <;> first | exact h _ q | exact q.elim
def wPart (wa : WE) : WO := fun ρ Q => wa ρ fun x ρ' => isI x fun i => Q (some i) ρ'
theorem qo_none : QO X Φ none wNoPart := ⟨fun ρ Q Q' h q => h _ _ q, POw po_none fun σ H Q ⟨M, ρ, A, q⟩ => q M H A .refl⟩
theorem qo_some (ha : QE X Φ a wa) : QO X Φ (some a) (wPart wa) := by
  refine ⟨fun ρ Q Q' h q => ha.mono ρ _ _ (fun x ρ' q' => isI_mono (fun i p => h _ ρ' p) q') q, POw (po_some ha.run) fun σ H Q ⟨M, ρ, A, q⟩ => ?_⟩
  refine ⟨M, ρ, A, ha.mono ρ _ _ (fun x ρ' q' => ?_) q⟩
  intro M' v H' A' S' r'
  cases r' with
  | int i => exact ⟨i, rfl, q' M' H' A' S'⟩
  | _ => exact q'.elim
/-- a cut of a list of data -/
def cutD (xs : List D) (lo hi : Option Int) : List D := (xs.drop (HT.sIx xs.length 0 lo)).take (HT.sIx xs.length xs.length hi - HT.sIx xs.length 0 lo)
theorem cut_rp {M : Addr → Prop} {H : Hp} {vs : List V} {xs : List D} (r : RpAll Φ.K M H vs xs) (lo hi : Option Int) : RpAll Φ.K M H (cutV vs lo hi) (cutD xs lo hi) := by
  unfold cutV cutD
  rw [r.length]
  exact (r.drop _).take _
/-- xs[lo:hi], t[lo:hi] -/
def wSl (wa : WE) (wl wh : WO) : WE := fun ρ Q => wa ρ fun x ρ1 => wl ρ1 fun lo ρ2 => wh ρ2 fun hi ρ3 => match x with
  | .lst xs => Q (.lst (cutD xs lo hi)) ρ3
  | .tup xs => Q (.tup (cutD xs lo hi)) ρ3
  | _ => False
theorem qe_sl {lo hi : Option Expr} {wl wh : WO} {p2 : Pos} (ha : QE X Φ a wa) (hl : QO X Φ lo wl) (hh : QO X Φ hi wh) : QE X Φ (.Subscript a (.Slice lo hi none p2) pos) (wSl wa wl wh) := by
  refine ⟨fun ρ Q Q' h q => ha.mono ρ _ _ (fun x ρ1 q1 => hl.mono ρ1 _ _ (fun l ρ2 q2 => hh.mono ρ2 _ _ (fun u ρ3 q3 => ?_) q2) q1) q, PEw (pe_slice (sl_list.or sl_tupA) ha.run hl.run hh.run) fun σ H Q ⟨M, ρ, A, q⟩ => ?_⟩
  · cases x <;> first | exact q3.elim | exact h _ _ q3
  · refine ⟨M, ρ, A, ha.mono ρ _ _ (fun x ρ1 q1 => ?_) q⟩
    intro M1 v H1 A1 S1 r1
    refine ⟨M1, ρ1, A1, hl.mono ρ1 _ _ (fun l ρ2 q2 => ?_) q1⟩
    intro M2 H2 A2 S2
    refine ⟨M2, ρ2, A2, hh.mono ρ2 _ _ (fun u ρ3 q3 => ?_) q2⟩
    intro M3 H3 A3 S3
    have hM : ∀ a, M3 a → ∃ o, H3 a = some o := fun b hb => let ⟨_, z, _⟩ := A3.lst b hb; ⟨_, z⟩
    have SS := S1.trans (S2.trans S3)
    cases r1 with
    | @lst a0 vs0 ds0 m e r =>
      have z := (S2.trans S3).st _ _ m e
      refine .inl ⟨_, _, rfl, .of z.2, fun p hp => ?_⟩
      have sm := same_upd (o := .lst (cutV vs0 l u)) hp
      exact q3 M3 _ _ (A3.same sm) (SS.trans (step_same sm)) (rp_newL hM hp (cut_rp (r.step (S2.trans S3)) l u))
    | @tup a0 vs0 ds0 e r =>
      have z := (S2.trans S3).tu _ _ e
      have r3 := r.step (S2.trans S3)
      refine .inr ⟨_, _, rfl, .of z, fun w => ?_, fun _ p hp => ?_⟩
      · refine q3 M3 _ H3 A3 SS ?_
        have e3 : cutD ds0 l u = ds0 := by
          unfold cutD
          rw [← r3.length, w.1, w.2, List.drop_zero, Nat.sub_zero, r3.length, List.take_length]
        rw [e3]
        exact .tup z r3
      · have sm := same_upd (o := .tup (cutV vs0 l u)) hp
        exact q3 M3 _ _ (A3.same sm) (SS.trans (step_same sm)) (rp_newT hp (cut_rp r3 l u))
    | _ => exact q3.elim

/-! ### a < b < c -/
def wChain (k k' : K2) (wa wb wc : WE) : WE := fun ρ Q => wa ρ fun x ρ1 => wb ρ1 fun y ρ2 => k x y fun z => isB z fun b => if b = true then wc ρ2 fun v ρ3 => k' y v fun z => Q z ρ3 else Q (.bl false) ρ2
theorem wChain_mono {k k' : K2} (km : Mono2 k) (km' : Mono2 k') (ha : QE X Φ a wa) (hb : QE X Φ b wb) (hc : QE X Φ c wc) : ∀ ρ Q Q', (∀ x ρ', Q x ρ' → Q' x ρ') → wChain k k' wa wb wc ρ Q → wChain k k' wa wb wc ρ Q' := fun ρ Q Q' h q =>
  ha.mono ρ _ _ (fun x ρ1 q1 => hb.mono ρ1 _ _ (fun y ρ2 q2 => km x y _ _ (fun z p => isB_mono (fun b p => by
    cases b with
    | true => exact hc.mono ρ2 _ _ (fun v ρ3 q3 => km' y v _ _ (fun z p => h z ρ3 p) q3) p
    | false => exact h _ _ p) p) q2) q1) q
theorem chain_run {r r' : R2} {k k' : K2} {M : Addr → Prop} {σ : L2.St} {H : Hp} {ρ : Ev} {Q : VK} {P : D → Ev → Prop} (hk : Op2 Φ.K r k) (hk' : Op2 Φ.K r' k') (km : Mono2 k) (km' : Mono2 k') (ha : QE X Φ a wa) (hb : QE X Φ b wb) (hc : QE X Φ c wc) (A : Abs Φ M σ H ρ) (q : wChain k k' wa wb wc ρ P)
    (fin : ∀ z ρ', P z ρ' → ∀ M' v H', Abs Φ M' σ H' ρ' → Step M H M' H' → Rp Φ.K M' H' v z → Q v H') : tChain r r' (liftE Φ wa) (liftE Φ wb) (liftE Φ wc) σ H Q := by
  refine ⟨M, ρ, A, ha.mono ρ _ _ (fun x ρ1 q1 => ?_) q⟩
  intro M1 v H1 A1 S1 r1
  refine ⟨M1, ρ1, A1, hb.mono ρ1 _ _ (fun y ρ2 q2 => ?_) q1⟩
  intro M2 u H2 A2 S2 r2
  have hM2 : ∀ a, M2 a → ∃ o, H2 a = some o := fun b hb => let ⟨_, z, _⟩ := A2.lst b hb; ⟨_, z⟩
  refine hk M2 H2 v u x y _ _ (.inl (r1.step S2)) (.inl r2) hM2 q2 fun z v' H3 p sm r' => ?_
  obtain ⟨b, e, p⟩ := isB_rp r' p
  have A3 := A2.same sm
  have S3 := S1.trans (S2.trans (step_same sm))
  refine ⟨b, e, ?_⟩
  cases b with
  | true =>
    refine iteT ⟨M2, ρ2, A3, hc.mono ρ2 _ _ (fun t ρ4 q4 => ?_) p⟩
    intro M4 w4 H4 A4 S4 r4
    have hM4 : ∀ a, M4 a → ∃ o, H4 a = some o := fun b hb => let ⟨_, z, _⟩ := A4.lst b hb; ⟨_, z⟩
    refine hk' M4 H4 u w4 y t _ _ (.inl ((r2.step (step_same sm)).step S4)) (.inl r4) hM4 q4 fun z v' H5 p sm' r' => ?_
    exact fin z ρ4 p M4 v' H5 (A4.same sm') (S3.trans (S4.trans (step_same sm'))) r'
  | false => exact iteF (fin _ ρ2 p M2 _ H3 A3 S3 (.bl false))
theorem qe_chain {op op' : CmpOp} {r r' : R2} {k k' : K2} (ho : OpR X (compareOp op) r) (ho' : OpR X (compareOp op') r') (hk : Op2 Φ.K r k) (hk' : Op2 Φ.K r' k') (km : Mono2 k) (km' : Mono2 k') (ha : QE X Φ a wa) (hb : QE X Φ b wb) (hc : QE X Φ c wc)
    (hm : lastMarks [op, op'] [b, c] = false := by with_unfolding_all rfl) : QE X Φ (.Compare a [op, op'] [b, c] pos) (wChain k k' wa wb wc) :=
  ⟨wChain_mono km km' ha hb hc, PEw (pe_chain ho ho' ha.run hb.run hc.run hm) fun σ H Q ⟨M, ρ, A, q⟩ => chain_run hk hk' km km' ha hb hc A q fun z ρ' p => p⟩
theorem qt_chain {op op' : CmpOp} {r r' : R2} {k k' : K2} (ho : OpR X (compareOp op) r) (ho' : OpR X (compareOp op') r') (hk : Op2 Φ.K r k) (hk' : Op2 Φ.K r' k') (km : Mono2 k) (km' : Mono2 k') (ha : QE X Φ a wa) (hb : QE X Φ b wb) (hc : QE X Φ c wc)
    (hm : lastMarks [op, op'] [b, c] = false := by with_unfolding_all rfl) : QT X Φ (.Compare a [op, op'] [b, c] pos) (wTest (wChain k k' wa wb wc)) := by
  refine ⟨wTest_mono (wChain_mono km km' ha hb hc), PTw (pt_chain ho ho' ha.run hb.run hc.run hm) fun σ H Q ⟨M, ρ, A, q⟩ => chain_run hk hk' km km' ha hb hc A q fun z ρ' p M' v H' A' S' r' => ?_⟩
  obtain ⟨b, e, p⟩ := isB_rp r' p
  exact ⟨b, e, p M' H' A' S'⟩

/-! ### sorted(pairs of numbers) -/
def pairD (p : Int × Int) : D := .tup [.int p.1, .int p.2]
def pairV (P : V → Int × Int) : V → Int × Int := P
/-- by the first, then by the second -/
def lexLe (p q : Int × Int) : Prop := p.1 < q.1 ∨ (p.1 = q.1 ∧ p.2 ≤ q.2)
def kSortP : KF := fun x P => ∃ ps : List (Int × Int), x = .lst (ps.map pairD) ∧ ∀ qs : List (Int × Int), qs.Perm ps → qs.Pairwise lexLe → P (qs.map pairD)
theorem kSortP_mono : MonoF kSortP := fun x P P' h ⟨ns, e, q⟩ => ⟨ns, e, fun m a b => h _ (q m a b)⟩
/-- the pair that stands at an address -/
noncomputable def pairAt (H : Hp) : V → Int × Int
  | .ref a => match H a with
    | some (.tup [.int i, .int j]) => (i, j)
    | _ => (0, 0)
  | _ => (0, 0)
theorem pairs_rp {K : PySem.W.Frag} {M : Addr → Prop} {H : Hp} : ∀ {ps : List (Int × Int)} {vs : List V}, RpAll K M H vs (ps.map pairD) → ps = vs.map (pairAt H) ∧ ∀ x ∈ vs, ∃ t, x = V.ref t ∧ H t = some (.tup [.int (pairAt H x).1, .int (pairAt H x).2])
  | [], _, .nil => ⟨rfl, fun _ h => nomatch h⟩
  | (i, j) :: ps, _, .cons (v := v) r t => by
    obtain ⟨e, h⟩ := pairs_rp t
    have hv : ∃ a, v = .ref a ∧ H a = some (.tup [.int i, .int j]) := by
      have r' : Rp K M H v (.tup [.int i, .int j]) := r
      cases r' with
      | tup hh rr => rw [rp_ints (ns := [i, j]) rr] at hh; exact ⟨_, rfl, hh⟩
    obtain ⟨a, rfl, ha⟩ := hv
    have pa : pairAt H (.ref a) = (i, j) := by unfold pairAt; simp only [ha]
    refine ⟨by rw [List.map_cons, pa, ← e], fun x hx => ?_⟩
    rcases List.mem_cons.mp hx with rfl | hx
    · exact ⟨a, rfl, by rw [pa]; exact ha⟩
    · exact h x hx
theorem rp_pairs {K : PySem.W.Frag} {M : Addr → Prop} {H : Hp} : ∀ {vs : List V}, (∀ x ∈ vs, ∃ t, x = V.ref t ∧ H t = some (.tup [.int (pairAt H x).1, .int (pairAt H x).2])) → RpAll K M H vs ((vs.map (pairAt H)).map pairD)
  | [], _ => .nil
  | v :: vs, h => by
    obtain ⟨t, e, ht⟩ := h v List.mem_cons_self
    refine .cons ?_ (rp_pairs fun x hx => h x (List.mem_cons_of_mem _ hx))
    have g : H t = some (.tup [.int (pairAt H v).1, .int (pairAt H v).2]) := ht
    rw [e] at g ⊢
    exact .tup g (.cons (.int _) (.cons (.int _) .nil))
theorem kSortP_op {K : PySem.W.Frag} : OpF K (rSortedPO K) kSortP := fun M H v x P Q r q fin => by
  obtain ⟨ps, rfl, q⟩ := q
  obtain ⟨a, vs, rfl, ha, ra⟩ := r.lst
  obtain ⟨e, hx⟩ := pairs_rp ra
  refine ⟨a, vs, pairAt H, rfl, .of ha, hx, fun ys p hs hb hp => ?_⟩
  have pm : ys.Perm vs := hb.perm
  refine fin _ ys p (q (ys.map (pairAt H)) (by rw [e]; exact pm.map _) ?_) hp (rp_pairs fun x hx' => hx x (pm.mem_iff.mp hx'))
  refine List.pairwise_map.mpr (hs.imp fun {x y} h => ?_)
  have h2 := SrtO.lexB_no.mp h
  unfold lexLe
  omega
end
end AL
set_option Elab.async false
set_option linter.all false
set_option maxRecDepth 100000
namespace AL
open PySem PySem.Spec PyProof.Rows L2
section
variable {X : Cx} {Φ : Cl} [ok : ClOk Φ] {pos : Pos} {e a b c : Expr} {wa wb wc : WE} {wr : WA}
/-! ### several names at once -/
def wPar3 (i j l : Nat) (wr : WA) : WS := fun R ρ => wr ρ fun xs ρ' => match xs with
  | [x, y, z] => R.nx (((ρ'.set i (.d x)).set j (.d y)).set l (.d z))
  | _ => False
theorem qs_par3 {i j l : Nat} {x y z : Str} {wr : WA} {px py pz pt : Pos} {kt k2 pt2} (hc : X.calm = true) (hN : X.N.Nodup) (hi : X.N[i]? = some x) (hj : X.N[j]? = some y) (hl : X.N[l]? = some z) (hij : i ≠ j) (hil : i ≠ l) (hjl : j ≠ l)
    (hx : X.env.scope.names.lookup x = some .local) (hy : X.env.scope.names.lookup y = some .local) (hz : X.env.scope.names.lookup z = some .local) (ha : QA X Φ [a, b, c] wr)
    (hw : swappedStores [.Tuple [.Name x px, .Name y py, .Name z pz] kt pt] (.Tuple [a, b, c] k2 pt2) X.env = pure (some [x, y, z]))
    (hs : swapsWithSole [.Tuple [.Name x px, .Name y py, .Name z pz] kt pt] (.Tuple [a, b, c] k2 pt2) pos.line X.env = pure false := by rfl) :
    QS X Φ (.Assign [.Tuple [.Name x px, .Name y py, .Name z pz] kt pt] (.Tuple [a, b, c] k2 pt2) pos) (wPar3 i j l wr) := by
  refine ⟨fun ρ R R' h q => ha.mono ρ _ _ (fun xs ρ' q' => ?_) q, PSw (ps_par3 hc hN hi hj hl hij hil hjl hx hy hz ha.run hw hs) fun D σ H ⟨M, ρ, A, q⟩ => ?_⟩
  · match xs, q' with
    | [x, y, z], q' => exact h.nx _ q'
  · refine ⟨M, ρ, A, ha.mono ρ _ _ (fun xs ρ' q' => ?_) q⟩
    intro M' vs H' A' S' r'
    match xs, q' with
    | [x, y, z], q' =>
      cases r' with
      | cons r1 r2 =>
        cases r2 with
        | cons r2 r3 =>
          cases r3 with
          | cons r3 r4 =>
            cases r4
            exact ⟨_, _, _, rfl, q' M' _ H' (((A'.store r1).store r2).store r3) S'⟩
/-- a new list that a store beside leaves as it is -/
theorem NewL.stored {M : Addr → Prop} {σ : L2.St} {H : Hp} {ρ : Ev} {p : Addr} {acc : List V} {ds : List D} (N : NewL Φ M σ H ρ p acc ds) (A : Abs Φ M σ H ρ) {i : Nat} {v : V} {x : D} : NewL Φ M (σ.set i (some v)) H (ρ.set i (.d x)) p acc ds := by
  refine ⟨N.m, N.h, N.r, N.h0, N.t, fun j w ys h1 h2 => ?_, fun j w F P h1 hf => ?_⟩
  · by_cases hj : i = j
    · subst hj
      have hi : i < ρ.length := by have := (List.getElem?_eq_some_iff.mp h1).1; rwa [List.length_set] at this
      rw [List.getElem?_set_self hi] at h1
      cases h1
    · rw [List.getElem?_set_ne hj] at h1 h2
      exact N.n j w ys h1 h2
  · by_cases hj : i = j
    · subst hj
      have hi : i < ρ.length := by have := (List.getElem?_eq_some_iff.mp h1).1; rwa [List.length_set] at this
      rw [List.getElem?_set_self hi] at h1
      cases h1
    · rw [List.getElem?_set_ne hj] at h1
      exact N.f j w F P h1 hf
/-- a, b = x, [..]: the last one a list to be changed -/
def wParO (i j : Nat) (wa : WE) (wl : WA) : WS := fun R ρ => wa ρ fun x ρ1 => wl ρ1 fun ys ρ2 => R.nx ((ρ2.set i (.d x)).set j (.own false ys))
theorem qs_parO {i j : Nat} {x y : Str} {wl : WA} {px py pt : Pos} {kt k2 pt2} (hc : X.calm = true) (hN : X.N.Nodup) (hi : X.N[i]? = some x) (hj : X.N[j]? = some y) (hij : i ≠ j)
    (hx : X.env.scope.names.lookup x = some .local) (hy : X.env.scope.names.lookup y = some .local) (ha : QE X Φ a wa) (hb : QF X Φ b wl)
    (hw : swappedStores [.Tuple [.Name x px, .Name y py] kt pt] (.Tuple [a, b] k2 pt2) X.env = pure (some [x, y]))
    (hs : swapsWithSole [.Tuple [.Name x px, .Name y py] kt pt] (.Tuple [a, b] k2 pt2) pos.line X.env = pure false := by rfl)
    (h1 : starEach (a :: [b]) X.env = (false, eval a X.env) :: starEach [b] X.env := by rfl) (h2 : starEach (b :: []) X.env = (false, eval b X.env) :: starEach [] X.env := by rfl) :
    QS X Φ (.Assign [.Tuple [.Name x px, .Name y py] kt pt] (.Tuple [a, b] k2 pt2) pos) (wParO i j wa wl) := by
  refine ⟨fun ρ R R' h q => ha.mono ρ _ _ (fun x ρ1 q1 => hb.mono ρ1 _ _ (fun ys ρ2 q2 => h.nx _ q2) q1) q, PSw (ps_par hc hN hi hj hij hx hy (pa_cons ha.run (pa_cons hb.run pa_nil h2) h1) hw hs) fun D σ H ⟨M, ρ, A, q⟩ => ?_⟩
  refine ⟨M, ρ, A, ha.mono ρ _ _ (fun x ρ1 q1 => ?_) q⟩
  intro M1 v H1 A1 S1 r1
  refine ⟨M1, ρ1, A1, hb.mono ρ1 _ _ (fun ys ρ2 q2 => ?_) q1⟩
  intro M2 p vs H2 A2 S2 N2
  exact ⟨_, _, rfl, q2 M2 _ H2 ((A2.store (r1.step S2)).storeOwn (N2.stored A2)) (S1.trans S2)⟩
def wPar3O (i j l : Nat) (wa wb : WE) (wl : WA) : WS := fun R ρ => wa ρ fun x ρ1 => wb ρ1 fun y ρ2 => wl ρ2 fun ys ρ3 => R.nx (((ρ3.set i (.d x)).set j (.d y)).set l (.own false ys))
theorem qs_par3O {i j l : Nat} {x y z : Str} {wl : WA} {px py pz pt : Pos} {kt k2 pt2} (hc : X.calm = true) (hN : X.N.Nodup) (hi : X.N[i]? = some x) (hj : X.N[j]? = some y) (hl : X.N[l]? = some z) (hij : i ≠ j) (hil : i ≠ l) (hjl : j ≠ l)
    (hx : X.env.scope.names.lookup x = some .local) (hy : X.env.scope.names.lookup y = some .local) (hz : X.env.scope.names.lookup z = some .local) (ha : QE X Φ a wa) (hb : QE X Φ b wb) (hcc : QF X Φ c wl)
    (hw : swappedStores [.Tuple [.Name x px, .Name y py, .Name z pz] kt pt] (.Tuple [a, b, c] k2 pt2) X.env = pure (some [x, y, z]))
    (hs : swapsWithSole [.Tuple [.Name x px, .Name y py, .Name z pz] kt pt] (.Tuple [a, b, c] k2 pt2) pos.line X.env = pure false := by rfl)
    (h1 : starEach (a :: [b, c]) X.env = (false, eval a X.env) :: starEach [b, c] X.env := by rfl) (h2 : starEach (b :: [c]) X.env = (false, eval b X.env) :: starEach [c] X.env := by rfl) (h3 : starEach (c :: []) X.env = (false, eval c X.env) :: starEach [] X.env := by rfl) :
    QS X Φ (.Assign [.Tuple [.Name x px, .Name y py, .Name z pz] kt pt] (.Tuple [a, b, c] k2 pt2) pos) (wPar3O i j l wa wb wl) := by
  refine ⟨fun ρ R R' h q => ha.mono ρ _ _ (fun x ρ1 q1 => hb.mono ρ1 _ _ (fun y ρ2 q2 => hcc.mono ρ2 _ _ (fun ys ρ3 q3 => h.nx _ q3) q2) q1) q, PSw (ps_par3 hc hN hi hj hl hij hil hjl hx hy hz (pa_cons ha.run (pa_cons hb.run (pa_cons hcc.run pa_nil h3) h2) h1) hw hs) fun D σ H ⟨M, ρ, A, q⟩ => ?_⟩
  refine ⟨M, ρ, A, ha.mono ρ _ _ (fun x ρ1 q1 => ?_) q⟩
  intro M1 v H1 A1 S1 r1
  refine ⟨M1, ρ1, A1, hb.mono ρ1 _ _ (fun y ρ2 q2 => ?_) q1⟩
  intro M2 u H2 A2 S2 r2
  refine ⟨M2, ρ2, A2, hcc.mono ρ2 _ _ (fun ys ρ3 q3 => ?_) q2⟩
  intro M3 p vs H3 A3 S3 N3
  exact ⟨_, _, _, rfl, q3 M3 _ H3 (((A3.store (r1.step (S2.trans S3))).store (r2.step S3)).storeOwn ((N3.stored A3).stored (A3.store (r1.step (S2.trans S3))))) (S1.trans (S2.trans S3))⟩
/-- a list or a tuple, walked -/
def iSeq (K : PySem.W.Frag) (tl : TE) : TI := fun σ H R => tl σ H fun x H1 => ∃ p, x = .ref p ∧ (((∃ xs, SqL K H1 p xs) ∧ R (Itl K p) H1) ∨ ((∃ xs, SqT K H1 p xs) ∧ R (Itt K p) H1))
theorem pi_seq {tg l : Expr} {tl : TE} (hl : PE X l tl) : PI X tg l (iSeq X.K tl) := by
  refine ⟨fun pins s σ H R I h => thn (hl.run pins s σ H _ I h) ?_⟩
  rintro v s1 ⟨x, H1, I1, r1, p, rfl, q⟩
  cases r1
  have new : ∀ b ∈ [s1.heap.objs.size], FpOk X pins H1 b := fun b hb => by
    rw [List.mem_singleton.mp hb]
    exact I1.fpOk (Nat.le_refl _) I1.fresh
  rcases q with ⟨⟨xs, hq⟩, q⟩ | ⟨⟨xs, hq⟩, q⟩
  · obtain ⟨its, rv, pl, hz⟩ := I1.list hq
    refine wpAny_pyIter_list pl.isList ⟨s1.heap.objs.size, [s1.heap.objs.size], _, _, H1, rfl, ?_, turn_list p _, ?_, new, q⟩
    · exact I1.kept (t' := s1.toks) fun b o e => Heap.get?_push_of_some _ e
    · exact ⟨_, Heap.get?_push_size _ rfl, rfl, rfl⟩
  · obtain ⟨its, rv, pt, hz⟩ := I1.tuple hq
    refine wpAny_pyIter_tuple (show s1.heap.IsTuple p its.toArray from pt) ⟨s1.heap.objs.size, [s1.heap.objs.size], _, _, H1, rfl, ?_, turn_tuple p _, ?_, new, q⟩
    · exact I1.kept (t' := s1.toks) fun b o e => Heap.get?_push_of_some _ e
    · exact ⟨_, Heap.get?_push_size _ rfl, rfl, rfl⟩
/-- the items of a list or a tuple -/
def isS (x : D) (P : List D → Prop) : Prop := match x with
  | .lst xs => P xs
  | .tup xs => P xs
  | _ => False
theorem isS_mono {z : D} {P P' : List D → Prop} (h : ∀ b, P b → P' b) (q : isS z P) : isS z P' := by
  cases z <;> first | exact h _ q | exact q.elim
def wSeqI (wa : WE) : WI := fun ρ Q => wa ρ fun x ρ' => isS x fun xs => Q xs ρ'
theorem qi_seq {tg : Expr} (he : QE X Φ e wa) : QI X Φ tg e (wSeqI wa) := by
  refine ⟨fun ρ Q Q' h q => he.mono ρ _ _ (fun x ρ' q' => isS_mono (fun xs p => h xs ρ' p) q') q, PIw (pi_seq he.run) fun σ H R ⟨M, ρ, A, q⟩ => ?_⟩
  refine ⟨M, ρ, A, he.mono ρ _ _ (fun x ρ' q' => ?_) q⟩
  intro M' v H' A' S' r'
  cases r' with
  | lst hm hh rr => exact ⟨_, rfl, .inl ⟨⟨_, SqL.of hh⟩, q' M' H' _ A' S' (gives_list hm hh rr)⟩⟩
  | tup hh rr => exact ⟨_, rfl, .inr ⟨⟨_, SqT.of hh⟩, q' M' H' _ A' S' (gives_tup hh rr)⟩⟩
  | _ => exact q'.elim
/-- a def that keeps its promise, as its callers see it -/
structure Ok (P : Program) (w : World) (K : PySem.W.Frag) (mg : Str → Option Value) (base : Heap) (k : Nat) (x : Str) (ps : List Str) (sp : Sp) : Prop where
  ex : ∃ f fd, FnOk P w K mg base CX0 k f fd ps sp ∧ mg x = some (.ref f) ∧ PySem.W.keepIn K (.ref f) = true ∧ Binds K fd ps []
/-- a def as the top has left it -/
structure Dn (K : PySem.W.Frag) (mg : Str → Option Value) (x : Str) (ps : List Str) (st : Stmt) : Prop where
  ex : ∃ f fd, Fun K x x st f fd ∧ mg x = some (.ref f) ∧ Binds K fd ps []
end
end AL
set_option Elab.async false
set_option linter.all false
set_option maxRecDepth 100000
namespace AL
open PySem PySem.Spec PyProof.Rows L2
/-! ### loops by what holds between two turns -/
theorem loop_inv {α : Type} {enc : α → D} {g : WG} {wb : WS} {R : AEnds} {xs : List α} (I : List α → Ev → Prop)
    (h : ∀ pre x post, xs = pre ++ x :: post → ∀ K : Ev → Prop, (∀ ρ, I (pre ++ [x]) ρ → K ρ) → ∀ ρ, I pre ρ → g (enc x) ρ fun ρ1 => wb { R with nx := K, ct := K, bk := R.nx } ρ1)
    (hd : ∀ ρ, I xs ρ → R.nx ρ) : ∀ ρ, I [] ρ → wLoop g wb R (xs.map enc) ρ := by
  have go : ∀ (post pre : List α), xs = pre ++ post → ∀ ρ, I pre ρ → wLoop g wb R (post.map enc) ρ := by
    intro post
    induction post with
    | nil => intro pre e ρ hi; rw [List.append_nil] at e; subst e; exact hd ρ hi
    | cons x r ih =>
      intro pre e ρ hi
      show g (enc x) ρ _
      exact h pre x r e (fun ρ2 => wLoop g wb R (r.map enc) ρ2) (fun ρ2 h2 => ih (pre ++ [x]) (by rw [e, List.append_assoc]; rfl) ρ2 h2) ρ hi
  exact fun ρ hi => go xs [] rfl ρ hi
/-- a comprehension that leaves the frame as it is -/
theorem make_map {α : Type} {enc : α → D} {g : WG} {tt : WT} {we : WE} {vs : List Nat} {Q : List D → Ev → Prop} {ρ : Ev} (p : α → Bool) (f : α → D) :
    ∀ (ls : List α) (acc : List D), (∀ a ∈ ls, ∀ (C : D → Ev → Prop) (N : Ev → Prop), (p a = true → ∀ ρ3, wipeE ρ3 vs = ρ → C (f a) ρ3) → (p a = false → ∀ ρ3, wipeE ρ3 vs = ρ → N ρ3) → g (enc a) ρ fun ρ1 => tt ρ1 fun b ρ2 => if b = true then we ρ2 C else N ρ2) →
      acc.length + ls.length ≤ sizeLine → Q (acc ++ (ls.filter p).map f) ρ → wMake g tt we vs Q (ls.map enc) acc ρ
  | [], acc, _, _, q => by
    show Q acc ρ
    simpa using q
  | a :: r, acc, h, hl, q => by
    rw [List.length_cons] at hl
    refine h a List.mem_cons_self (fun y ρ3 => acc.length < sizeLine ∧ wMake g tt we vs Q (r.map enc) (acc ++ [y]) (wipeE ρ3 vs)) (fun ρ3 => wMake g tt we vs Q (r.map enc) acc (wipeE ρ3 vs)) (fun hp ρ3 e => ⟨by omega, ?_⟩) fun hp ρ3 e => ?_
    · rw [e]
      refine make_map p f r _ (fun b hb => h b (List.mem_cons_of_mem _ hb)) (by rw [List.length_append, List.length_singleton]; omega) ?_
      rw [List.filter_cons_of_pos hp, List.map_cons] at q
      rw [List.append_assoc]; exact q
    · rw [e]
      refine make_map p f r _ (fun b hb => h b (List.mem_cons_of_mem _ hb)) (by omega) ?_
      rw [List.filter_cons_of_neg (by rw [hp]; decide)] at q
      exact q
/-- a comprehension by what holds between two turns -/
theorem make_inv {α : Type} {enc : α → D} {g : WG} {tt : WT} {we : WE} {vs : List Nat} {Q : List D → Ev → Prop} {xs : List α} (I : List α → List D → Ev → Prop)
    (h : ∀ pre x post, xs = pre ++ x :: post → ∀ acc ρ, I pre acc ρ → ∀ (C : D → Ev → Prop) (N : Ev → Prop), (∀ y ρ3, I (pre ++ [x]) (acc ++ [y]) (wipeE ρ3 vs) → C y ρ3) → (∀ ρ3, I (pre ++ [x]) acc (wipeE ρ3 vs) → N ρ3) → g (enc x) ρ fun ρ1 => tt ρ1 fun b ρ2 => if b = true then we ρ2 C else N ρ2)
    (hl : ∀ pre acc ρ, I pre acc ρ → acc.length ≤ pre.length) (hx : xs.length ≤ sizeLine) (hd : ∀ acc ρ, I xs acc ρ → Q acc ρ) : ∀ ρ, I [] [] ρ → wMake g tt we vs Q (xs.map enc) [] ρ := by
  have go : ∀ (post pre : List α), xs = pre ++ post → ∀ acc ρ, I pre acc ρ → wMake g tt we vs Q (post.map enc) acc ρ := by
    intro post
    induction post with
    | nil => intro pre e acc ρ hi; rw [List.append_nil] at e; subst e; exact hd acc ρ hi
    | cons x r ih =>
      intro pre e acc ρ hi
      show g (enc x) ρ _
      have e2 : xs = (pre ++ [x]) ++ r := by rw [e, List.append_assoc]; rfl
      have hn : acc.length < sizeLine := by
        have := hl pre acc ρ hi
        have : xs.length = pre.length + (r.length + 1) := by rw [e, List.length_append, List.length_cons]
        omega
      exact h pre x r e acc ρ hi (fun y ρ3 => acc.length < sizeLine ∧ wMake g tt we vs Q (r.map enc) (acc ++ [y]) (wipeE ρ3 vs)) (fun ρ3 => wMake g tt we vs Q (r.map enc) acc (wipeE ρ3 vs)) (fun y ρ3 h3 => ⟨hn, ih _ e2 _ _ h3⟩) fun ρ3 h3 => ih _ e2 _ _ h3
  exact fun ρ hi => go xs [] rfl [] ρ hi
theorem enums_map {α : Type} {enc : α → D} : ∀ (k : Nat) (xs : List α), enums k (xs.map enc) = (xs.zipIdx k).map fun p => .tup [.int (p.2 : Nat), enc p.1]
  | _, [] => rfl
  | k, x :: r => by
    rw [List.map_cons, List.zipIdx_cons, List.map_cons]
    unfold enums
    rw [enums_map (k + 1) r]
theorem intsD_map (n : Nat) : intsD 0 n = (List.range n).map fun k => .int (k : Nat) := by
  unfold intsD
  congr 1
  funext i
  rw [Int.zero_add]
theorem isS_tup {xs : List D} {P : List D → Prop} (h : P xs) : isS (.tup xs) P := h
theorem isS_lst {xs : List D} {P : List D → Prop} (h : P xs) : isS (.lst xs) P := h
end AL
set_option Elab.async false
set_option linter.all false
set_option maxRecDepth 100000
namespace AL
open PySem PySem.Spec PyProof.Rows L2 L2D
/-! ### dicts of the def's own, keys whole numbers in tuples -/
mutual
theorem hash_nk (w w' : World) : ∀ d : PyData, (nkP d).hash w = (nkP d).hash w'
  | .none => rfl
  | .bool _ => rfl
  | .int _ => rfl
  | .str _ => rfl
  | .list _ => rfl
  | .dict _ => rfl
  | .tuple xs => by
    show reduceHash (Builtin.Tuple.tupleHashOf (NestedKey.hashes w (nkPs xs))) = reduceHash (Builtin.Tuple.tupleHashOf (NestedKey.hashes w' (nkPs xs)))
    rw [hash_nks w w' xs]
theorem hash_nks (w w' : World) : ∀ ds : List PyData, NestedKey.hashes w (nkPs ds) = NestedKey.hashes w' (nkPs ds)
  | [] => rfl
  | d :: ds => by
    show (nkP d).hash w :: NestedKey.hashes w (nkPs ds) = (nkP d).hash w' :: NestedKey.hashes w' (nkPs ds)
    rw [hash_nk w w' d, hash_nks w w' ds]
end
mutual
theorem depth_nk : ∀ {d : PyData}, keyP d = true → (nkP d).depth = d.depth
  | .int _, _ => rfl
  | .tuple xs, k => by
    show NestedKey.depthAll (nkPs xs) + 1 = PyData.depth (.tuple xs)
    rw [depth_nks k]
    unfold PyData.depth
    rfl
  | .none, k => by simp [keyP] at k
  | .bool _, k => by simp [keyP] at k
  | .str _, k => by simp [keyP] at k
  | .list _, k => by simp [keyP] at k
  | .dict _, k => by simp [keyP] at k
theorem depth_nks : ∀ {ds : List PyData}, keyPs ds = true → NestedKey.depthAll (nkPs ds) = PyData.depthAll ds
  | [], _ => by unfold nkPs NestedKey.depthAll PyData.depthAll; rfl
  | d :: ds, k => by
    have k' := Bool.and_eq_true_iff.mp k
    unfold nkPs NestedKey.depthAll PyData.depthAll
    rw [depth_nk k'.1, depth_nks k'.2]
end
mutual
theorem py_inj : ∀ {d e : D}, d.plain = true → e.plain = true → d.py = e.py → d = e
  | .non, e, _, k, h => by cases e <;> first | rfl | (cases h; done) | simp [D.plain] at k
  | .bl _, e, _, k, h => by cases e <;> first | (cases h; rfl) | (cases h; done) | simp [D.plain] at k
  | .int _, e, _, k, h => by cases e <;> first | (cases h; rfl) | (cases h; done) | simp [D.plain] at k
  | .str _, e, _, k, h => by cases e <;> first | (cases h; rfl) | (cases h; done) | simp [D.plain] at k
  | .tup xs, .tup ys, k1, k2, h => by rw [pys_inj k1 k2 (PyData.tuple.inj h)]
  | .lst xs, .lst ys, k1, k2, h => by rw [pys_inj k1 k2 (PyData.list.inj h)]
  | .tup _, .non, _, _, h | .tup _, .bl _, _, _, h | .tup _, .int _, _, _, h | .tup _, .str _, _, _, h | .tup _, .lst _, _, _, h => by cases h
  | .lst _, .non, _, _, h | .lst _, .bl _, _, _, h | .lst _, .int _, _, _, h | .lst _, .str _, _, _, h | .lst _, .tup _, _, _, h => by cases h
  | _, .scr _, _, k, _ => by simp [D.plain] at k
  | _, .raw _, _, k, _ => by simp [D.plain] at k
  | _, .dct _, _, k, _ => by simp [D.plain] at k
  | .scr _, _, k, _, _ => by simp [D.plain] at k
  | .raw _, _, k, _, _ => by simp [D.plain] at k
  | .dct _, _, k, _, _ => by simp [D.plain] at k
theorem pys_inj : ∀ {ds es : List D}, D.plains ds = true → D.plains es = true → D.pys ds = D.pys es → ds = es
  | [], [], _, _, _ => rfl
  | d :: ds, e :: es, k1, k2, h => by
    have k1' := Bool.and_eq_true_iff.mp k1
    have k2' := Bool.and_eq_true_iff.mp k2
    have h0 : d.py :: D.pys ds = e.py :: D.pys es := h
    rw [List.cons.injEq] at h0
    rw [py_inj k1'.1 k2'.1 h0.1, pys_inj k1'.2 k2'.2 h0.2]
  | [], _ :: _, _, _, h => by cases h
  | _ :: _, [], _, _, h => by cases h
end
theorem isKey_of {k : D} (h : k.isKey = true) : k.plain = true ∧ keyP k.py = true ∧ (nkP k.py).depth ≤ 8 ∧ ∃ x r, k = .tup (x :: r) := by
  unfold D.isKey at h
  simp only [Bool.and_eq_true, decide_eq_true_eq] at h
  obtain ⟨⟨⟨h1, h2⟩, h3⟩, h4⟩ := h
  refine ⟨h1, h2, h3, ?_⟩
  cases k with
  | tup xs =>
    cases xs with
    | nil => cases h4
    | cons x r => exact ⟨x, r, rfl⟩
  | _ => cases h4
theorem key_inj {k l : D} (hk : k.isKey = true) (hl : l.isKey = true) (h : nkP k.py = nkP l.py) : k = l := by
  obtain ⟨a1, a2, _⟩ := isKey_of hk
  obtain ⟨b1, b2, _⟩ := isKey_of hl
  exact py_inj a1 b1 (nkP_inj a2 b2 h)
theorem dicO_eq {P P' : Program} {w w' : World} {a : Addr} {xs : List Ent} {ks : List D} (h : xs.map (·.1) = ks.map fun k => nkP k.py) : DicO P w a xs = DicO P' w' a xs := by
  have e : xs.map (entryOfKey (nestedKind P w)) = xs.map (entryOfKey (nestedKind P' w')) := by
    refine List.map_congr_left fun x hx => ?_
    have hm : x.1 ∈ xs.map (·.1) := List.mem_map.mpr ⟨x, hx, rfl⟩
    rw [h] at hm
    obtain ⟨k, _, e⟩ := List.mem_map.mp hm
    have e2 : x.1.hash w = x.1.hash w' := by rw [← e]; exact hash_nk w w' k.py
    show (⟨x.1.hash w, .ref x.2.1, x.2.2⟩ : DictEntry) = ⟨x.1.hash w', .ref x.2.1, x.2.2⟩
    rw [e2]
  have e3 : DicAt P w a xs = DicAt P' w' a xs := by
    funext g
    unfold DicAt
    rw [e]
  unfold DicO
  rw [e3]
theorem key_at {K : PySem.W.Frag} {M : Addr → Prop} {H : Hp} {b : Addr} {k : D} (hk : k.isKey = true) (r : Rp K M H (.ref b) k) : KeyAt K H b k.py := by
  obtain ⟨a1, a2, a3, _⟩ := isKey_of hk
  exact ⟨r.dp a1, a2, a3⟩
theorem keys_at {K : PySem.W.Frag} {M : Addr → Prop} {H : Hp} : ∀ {xs : List Ent} {ks : List D}, DicR K M H xs ks → KeysAt K H xs (ks.map D.py)
  | [], [], _ => .nil
  | x :: xs, k :: ks, ⟨h1, h2, h3⟩ => by
    cases h1 with
    | cons r t =>
      rw [List.map_cons, List.map_cons, List.cons.injEq] at h2
      exact .cons ⟨key_at (h3 k List.mem_cons_self) r, h2.1⟩ (keys_at ⟨t, h2.2, fun l hl => h3 l (List.mem_cons_of_mem _ hl)⟩)
  | [], _ :: _, ⟨h1, _, _⟩ => by cases h1
  | _ :: _, [], ⟨h1, _, _⟩ => by cases h1
/-- a key is stored -/
theorem dic_stored {K : PySem.W.Frag} {M : Addr → Prop} {H : Hp} {xs : List Ent} {ks : List D} {b : Addr} {k : D} {u : Value} (h : DicR K M H xs ks) (hk : k.isKey = true) (r : Rp K M H (.ref b) k) :
    ∃ ks', DicR K M H (storedH xs (nkP k.py) b u) ks' ∧ (∀ x, x ∈ ks' ↔ x ∈ ks ∨ x = k) ∧ ks'.length ≤ ks.length + 1 := by
  obtain ⟨h1, h2, h3⟩ := h
  cases e : atKey xs (nkP k.py) with
  | none =>
    rw [storedH_new e]
    refine ⟨ks ++ [k], ⟨?_, ?_, fun x hx => ?_⟩, fun x => by simp, by simp⟩
    · rw [List.map_append]; exact h1.append (.cons r .nil)
    · rw [List.map_append, List.map_append, h2]; rfl
    · rcases List.mem_append.mp hx with hx | hx
      · exact h3 x hx
      · rw [List.mem_singleton.mp hx]; exact hk
  | some p =>
    rw [storedH_old e]
    have e1 : (xs.map (putAt (nkP k.py) u)).map (fun x => V.ref x.2.1) = xs.map fun x => V.ref x.2.1 := by
      rw [List.map_map]
      refine List.map_congr_left fun x _ => ?_
      show V.ref (putAt (nkP k.py) u x).2.1 = _
      unfold putAt
      split <;> rfl
    have e2 : (xs.map (putAt (nkP k.py) u)).map (·.1) = xs.map (·.1) := by
      rw [List.map_map]
      refine List.map_congr_left fun x _ => ?_
      show (putAt (nkP k.py) u x).1 = _
      unfold putAt
      split <;> rfl
    have hm : k ∈ ks := by
      unfold atKey at e
      cases q : xs.find? (fun x => decide (x.1 = nkP k.py)) with
      | none => rw [q] at e; cases e
      | some y =>
        have y1 := List.find?_some q
        have y2 := List.mem_of_find?_eq_some q
        have y3 : y.1 ∈ xs.map (·.1) := List.mem_map.mpr ⟨y, y2, rfl⟩
        rw [h2] at y3
        obtain ⟨l, hl, el⟩ := List.mem_map.mp y3
        have := key_inj (h3 l hl) hk (el.trans (of_decide_eq_true y1))
        rwa [this] at hl
    refine ⟨ks, ⟨by rw [e1]; exact h1, by rw [e2]; exact h2, h3⟩, fun x => ⟨.inl, fun z => z.elim id fun z => by rw [z]; exact hm⟩, Nat.le_succ _⟩
section
variable {X : Cx} {Φ : Cl} [ok : ClOk Φ] {pos : Pos} {e a b c : Expr} {wa wb wc : WE} {M : Addr → Prop} {σ : L2.St} {H : Hp} {ρ : Ev}
def dicE : Option En → (List D → Prop) → Prop
  | some (.dic ks), P => P ks
  | _, _ => False
theorem dicE_mono {o : Option En} {P P' : List D → Prop} (h : ∀ x, P x → P' x) (q : dicE o P) : dicE o P' := by
  cases o with
  | none => exact q.elim
  | some e => cases e <;> first | exact h _ q | exact q.elim
theorem dicE_rp (A : Abs Φ M σ H ρ) {i : Nat} {P : List D → Prop} (q : dicE ρ[i]? P) : ∃ ks r Pr w xs, ρ[i]? = some (.dic ks) ∧ σ[i]? = some (some (.ref r)) ∧ M r ∧ H r = some (DicO Pr w r xs) ∧ DicR Φ.K M H xs ks ∧ Φ.H0 r = none ∧ Φ.T r = none ∧ P ks := by
  cases he : ρ[i]? with
  | none => rw [he] at q; exact q.elim
  | some en =>
    have hi : i < σ.length := by rw [A.len]; exact (List.getElem?_eq_some_iff.mp he).1
    have sl := A.slot i en _ he (List.getElem?_eq_getElem hi)
    rw [he] at q
    cases en with
    | dic ks => obtain ⟨r, Pr, w, xs, e, m, h, rr, z⟩ := sl; exact ⟨ks, r, Pr, w, xs, rfl, by rw [List.getElem?_eq_getElem hi, e], m, h, rr, z.1, z.2, q⟩
    | _ => exact q.elim
theorem Abs.newDic (A : Abs Φ M σ H ρ) {i : Nat} {p : Addr} {P : Program} {w : World} (hp : H p = none) : Abs Φ (more M p) (σ.set i (some (.ref p))) (upd H p (DicO P w p [])) (ρ.set i (.dic [])) ∧ Step M H (more M p) (upd H p (DicO P w p [])) := by
  have st : Step M H (more M p) (upd H p (DicO P w p [])) := ⟨fun a o hm h => ⟨fun z => z.elim hm (fun y => ne_of_none h hp y), same_upd hp a o h⟩, fun a xs h => same_upd hp a _ h, fun a o u h => same_upd hp a _ h⟩
  have h0 : Φ.H0 p = none := by
    cases q : Φ.H0 p with
    | none => rfl
    | some o =>
      by_cases hw : Φ.W p
      · obtain ⟨vs, z, _⟩ := A.lst p (A.m0 p (A.wm p hw))
        rw [hp] at z; cases z
      · have := A.keep p o q hw
        rw [hp] at this; cases this
  have ht : Φ.T p = none := by
    cases q : Φ.T p with
    | none => rfl
    | some o => have := (A.hold p o q).2; rw [hp] at this; cases this
  have nown : ∀ {j : Nat} {w' : Bool} {ys : List D}, (ρ.set i (.dic []))[j]? = some (.own w' ys) → i ≠ j ∧ ρ[j]? = some (.own w' ys) := fun {j w' ys} h => by
    by_cases hj : i = j
    · subst hj
      have hi : i < ρ.length := by have := (List.getElem?_eq_some_iff.mp h).1; rwa [List.length_set] at this
      rw [List.getElem?_set_self hi] at h; cases h
    · rw [List.getElem?_set_ne hj] at h; exact ⟨hj, h⟩
  have ndic : ∀ {j : Nat} {ys : List D}, ρ[j]? = some (.dic ys) → σ[j]? ≠ some (some (.ref p)) := fun {j ys} h1 h2 => by
    obtain ⟨a, _, _, _, e1, m, h, _⟩ := A.slot j _ _ h1 h2
    cases e1
    rw [hp] at h; cases h
  refine ⟨⟨by rw [List.length_set, List.length_set]; exact A.len, fun j en o h1 h2 => ?_, fun j k q w1 w2 ys zs h1 h2 h3 h4 => ?_, fun a h => ?_, fun a h => .inl (A.m0 a h), fun a o h1 h2 => same_upd hp a o (A.keep a o h1 h2), A.wm, fun a o h => ⟨.inl (A.hold a o h).1, same_upd hp a o (A.hold a o h).2⟩, fun j k q ys zs h1 h2 h3 h4 => ?_, A.tabs st fun P ps m h => ⟨.inl m, same_upd hp _ _ h⟩, A.far.set (fun k hk => List.getElem?_set_ne (fun z => hk z.symm)) (fun _ _ _ => En.noConfusion) (fun j w F P a _ h1 h3 => by
    have hi : i < σ.length := by have := (List.getElem?_eq_some_iff.mp h3).1; rwa [List.length_set] at this
    rw [List.getElem?_set_self hi] at h3
    cases h3
    intro hf
    have hj : j < σ.length := by rw [A.len]; exact (List.getElem?_eq_some_iff.mp h1).1
    obtain ⟨b, e1, f, g, r⟩ := A.slot j _ _ h1 (List.getElem?_eq_getElem hj)
    obtain ⟨o, hb', _⟩ := A.lst _ (f _ hf).1
    rw [hp] at hb'; cases hb')⟩, st⟩
  · by_cases hj : i = j
    · subst hj
      have hi : i < ρ.length := by have := (List.getElem?_eq_some_iff.mp h1).1; rwa [List.length_set] at this
      rw [List.getElem?_set_self hi] at h1
      cases h1
      rw [List.getElem?_set_self (by rw [A.len]; exact hi)] at h2
      cases h2
      exact ⟨p, P, w, [], rfl, .inr rfl, upd_same, ⟨.nil, rfl, fun k hk => by cases hk⟩, h0, ht⟩
    · rw [List.getElem?_set_ne hj] at h1 h2
      have q := A.slot j en o h1 h2
      cases en with
      | un => trivial
      | d x => obtain ⟨v, e1, r⟩ := q; exact ⟨v, e1, r.step st⟩
      | own w xs => obtain ⟨a, ws, e1, m, h, r, z⟩ := q; exact ⟨a, ws, e1, .inl m, same_upd hp _ _ h, r.step st, z⟩
      | dic ks => obtain ⟨a, P, w, ws, e1, m, h, r, z⟩ := q; exact ⟨a, P, w, ws, e1, .inl m, same_upd hp _ _ h, r.step st, z⟩
      | obj w F P =>
        obtain ⟨a, e1, f, g, r⟩ := q
        refine ⟨a, e1, fun b hb => ⟨.inl (f b hb).1, (f b hb).2⟩, g, g.1 _ _ _ _ _ st (fun b hb => ?_) r⟩
        obtain ⟨o, hb', _⟩ := A.lst b (f b hb).1
        rw [hb', same_upd hp b o hb']
  · obtain ⟨n1, g1⟩ := nown h1
    obtain ⟨n2, g2⟩ := nown h2
    rw [List.getElem?_set_ne n1] at h3
    rw [List.getElem?_set_ne n2] at h4
    exact A.inj j k q w1 w2 ys zs g1 g2 h3 h4
  · rcases h with h | h
    · obtain ⟨ws, q, mu⟩ := A.lst a h
      exact ⟨ws, same_upd hp _ _ q, mu⟩
    · rw [h]; exact ⟨_, upd_same, trivial⟩
  · have val : ∀ {j : Nat} {ys : List D}, (ρ.set i (.dic []))[j]? = some (.dic ys) → (σ.set i (some (.ref p)))[j]? = some (some (.ref q)) → (i = j ∧ q = p) ∨ (i ≠ j ∧ ρ[j]? = some (.dic ys) ∧ σ[j]? = some (some (.ref q))) := fun {j ys} h h' => by
      by_cases hj : i = j
      · subst hj
        have hi : i < ρ.length := by have := (List.getElem?_eq_some_iff.mp h).1; rwa [List.length_set] at this
        rw [List.getElem?_set_self (by rw [A.len]; exact hi)] at h'
        cases h'; exact .inl ⟨rfl, rfl⟩
      · rw [List.getElem?_set_ne hj] at h h'
        exact .inr ⟨hj, h, h'⟩
    rcases val h1 h3 with ⟨z1, y1⟩ | ⟨_, g1, f1⟩ <;> rcases val h2 h4 with ⟨z2, y2⟩ | ⟨_, g2, f2⟩
    · rw [← z1, ← z2]
    · subst y1; exact absurd f2 (ndic g2)
    · subst y2; exact absurd f1 (ndic g1)
    · exact A.injd j k q ys zs g1 g2 f1 f2
theorem Abs.writeDic (A : Abs Φ M σ H ρ) {i : Nat} {ks ks' : List D} {r : Addr} {P P' : Program} {w w' : World} {xs xs' : List Ent} (e : ρ[i]? = some (.dic ks)) (es : σ[i]? = some (some (.ref r))) (hh : H r = some (DicO P w r xs)) (rr : DicR Φ.K M H xs' ks') :
    Abs Φ M σ (upd H r (DicO P' w' r xs')) (ρ.set i (.dic ks')) ∧ Step M H M (upd H r (DicO P' w' r xs')) := by
  obtain ⟨a, P1, w1, xs1, e1, m, hh1, r0, z, t⟩ := A.slot i _ _ e es
  cases e1
  have st : Step M H M (upd H r (DicO P' w' r xs')) := by
    refine ⟨fun a o hm h => ⟨hm, ?_⟩, fun a xs h => ?_, fun a o u h => ?_⟩
    · rw [upd_ne (fun z => hm (by rw [z]; exact m))]; exact h
    · rw [upd_ne (fun z => by rw [z, hh] at h; cases h)]; exact h
    · rw [upd_ne (fun z => by rw [z, hh] at h; cases h)]; exact h
  have hi : i < ρ.length := (List.getElem?_eq_some_iff.mp e).1
  have nown : ∀ {j : Nat} {w' : Bool} {ys : List D}, (ρ.set i (.dic ks'))[j]? = some (.own w' ys) → ρ[j]? = some (.own w' ys) := fun {j w' ys} h => by
    by_cases hj : i = j
    · subst hj
      rw [List.getElem?_set_self hi] at h; cases h
    · rw [List.getElem?_set_ne hj] at h; exact h
  have ndic : ∀ {j : Nat} {ys : List D}, (ρ.set i (.dic ks'))[j]? = some (.dic ys) → ∃ zs, ρ[j]? = some (.dic zs) := fun {j ys} h => by
    by_cases hj : i = j
    · subst hj; exact ⟨_, e⟩
    · rw [List.getElem?_set_ne hj] at h; exact ⟨_, h⟩
  refine ⟨⟨by rw [List.length_set]; exact A.len, fun j en o h1 h2 => ?_, fun j k p w1 w2 zs1 zs2 h1 h2 h3 h4 => A.inj j k p w1 w2 zs1 zs2 (nown h1) (nown h2) h3 h4, fun b hb => ?_, A.m0, fun b o h1 h2 => ?_, A.wm, fun b o h => ?_, fun j k b ys zs h1 h2 h3 h4 => ?_, A.tabs st fun P ps m' h => ⟨m', by rw [upd_ne (fun y => by rw [y, hh] at h; cases h)]; exact h⟩, A.far.set (fun _ _ => rfl) (fun _ _ _ => En.noConfusion) fun j w F P a hji h1 h3 => (show ¬ F a from A.far j i w F P (.dic ks) a hji h1 e h3)⟩, st⟩
  · by_cases hj : i = j
    · subst hj
      rw [List.getElem?_set_self hi] at h1
      cases h1
      rw [es] at h2; cases h2
      exact ⟨r, P', w', xs', rfl, m, upd_same, rr.step st, z, t⟩
    · rw [List.getElem?_set_ne hj] at h1
      have q := A.slot j en o h1 h2
      cases en with
      | un => trivial
      | d x => obtain ⟨v, e1, r1⟩ := q; exact ⟨v, e1, r1.step st⟩
      | own w' zs =>
        obtain ⟨b, ws, e1, m1, h3, r1, z1⟩ := q
        have ne : b ≠ r := fun y => by rw [y, hh] at h3; cases h3
        exact ⟨b, ws, e1, m1, by rw [upd_ne ne]; exact h3, r1.step st, z1⟩
      | dic zs =>
        obtain ⟨b, P2, w2, ws, e1, m1, h3, r1, z1⟩ := q
        have ne : b ≠ r := fun y => by
          subst y; subst e1
          exact hj (A.injd i j _ _ _ e h1 es h2)
        exact ⟨b, P2, w2, ws, e1, m1, by rw [upd_ne ne]; exact h3, r1.step st, z1⟩
      | obj w F P =>
        obtain ⟨b, e1, f, g, r1⟩ := q
        have nf : ¬ F r := A.far j i w F P (.dic ks) r (fun z => hj z.symm) h1 e es
        exact ⟨b, e1, f, g, g.1 _ _ _ _ _ st (fun c hc => upd_ne (show c ≠ r from fun y => nf (y ▸ hc))) r1⟩
  · by_cases y : b = r
    · rw [y]; exact ⟨_, upd_same, trivial⟩
    · obtain ⟨ws, q, mu⟩ := A.lst b hb
      exact ⟨ws, by rw [upd_ne y]; exact q, mu⟩
  · rw [upd_ne (fun y => by rw [y, z] at h1; cases h1)]
    exact A.keep b o h1 h2
  · refine ⟨(A.hold b o h).1, ?_⟩
    rw [upd_ne (fun y => by rw [y, t] at h; cases h)]
    exact (A.hold b o h).2
  · obtain ⟨_, g1⟩ := ndic h1
    obtain ⟨_, g2⟩ := ndic h2
    exact A.injd j k b _ _ g1 g2 h3 h4
/-- x = {} -/
def wDic0 (i : Nat) : WS := fun R ρ => R.nx (ρ.set i (.dic []))
theorem qs_dic0 {i : Nat} {x : Str} {pos' : Pos} {dp : Pos} (hN : X.N.Nodup) (hi : X.N[i]? = some x) (hx : Loc X.env.scope x) (hs : swapsWith (.Dict [] [] dp) (some (.Name x pos')) pos.line X.env = pure false := by rfl) (hf : X.fn x = true ∨ X.env.scope.names.lookup x = some .local := by first | exact .inl rfl | exact .inr rfl | assumption) :
    QS X Φ (.Assign [.Name x pos'] (.Dict [] [] dp) pos) (wDic0 i) := by
  refine ⟨fun ρ R R' h q => h.nx _ q, PSw (ps_set hN hi hx pe_dicNew hs hf) fun D σ H ⟨M, ρ, A, q⟩ => ?_⟩
  intro p hp
  obtain ⟨A2, S2⟩ := A.newDic (i := i) (P := X.prog) (w := X.w) hp
  exact q _ _ _ A2 S2
/-- d[k] = e -/
def wSetD (wa : WE) (i : Nat) (wk : WE) : WS := fun R ρ => wa ρ fun _ ρ0 => dicE ρ0[i]? fun _ => wk ρ0 fun k ρ1 => dicE ρ1[i]? fun ks => k.isKey = true ∧ ks.length ≤ sizeLine ∧
  ∀ ks', (∀ x, x ∈ ks' ↔ x ∈ ks ∨ x = k) → ks'.length ≤ ks.length + 1 → R.nx (ρ1.set i (.dic ks'))
theorem qs_setD {i : Nat} {x : Str} {p spos : Pos} {wk : WE} {ik : Expr} (hK : X.K = Φ.K) (hu : X.A.units + 64 < cLine) (hN : X.N[i]? = some x) (hv : Vis X.env.scope x) (ha : QE X Φ e wa) (hk : QE X Φ ik wk) (hd : (x == ("__debug__" : Str)) = false := by decide) (hcd : (x == ("__classdict__" : Str)) = false := by decide)
    (hsub : ∀ v, assign (.Subscript (.Name x p) ik spos) X.env v = (do
      let ov ← holding [v] (eval (.Name x p) X.env)
      let iv ← holding [v, ov] (eval ik X.env)
      standAt spos
      holding [v, ov, iv] (setItem ov iv v)
      release [v, ov, iv] []) := by intro _; rfl)
    (hs : swapsWithSole [.Subscript (.Name x p) ik spos] e pos.line X.env = pure false := by rfl) (hw : swappedStores [.Subscript (.Name x p) ik spos] e X.env = pure none := by rfl)
    (h1 : (assignEach [.Subscript (.Name x p) ik spos] X.env).map (·.2) = [assign (.Subscript (.Name x p) ik spos) X.env] := by rfl) : QS X Φ (.Assign [.Subscript (.Name x p) ik spos] e pos) (wSetD wa i wk) := by
  refine ⟨fun ρ R R' h q => ha.mono ρ _ _ (fun x ρ1 q1 => dicE_mono (fun ks p => hk.mono ρ1 _ _ (fun k ρ2 q2 => dicE_mono (fun ks p => ⟨p.1, p.2.1, fun ks' m l => h.nx _ (p.2.2 ks' m l)⟩) q2) p) q1) q,
    PSw (ps_asg ha.run (pg_sub (pe_var hN hv hd hcd) hk.run (set_dic hu) hsub) hs hw h1) fun D σ H ⟨M, ρ, A, q⟩ => ?_⟩
  refine ⟨M, ρ, A, ha.mono ρ _ _ (fun x ρ1 q1 => ?_) q⟩
  intro M1 v H1 A1 S1 r1
  obtain ⟨ks0, r, Pr, w, xs0, e0, es, m0, hh0, rr0, _, _, q1⟩ := dicE_rp A1 q1
  refine ⟨.ref r, es, M1, ρ1, A1, hk.mono ρ1 _ _ (fun k ρ2 q2 => ?_) q1⟩
  intro M2 iv H2 A2 S2 r2
  obtain ⟨ks, r', Pr', w', xs, e2, es2, m2, hh2, rr2, _, _, hk1, hk2, q3⟩ := dicE_rp A2 q2
  rw [es] at es2
  cases es2
  obtain ⟨_, _, _, xk, rk, ek⟩ := isKey_of hk1
  have hiv : ∃ b, iv = .ref b := by
    rw [ek] at r2
    cases r2; exact ⟨_, rfl⟩
  obtain ⟨b, rfl⟩ := hiv
  have hx : H2 r = some (DicO X.prog X.w r xs) := by rw [hh2, dicO_eq rr2.2.1]
  refine ⟨r, b, xs, ks.map AL.D.py, k.py, rfl, rfl, hx, by rw [hK]; exact keys_at rr2, by rw [hK]; exact key_at hk1 r2, ?_, fun u => ?_⟩
  · have := rr2.1.length
    rw [List.length_map] at this
    rw [this]; exact hk2
  · obtain ⟨ks', d1, d2, d3⟩ := dic_stored (u := u) rr2 hk1 r2
    obtain ⟨A3, S3⟩ := A2.writeDic (P' := X.prog) (w' := X.w) e2 es hh2 d1
    exact q3 ks' d2 d3 M2 σ _ A3 (S1.trans (S2.trans S3))
/-- sorted(d) -/
def wSortD (i : Nat) : WA := fun ρ Q => dicE ρ[i]? fun ks => ks.length ≤ sizeLine ∧ (∀ x ∈ ks, ∀ y ∈ ks, PySem.W.alike x.py y.py = true) ∧ ∀ zs, zs.Perm ks → Q zs ρ
theorem RpAll.perm {K : PySem.W.Frag} {H : Hp} {vs us : List V} (p : us.Perm vs) : ∀ {ds : List D}, RpAll K M H vs ds → ∃ es, es.Perm ds ∧ RpAll K M H us es := by
  induction p with
  | nil => intro ds r; exact ⟨ds, .refl _, r⟩
  | cons x _ ih =>
    intro ds r
    cases r with
    | cons h t =>
      obtain ⟨es, p1, r1⟩ := ih t
      exact ⟨_ :: es, p1.cons _, .cons h r1⟩
  | swap x y l =>
    intro ds r
    cases r with
    | cons h t =>
      cases t with
      | cons h2 t2 => exact ⟨_, .swap _ _ _, .cons h2 (.cons h t2)⟩
  | trans _ _ ih1 ih2 =>
    intro ds r
    obtain ⟨es, p1, r1⟩ := ih2 r
    obtain ⟨fs, p2, r2⟩ := ih1 r1
    exact ⟨fs, p2.trans p1, r2⟩
theorem qf_sortD {i : Nat} {x f : Str} {p p2 : Pos} (hK : X.K = Φ.K) (hcalm : X.calm = true) (hu : X.A.units + 64 < cLine) (hN : X.N[i]? = some x) (hv : Vis X.env.scope x) (hg : Gl X f) (hm : X.mg f = none) (hvb : bootBuiltins f = some (.builtin "sorted")) (hd : (x == ("__debug__" : Str)) = false := by decide) (hcd : (x == ("__classdict__" : Str)) = false := by decide)
    (hn : f ≠ "__name__" := by decide) (hdb : (f == ("__debug__" : Str)) = false := by decide)
    (he : starEach (.Name x p2 :: []) X.env = (false, eval (.Name x p2) X.env) :: starEach [] X.env := by rfl) (hpl : (backTo pos (starEach [] X.env)).any (·.1) = false := by rfl) : QF X Φ (.Call (.Name f p) [.Name x p2] [] pos) (wSortD i) := by
  refine ⟨fun ρ Q Q' h q => dicE_mono (fun ks p => ⟨p.1, p.2.1, fun zs z => h _ _ (p.2.2 zs z)⟩) q, PEw (pe_callB (call_sortedDic hcalm hu) hg hm hvb (pa_cons (pe_var hN hv hd hcd) pa_nil he) hn hdb he hpl) fun σ H Q ⟨M, ρ, A, q⟩ => ?_⟩
  obtain ⟨ks, r, Pr, w, xs, e0, es, m0, hh, rr, _, _, q1, q2, q3⟩ := dicE_rp A q
  refine ⟨.ref r, es, r, xs, ks.map AL.D.py, rfl, by rw [hh, dicO_eq rr.2.1], by rw [hK]; exact keys_at rr, ?_, ?_, ?_, ?_, fun ys p hp hn => ?_⟩
  · intro d hd d' hd'
    obtain ⟨x1, h1, rfl⟩ := List.mem_map.mp hd
    obtain ⟨x2, h2, rfl⟩ := List.mem_map.mp hd'
    exact q2 x1 h1 x2 h2
  · intro d hd
    obtain ⟨x1, h1, rfl⟩ := List.mem_map.mp hd
    obtain ⟨_, _, _, x, r, e⟩ := isKey_of (rr.2.2 x1 h1)
    rw [e]; exact ⟨x.py, D.pys r, rfl⟩
  · intro d hd
    obtain ⟨x1, h1, rfl⟩ := List.mem_map.mp hd
    obtain ⟨_, a2, a3, _⟩ := isKey_of (rr.2.2 x1 h1)
    rw [← depth_nk a2]; exact a3
  · have := rr.1.length
    rw [List.length_map] at this
    rw [this]; exact q1
  · obtain ⟨zs, p1, r1⟩ := RpAll.perm hp rr.1
    obtain ⟨A2, S2, N2⟩ := A.add hn r1
    exact q3 zs p1 _ _ _ _ A2 S2 N2
end
end AL
set_option Elab.async false
set_option linter.all false
set_option maxRecDepth 100000
namespace AL
open PySem PySem.Spec PyProof.Rows L2
section
variable {X : Cx} {Φ : Cl} [ok : ClOk Φ] {pos : Pos} {e a b c : Expr} {wa wb wc : WE} {M : Addr → Prop} {σ : L2.St} {H : Hp} {ρ : Ev}
theorem rpAll_rg {K : PySem.W.Frag} {j : Int} : RpAll K M H (rgV 0 j) (intsD 0 j.toNat) := by
  unfold rgV intsD
  rw [Int.sub_zero]
  generalize List.range j.toNat = l
  induction l with
  | nil => exact .nil
  | cons x r ih => exact .cons (.int _) ih
/-- range(n) as an argument -/
def kRg : K1 := fun x P => match x with
  | .int j => (0 ≤ j ∧ j ≤ 1000) ∧ P (.lst (intsD 0 j.toNat))
  | _ => False
def wTupRg (wa : WE) : WE := fun ρ Q => wa ρ fun x ρ1 => match x with
  | .int j => (0 ≤ j ∧ j ≤ 1000) ∧ Q (.tup (intsD 0 j.toNat)) ρ1
  | _ => False
def wLstRg (wa : WE) : WA := fun ρ Q => wa ρ fun x ρ1 => match x with
  | .int j => (0 ≤ j ∧ j ≤ 1000) ∧ Q (intsD 0 j.toNat) ρ1
  | _ => False
theorem qe_tupRg {p p2 pos2 : Pos} (hc : X.calm = true) (hg : Gl X "tuple") (hm : X.mg "tuple" = none) (hg2 : Gl X "range") (hm2 : X.mg "range" = none) (ha : QE X Φ a wa)
    (na : starEach [.Call (.Name "range" p2) [a] [] pos2] X.env = (false, eval (.Call (.Name "range" p2) [a] [] pos2) X.env) :: starEach [] X.env := by rfl) (nb : starEach [a] X.env = (false, eval a X.env) :: starEach [] X.env := by rfl) :
    QE X Φ (.Call (.Name "tuple" p) [.Call (.Name "range" p2) [a] [] pos2] [] pos) (wTupRg wa) := by
  refine ⟨fun ρ Q Q' h q => ha.mono ρ _ _ (fun x ρ1 q1 => ?_) q, PEw (pe_tupRg hc hg hm (prg_1 hg2 hm2 ha.run nb) na) fun σ H Q ⟨M, ρ, A, q⟩ => ?_⟩
  · cases x <;> first | exact q1.elim | exact ⟨q1.1, h _ _ q1.2⟩
  · refine ⟨M, ρ, A, ha.mono ρ _ _ (fun x ρ1 q1 => ?_) q⟩
    intro M1 v H1 A1 S1 r1
    cases x with
    | int j =>
      cases r1
      obtain ⟨hj, q2⟩ := q1
      refine ⟨j, rfl, RgOk.of_le (Int.le_refl _) (by omega) (by decide) hj.1, fun p hp => ?_⟩
      have s := same_upd (o := .tup (rgV 0 j)) hp
      exact q2 M1 _ _ (A1.same s) (S1.trans (step_same s)) (.tup upd_same (rpAll_rg))
    | _ => exact q1.elim
theorem qf_lstRg {p p2 pos2 : Pos} (hc : X.calm = true) (hg : Gl X "list") (hm : X.mg "list" = none) (hg2 : Gl X "range") (hm2 : X.mg "range" = none) (ha : QE X Φ a wa)
    (na : starEach [.Call (.Name "range" p2) [a] [] pos2] X.env = (false, eval (.Call (.Name "range" p2) [a] [] pos2) X.env) :: starEach [] X.env := by rfl) (nb : starEach [a] X.env = (false, eval a X.env) :: starEach [] X.env := by rfl) :
    QF X Φ (.Call (.Name "list" p) [.Call (.Name "range" p2) [a] [] pos2] [] pos) (wLstRg wa) := by
  refine ⟨fun ρ Q Q' h q => ha.mono ρ _ _ (fun x ρ1 q1 => ?_) q, PEw (pe_listRg hc hg hm (prg_1 hg2 hm2 ha.run nb) na) fun σ H Q ⟨M, ρ, A, q⟩ => ?_⟩
  · cases x <;> first | exact q1.elim | exact ⟨q1.1, h _ _ q1.2⟩
  · refine ⟨M, ρ, A, ha.mono ρ _ _ (fun x ρ1 q1 => ?_) q⟩
    intro M1 v H1 A1 S1 r1
    cases x with
    | int j =>
      cases r1
      obtain ⟨hj, q2⟩ := q1
      refine ⟨j, rfl, RgOk.of_le (Int.le_refl _) (by omega) (by decide) hj.1, fun p hp => ?_⟩
      obtain ⟨A2, S2, N2⟩ := A1.add hp rpAll_rg
      exact q2 _ p _ _ A2 (S1.trans S2) N2
    | _ => exact q1.elim
end
end AL
set_option Elab.async false
set_option linter.all false
set_option maxRecDepth 100000
namespace HT
open PySem PySem.Spec PyProof.Rows L2
theorem fm_congr {α β : Type} {f g : α → Option β} : ∀ {l : List α}, (∀ x ∈ l, f x = g x) → l.filterMap f = l.filterMap g
  | [], _ => rfl
  | a :: l, h => by
    rw [List.filterMap_cons, List.filterMap_cons, h a List.mem_cons_self, fm_congr fun x hx => h x (List.mem_cons_of_mem _ hx)]
section
variable {prog : Program} {w : World} {A : Around} {E : Value → Shared → Prop} {s : Shared}
theorem adjust_rev (n : Nat) : Builtin.Slice.sliceAdjust none none (-1) (n : Int) = ((n : Int) - 1, -1) := rfl
theorem places_rev (n : Nat) : Builtin.Slice.slicePlaces ((n : Int) - 1) (-1) (-1) = n := by
  unfold Builtin.Slice.slicePlaces
  rw [if_neg (by decide), show (-(-1) : Int) = 1 by decide, Int.ediv_one]
  split <;> omega
theorem pick_rev (xs : Array Value) : ((List.range xs.size).filterMap fun (m : Nat) => xs[((xs.size : Int) - 1 + (m : Int) * (-1)).toNat]?).toArray = xs.toList.reverse.toArray := by
  congr 1
  have e : ((List.range xs.size).filterMap fun (m : Nat) => xs[((xs.size : Int) - 1 + (m : Int) * (-1)).toNat]?) = (List.range xs.size).filterMap fun m => xs[xs.size - 1 - m]? := by
    refine fm_congr fun m hm => ?_
    have := List.mem_range.mp hm
    rw [show ((xs.size : Int) - 1 + (m : Int) * (-1)).toNat = xs.size - 1 - m by omega]
  rw [e]
  have e2 : (List.range xs.size).filterMap (fun m => xs[xs.size - 1 - m]?) = ((List.range xs.size).map fun k => xs.size - 1 - k).filterMap (xs[·]?) := by rw [List.filterMap_map]; rfl
  rw [e2, PySem.W.krv_range, List.filterMap_reverse, PySem.W.krv_all]
theorem getItem_tuple_rev {t sl : Addr} {items : Array Value} {vl vu vs : Value} {Q : Value → Shared → Prop} (ht : IsTup s.heap t items) (hs : s.heap.IsSliceOf sl vl vu vs) (pl : IsPart vl none) (pu : IsPart vu none) (ps : IsPart vs (some (-1)))
    (h : Q (.ref s.heap.objs.size) { s with heap := s.heap.push { cls := .type "tuple", data := .seq items.toList.reverse.toArray } })
    (hsz : items.size ≤ sizeLine) : wpAny (model prog w) A (getItem (.ref t) (.ref sl)) Q E s := by
  have htake : sizeOk (.seq items.toList.reverse.toArray) := by
    show items.toList.reverse.toArray.size ≤ sizeLine
    rw [List.size_toArray, List.length_reverse, Array.length_toList]
    exact hsz
  obtain ⟨os, hos, hcs, hds⟩ := id hs
  have hTs : s.TypeIs (.ref sl) "slice" := ⟨os, hos, hcs⟩
  unfold getItem
  try with_reducible refine wpAny_holding ?_
  first | refine wpAny_bind (wpAny_pure ?_) | skip
  refine wpAny_bind (wpAny_sequenceKey ht.typeIs (by decide) ?_)
  refine wpAny_bind (wpAny_callSpecial?_slot (name := Str.ofString "__getitem__") ht.typeIs PyProof.Rows.slot_tuple_getitem
    (wpAny_call_entry PyProof.Rows.slot_tuple_getitem ht.typeIs entry_tuple_getitem ?_ (args_tuple_getitem _ _)))
  show wpAny _ _ (Builtin.Tuple.tupleItemsOf (.ref t) >>= _) _ _ s
  refine wpAny_bind (tupleItemsOf_ ht ?_)
  refine wpAny_bind (wpAny_typeOf hTs ?_)
  rw [if_pos (by decide)]
  refine wpAny_bind ?_
  · unfold Builtin.Slice.sliceApplied Builtin.Slice.sliceFields
    refine wpAny_bind (wpAny_bind (wpAny_field hos hds (x := vl) rfl (wpAny_bind (wpAny_field hos hds (x := vu) rfl (wpAny_bind (wpAny_field hos hds (x := vs) rfl (wpAny_pure ?_)))))))
    refine wpAny_bind (slicePart_ ps ?_)
    show wpAny _ _ (if ((-1 : Int) == 0) = true then _ else _) _ _ s
    rw [if_neg (by decide)]
    refine wpAny_bind (slicePart_ pl (wpAny_bind (slicePart_ pu (wpAny_bind (wpAny_pure ?_)))))
    show wpAny _ _ (match Builtin.Slice.sliceAdjust none none (-1) (items.size : Int) with | (lo, hi) => pure (lo, (-1 : Int), Builtin.Slice.slicePlaces lo hi (-1))) _ _ s
    rw [adjust_rev items.size]
    show wpAny _ _ (pure ((items.size : Int) - 1, (-1 : Int), Builtin.Slice.slicePlaces ((items.size : Int) - 1) (-1) (-1))) _ _ s
    rw [places_rev]
    refine wpAny_pure ?_
    have hno : ¬ (((((items.size : Int) - 1) == 0 && (-1 : Int) == 1) && items.size == items.size) = true) := by
      rw [show ((-1 : Int) == 1) = false from rfl, Bool.and_false, Bool.false_and]
      exact Bool.false_ne_true
    show wpAny _ _ (if ((((items.size : Int) - 1) == 0 && (-1 : Int) == 1) && items.size == items.size) = true then _ else _) _ _ s
    rw [if_neg hno, pick_rev]
    first
      | exact wpAny_bind (m := Builtin.Tuple.tupleExact _) (wpAny_newObj_type (wpAny_pure ⟨_, rfl, wpAny_pure h⟩) htake)
      | exact wpAny_bind (m := Builtin.Tuple.tupleExact _) (wpAny_newObj_type (wpAny_bind (wpAny_pure (wpAny_pure ⟨_, rfl, wpAny_pure h⟩))) htake)
      | exact wpAny_bind (wpAny_bind (m := Builtin.Tuple.tupleExact _) (wpAny_newObj_type (wpAny_pure (wpAny_pure ⟨_, rfl, wpAny_pure h⟩)) htake))
      | exact wpAny_bind (wpAny_bind (m := Builtin.Tuple.tupleExact _) (wpAny_newObj_type (wpAny_pure ⟨_, rfl, wpAny_pure h⟩) htake))
end
end HT
namespace L2
open PySem PySem.Spec PyProof.Rows
def tRevT (K : PySem.W.Frag) (te : TE) : TE := fun σ H Q => te σ H fun x H1 => ∃ a xs, x = .ref a ∧ SqT K H1 a xs ∧ ∀ p, H1 p = none → Q (.ref p) (upd H1 p (.tup xs.reverse))
theorem pe_revT {X : Cx} {e : Expr} {te : TE} {k : Nat} {p1 p2 p3 pos : Pos} (he : PE X e te) : PE X (.Subscript e (.Slice none none (some (.UnaryOp .USub (.Constant (.int 1) k p1) p2)) p3) pos) (tRevT X.K te) := by
  refine ⟨fun pins s σ H Q I h => ?_⟩
  refine Subscript_ (thn (he.run pins s σ H _ I h) fun v s1 ⟨x, H1, I1, r1, q1⟩ => ?_)
  obtain ⟨a, xs, ex, hx, q⟩ := q1
  subst ex
  cases r1
  have hst : PO X (some (.UnaryOp .USub (.Constant (.int 1) k p1) p2)) (tPart (tUn (rU fun i => .int (-i)) (tC (.int 1)))) := po_some (pe_un un_neg pe_int)
  refine wpAny_Slice (thn (po_none.run pins s1 σ H1 (fun o H2 => o = none ∧ H2 = H1) I1 ⟨rfl, rfl⟩) fun vl s2 ⟨l, H2, I2, pl, el, e2⟩ => ?_)
  subst el e2
  refine thn (po_none.run pins s2 σ H2 (fun o H3 => o = none ∧ H3 = H2) I2 ⟨rfl, rfl⟩) fun vu s3 ⟨u, H3, I3, pu, eu, e3⟩ => ?_
  subst eu e3
  refine thn (hst.run pins s3 σ H3 (fun o H4 => o = some (-1) ∧ H4 = H3) I3 ⟨1, rfl, -1, rfl, rfl, rfl⟩) fun vs s4 ⟨o, H4, I4, ps, eo, e4⟩ => ?_
  subst eo e4
  have I5 : Inv X pins σ H4 { s4 with heap := s4.heap.push { cls := .type "slice", data := .fields #[vl, vu, vs] } } := I4.kept (t' := s4.toks) fun b ob q => Heap.get?_push_of_some _ q
  obtain ⟨its, r, ht, hz⟩ := I5.tuple hx
  have hlen := r.length
  show wpAny (model X.prog X.w) X.A (subscriptTail e (.Slice none none (some (.UnaryOp .USub (.Constant (.int 1) k p1) p2)) p3) (.ref a) (.ref s4.heap.objs.size)) (EP X pins σ Q) X.xe { s4 with heap := s4.heap.push { cls := .type "slice", data := .fields #[vl, vu, vs] } }
  refine tail_any (ops := [.ref a, .ref s4.heap.objs.size]) ht.typeIs (PyProof.Rows.slot_tuple_getitem.lookup) ?_ (by with_unfolding_all rfl)
  refine HT.getItem_tuple_rev ht (Heap.IsSliceOf.new _ vl vu vs) pl pu ps ?_ (by rw [List.size_toArray]; omega)
  refine ⟨.ref _, _, I5.laid (t' := s4.toks) (o := .tup xs.reverse) (fun b ob q => Heap.get?_push_of_some _ q) (Nat.le_refl _) ?_, rfl, q _ (I5.hok.fresh (Nat.le_refl _))⟩
  exact ⟨by rw [List.length_reverse]; exact hz, _, r.reverse, IsTup.new _ _⟩
end L2
namespace AL
open PySem PySem.Spec PyProof.Rows L2
section
variable {X : Cx} {Φ : Cl} [ok : ClOk Φ] {pos : Pos} {e a b c : Expr} {wa wb wc : WE} {M : Addr → Prop} {σ : L2.St} {H : Hp} {ρ : Ev}
def revD (n : Nat) : List D := (List.range n).map fun i => .int ((n : Int) - 1 - (i : Nat))
theorem gives_rev {M : Addr → Prop} {H : Hp} {n : Nat} : Gives Φ.K M H (Itc ((n : Int) - 1) (-1) n) (revD n) := by
  refine ⟨fun _ => True, YFn fun i => .int ((n : Int) - 1 + (i : Nat) * (-1)), ?_, fun M' H' S => trivial, fun i M' H' H2 v S y => ?_⟩
  · have e : (revD n).length = n := by unfold revD; rw [List.length_map, List.length_range]
    rw [e]; exact walk_rangeC
  · obtain ⟨e, y⟩ := y
    subst e; subst y
    refine ⟨Same.refl _, fun x hx => ?_⟩
    unfold revD at hx
    rw [List.getElem?_map] at hx
    cases h : (List.range n)[i]? with
    | none => rw [h] at hx; cases hx
    | some j =>
      rw [h] at hx
      have e1 := List.getElem?_eq_some_iff.mp h
      obtain ⟨h1, h2⟩ := e1
      rw [List.getElem_range] at h2
      subst h2
      cases hx
      show Rp Φ.K M' H2 (V.int ((n : Int) - 1 + ((i : Nat) : Int) * (-1))) (D.int ((n : Int) - 1 - (i : Nat)))
      rw [show ((n : Int) - 1 + ((i : Nat) : Int) * (-1)) = (n : Int) - 1 - (i : Nat) by omega]
      exact .int _
/-- reversed(range(n)) -/
def wRevRg (wa : WE) : WI := fun ρ Q => wa ρ fun x ρ' => match x with
  | .int j => (0 ≤ j ∧ j ≤ 1000) ∧ Q (revD j.toNat) ρ'
  | _ => False
theorem qi_revRg {tg : Expr} {p p2 pos2 : Pos} (hg : Gl X "reversed") (hm : X.mg "reversed" = none) (hg2 : Gl X "range") (hm2 : X.mg "range" = none) (ha : QE X Φ a wa)
    (na : starEach [.Call (.Name "range" p2) [a] [] pos2] X.env = (false, eval (.Call (.Name "range" p2) [a] [] pos2) X.env) :: starEach [] X.env := by rfl) (nb : starEach [a] X.env = (false, eval a X.env) :: starEach [] X.env := by rfl) :
    QI X Φ tg (.Call (.Name "reversed" p) [.Call (.Name "range" p2) [a] [] pos2] [] pos) (wRevRg wa) := by
  refine ⟨fun ρ Q Q' h q => ha.mono ρ _ _ (fun x ρ' q' => ?_) q, PIw (pi_revR hg hm (prg_1 hg2 hm2 ha.run nb) na) fun σ H R ⟨M, ρ, A, q⟩ => ?_⟩
  · cases x <;> first | exact q'.elim | exact ⟨q'.1, h _ _ q'.2⟩
  · refine ⟨M, ρ, A, ha.mono ρ _ _ (fun x ρ' q' => ?_) q⟩
    intro M' v H' A' S' r'
    cases x with
    | int j =>
      cases r'
      obtain ⟨hj, q2⟩ := q'
      have g := q2 M' H' (Itc (((j.toNat : Nat) : Int) - 1) (-1) j.toNat) A' S' gives_rev
      have e1 : (j - 0).toNat = j.toNat := by rw [Int.sub_zero]
      refine ⟨j, rfl, by decide, by decide, by omega, by omega, ?_⟩
      rw [e1, show (0 : Int) + ((j.toNat : Nat) : Int) - 1 = ((j.toNat : Nat) : Int) - 1 by omega]
      exact g
    | _ => exact q'.elim
/-- t[::-1] -/
def wRevT (wa : WE) : WE := fun ρ Q => wa ρ fun x ρ' => match x with
  | .tup xs => Q (.tup xs.reverse) ρ'
  | _ => False
theorem qe_revT {k : Nat} {p1 p2 p3 : Pos} (ha : QE X Φ a wa) : QE X Φ (.Subscript a (.Slice none none (some (.UnaryOp .USub (.Constant (.int 1) k p1) p2)) p3) pos) (wRevT wa) := by
  refine ⟨fun ρ Q Q' h q => ha.mono ρ _ _ (fun x ρ1 q1 => ?_) q, PEw (pe_revT ha.run) fun σ H Q ⟨M, ρ, A, q⟩ => ?_⟩
  · cases x <;> first | exact q1.elim | exact h _ _ q1
  · refine ⟨M, ρ, A, ha.mono ρ _ _ (fun x ρ1 q1 => ?_) q⟩
    intro M1 v H1 A1 S1 r1
    cases x with
    | tup xs =>
      obtain ⟨a, vs, rfl, hh, r⟩ := RpB.tup (.inl r1)
      refine ⟨a, vs, rfl, ?_, fun p hp => ?_⟩
      · exact SqT.of hh
      · have s := same_upd (o := .tup vs.reverse) hp
        exact q1 M1 _ _ (A1.same s) (S1.trans (step_same s)) (.tup upd_same (r.step (step_same s)).reverse)
    | _ => exact q1.elim
/-- x += e, of numbers -/
def wAugI (g : Int → Int → Int) (i : Nat) (wa : WE) : WS := fun R ρ => valE ρ[i]? fun x => match x with
  | .int a => wa ρ fun y ρ2 => match y with
    | .int b => R.nx (ρ2.set i (.d (.int (g a b))))
    | _ => False
  | _ => False
theorem qs_augI {i : Nat} {x : Str} {op : Operator} {g : Int → Int → Int} {pos' : Pos} (hN : X.N.Nodup) (hi : X.N[i]? = some x) (hx : Loc X.env.scope x) (ho : PIp X op (ipI g)) (he : QE X Φ e wa) (hf : X.fn x = true ∨ X.env.scope.names.lookup x = some .local := by first | exact .inl rfl | exact .inr rfl | assumption) :
    QS X Φ (.AugAssign (.Name x pos') op e pos) (wAugI g i wa) := by
  refine ⟨fun ρ R R' h q => valE_mono (fun x q => ?_) q, PSw (ps_aug hN hi hx he.run ho hf) fun D σ H ⟨M, ρ, A, q⟩ => ?_⟩
  · cases x with
    | int a =>
      refine he.mono ρ _ _ (fun y ρ2 q2 => ?_) q
      cases y <;> first | exact q2.elim | exact h.nx _ q2
    | _ => exact q.elim
  · obtain ⟨v, x, ev, rb, q⟩ := valE_rp A q
    cases x with
    | int a =>
      have e1 := rb.int
      subst e1
      refine ⟨.int a, ev, M, ρ, A, he.mono ρ _ _ (fun y ρ' q' => ?_) q⟩
      intro M' v' H' A' S' r'
      cases y with
      | int b =>
        cases r'
        exact ⟨a, b, rfl, rfl, q' M' _ H' (A'.store (.int _)) S'⟩
      | _ => exact q'.elim
    | _ => exact q.elim
end
end AL
set_option Elab.async false
set_option linter.all false
set_option maxRecDepth 100000
namespace AL
open PySem PySem.Spec PyProof.Rows L2
section
variable {X : Cx} {Φ : Cl} [ok : ClOk Φ] {pos : Pos} {e a b c : Expr} {wa wb wc : WE} {M : Addr → Prop} {σ : L2.St} {H : Hp} {ρ : Ev}
/-- xs[::-1] -/
def wRevL (wa : WE) : WA := fun ρ Q => wa ρ fun x ρ' => match x with
  | .lst xs => Q xs.reverse ρ'
  | _ => False
theorem qf_revL {k : Nat} {p1 p2 p3 : Pos} (ha : QE X Φ a wa) : QF X Φ (.Subscript a (.Slice none none (some (.UnaryOp .USub (.Constant (.int 1) k p1) p2)) p3) pos) (wRevL wa) := by
  refine ⟨fun ρ Q Q' h q => ha.mono ρ _ _ (fun x ρ1 q1 => ?_) q, PEw (pe_revL ha.run) fun σ H Q ⟨M, ρ, A, q⟩ => ?_⟩
  · cases x <;> first | exact q1.elim | exact h _ _ q1
  · refine ⟨M, ρ, A, ha.mono ρ _ _ (fun x ρ1 q1 => ?_) q⟩
    intro M1 v H1 A1 S1 r1
    cases x with
    | lst xs =>
      obtain ⟨a, vs, rfl, hh, r⟩ := RpB.lst (.inl r1)
      refine ⟨a, vs, rfl, SqL.of hh, fun p hp => ?_⟩
      obtain ⟨A2, S2, N2⟩ := A1.add hp r.reverse
      exact q1 _ p _ _ A2 (S1.trans S2) N2
    | _ => exact q1.elim
end
end AL
set_option Elab.async false
set_option linter.all false
set_option maxRecDepth 100000
set_option maxHeartbeats 4000000
/-! combinations(range(n), r) -/
namespace CMB
open PySem PySem.Spec PyProof.Rows L2
theorem slot_next : Slot "itertools.combinations" "__next__" "itertools.combinations.__next__" :=
  .of (owner := "itertools.combinations") (n := "__next__") (by rw [typeLookup_type, builtinLookup_eq_fast]; kernel_rfl) (by decide +kernel) (by decide +kernel) (by decide +kernel)
    (by first | exact .inl (by decide +kernel) | exact .inr (by decide +kernel)) (by rw [isSubtype_type]; kernel_rfl)
theorem slot_iter : Slot "itertools.combinations" "__iter__" "itertools.combinations.__iter__" :=
  .of (owner := "itertools.combinations") (n := "__iter__") (by rw [typeLookup_type, builtinLookup_eq_fast]; kernel_rfl) (by decide +kernel) (by decide +kernel) (by decide +kernel)
    (by first | exact .inl (by decide +kernel) | exact .inr (by decide +kernel)) (by rw [isSubtype_type]; kernel_rfl)
theorem slot_init : Slot "itertools.combinations" "__init__" "object.__init__" :=
  .of (owner := "object") (n := "__init__") (by rw [typeLookup_type, builtinLookup_eq_fast]; kernel_rfl) (by decide +kernel) (by decide +kernel) (by decide +kernel)
    (by first | exact .inl (by decide +kernel) | exact .inr (by decide +kernel)) (by rw [isSubtype_type]; kernel_rfl)
theorem owner_ : Manifest.owners.lookup (String.ofList ['s', 'n', 'o', 'i', 't', 'a', 'n', 'i', 'b', 'm', 'o', 'c', '.', 's', 'l', 'o', 'o', 't', 'r', 'e', 't', 'i'].reverse) = (Manifest.owners.lookup "itertools.combinations") := by kernel_rfl
theorem entry_next : entryFor table "itertools.combinations.__next__" = some Builtin.«itertools.combinations.__next__» := entryFor_of_tree (by kernel_rfl)
theorem entry_new : entryFor table "itertools.combinations.__new__" = some Builtin.«itertools.combinations.__new__» := entryFor_of_tree (by kernel_rfl)
theorem args_next (a : Value) : argsOk "itertools.combinations.__next__" ⟨[a], []⟩ := by
  unfold argsOk; kernel_rfl
theorem args_iter (a : Value) : argsOk "itertools.combinations.__iter__" ⟨[a], []⟩ := by
  unfold argsOk; kernel_rfl
theorem entry_iter : entryFor table "itertools.combinations.__iter__" = some Builtin.«dict_keyiterator.__iter__» :=
  entryFor_alias (id' := "dict_keyiterator.__iter__") (by kernel_rfl) (by first | rfl | decide +kernel | (unfold String.splitOn; simp +decide [String.splitOnAux])) (by decide +kernel) (by kernel_rfl)
theorem mro_ : mroOf (.type "itertools.combinations") = pure [.type "itertools.combinations", .type "object"] := by rw [mroOf_type]; kernel_rfl
theorem lookup_new : typeLookup (.type "itertools.combinations") "__new__" = pure (some (.builtin "itertools.combinations.__new__")) := by rw [typeLookup_type, builtinLookup_eq_fast]; kernel_rfl
theorem made_ : Bind.madeBy (.type "itertools.combinations") = pure (some "itertools.combinations.__new__") := madeBy_type mro_ lookup_new (by decide +kernel)
theorem typeCall_2 (a b : Value) : checkTypeCall "itertools.combinations" ⟨[a, b], []⟩ = pure () := by kernel_rfl
theorem newCall_2 (a b : Value) : checkBuiltinCall "itertools.combinations.__new__" ⟨[.type "itertools.combinations", a, b], []⟩ = pure () := by kernel_rfl
theorem plain_new : plainId "itertools.combinations.__new__" = true := by decide +kernel
theorem create_ : ((Manifest.find? "itertools.combinations").bind (·.mro.findSome? fun t => (Manifest.find? t).bind fun b => if b.noNew then some true else if b.attrs.any (·.1 == "__new__") then some false else none)).getD false = false := by decide +kernel
theorem sub_self : isSubtype (.type "itertools.combinations") (.type "itertools.combinations") = pure true := by rw [isSubtype_type]; kernel_rfl
theorem called_ : TypeCalled "itertools.combinations" "itertools.combinations.__new__" "object.__init__" := ⟨by decide +kernel, create_, ⟨_, _, mro_⟩, made_, plain_new, sub_self, slot_init⟩
end CMB
set_option Elab.async false
set_option linter.all false
set_option maxRecDepth 100000
set_option maxHeartbeats 4000000
namespace CMB
open PySem PySem.Spec PyProof.Rows L2
def cmbObj (t : Addr) (ph : Int) (last : Value) (ix : List Nat) : Obj := { cls := .type "itertools.combinations", data := .fields ([.ref t, rawInt ph, last] ++ ix.map fun (i : Nat) => rawInt i).toArray }
theorem new_meets {r : Addr} {n k : Nat} {t u v tk : Tok} (hn : n ≤ 1000) (hk : k ≤ 1000) (hsm : Builtin.Range.small 0 n 1 = true) (hrs : Builtin.Range.rangeSize 0 n 1 = n) :
    Meets (Builtin.«itertools.combinations.__new__» ⟨[.type "itertools.combinations", .ref r, .int (k : Int) tk], []⟩) (fun A R s => A.handled = none ∧ IsRange s.heap r 0 n 1 t u v ∧
      ∀ (h' : Heap) (tk' : Nat) (acc : Array Value), (∀ b o, s.heap.get? b = some o → h'.get? b = some o) → ItemsOf (fun i v => ∃ t, v = .int (0 + i * 1) t) acc n →
        R (.ok (.ret (.ref (h'.objs.size + 1)))) { s with heap := (h'.push { cls := .type "tuple", data := .seq acc.toList.toArray }).push (cmbObj h'.objs.size (if k > n then 2 else 0) .none (List.range k)), toks := tk' }) := by
  refine .of_wp fun prog w A R s hyp => ?_
  obtain ⟨hh, hr, hyp⟩ := hyp
  unfold Builtin.«itertools.combinations.__new__»
  refine wpAny_bind ?_
  wp_delta
  have hsub := sub_self
  wp_walk
  refine wpAny_of_eq (a := true) sub_self ?_
  dsimp only [Bool.not_true, Bool.false_eq_true, if_false]
  refine wpAny_pure ?_
  dsimp only
  refine wpAny_bind (wpAny_of_eq (a := [some (Value.ref r), some (Value.int (k : Int) tk)]) (by first | rfl | kernel_rfl) ?_)
  dsimp only
  wp_walk
  rw [if_neg (by rw [decide_eq_false (show ¬ (k : Int) < -2 ^ 63 by omega), decide_eq_false (show ¬ (k : Int) ≥ 2 ^ 63 by omega)]; exact Bool.false_ne_true)]
  refine wpAny_pure ?_
  refine wpAny_bind (collect_range hh hr hsm hrs (Nat.le_trans hn (by decide)) fun h' tk' acc kp it => ?_)
  have htm : ¬ (Builtin.Itertools.itTooMany (k : Int) = true) := by
    unfold Builtin.Itertools.itTooMany
    rw [decide_eq_false (show ¬ (k : Int) > 2 ^ 20 by omega)]
    exact Bool.false_ne_true
  rw [if_neg (show ¬ (k : Int) < 0 by omega), if_neg htm]
  have hl : acc.toList.length = n := by rw [Array.length_toList]; exact it.1
  have fin := hyp h' tk' acc kp it
  refine wpAny_bind ?_
  unfold newTuple
  refine wpAny_newObj_type ?_ (by show acc.toList.toArray.size ≤ sizeLine; rw [List.size_toArray, hl, sizeLine_eq]; omega)
  refine wpAny_pure ?_
  dsimp only
  refine wpAny_bind ?_
  rw [hl, Int.toNat_natCast]
  unfold Builtin.Itertools.itNewRecord
  have htd : (!typeHasDict (Value.type "itertools.combinations")) = true := by kernel_rfl
  rw [if_pos htd]
  refine wpAny_newObj_type ?_ (by
    show ([Value.ref h'.objs.size, rawInt (if k > n then 2 else 0), Value.none] ++ List.map (fun (i : Nat) => rawInt i) (List.range k)).toArray.size ≤ sizeLine + 2
    rw [List.size_toArray, List.length_append, List.length_map, List.length_range, sizeLine_eq]
    show 3 + k ≤ _
    omega)
  unfold cmbObj at fin
  exact wpAny_pure ⟨_, rfl, by
    rw [show (h'.push { cls := Value.type "tuple", data := Data.seq acc.toList.toArray }).objs.size = h'.objs.size + 1 from Heap.size_push ..]
    exact fin⟩
theorem call_new {prog : Program} {w : World} {A : Around} {E : Value → Shared → Prop} {s : Shared} {Q : Value → Shared → Prop} {r : Addr} {n k : Nat} {t u v tk : Tok} (hn : n ≤ 1000) (hk : k ≤ 1000) (hsm : Builtin.Range.small 0 n 1 = true) (hrs : Builtin.Range.rangeSize 0 n 1 = n)
    (hh : A.in1.handled = none) (hr : IsRange s.heap r 0 n 1 t u v)
    (go : ∀ (h' : Heap) (tk' : Nat) (acc : Array Value), (∀ b o, s.heap.get? b = some o → h'.get? b = some o) → ItemsOf (fun i v => ∃ t, v = .int (0 + i * 1) t) acc n →
      Q (.ref (h'.objs.size + 1)) { s with heap := (h'.push { cls := .type "tuple", data := .seq acc.toList.toArray }).push (cmbObj h'.objs.size (if k > n then 2 else 0) .none (List.range k)), toks := tk' }) :
    wpAny (model prog w) A (call (.type "itertools.combinations") [.ref r, .int (k : Int) tk]) Q E s := by
  refine callType_new called_ (by decide) (typeCall_2 _ _) (newCall_2 _ _) (fun obj => by unfold argsOk; kernel_rfl) entry_new (new_meets hn hk hsm hrs) ⟨hh, hr, fun h' tk' acc kp it => ?_⟩
  have hz : (h'.push { cls := .type "tuple", data := .seq acc.toList.toArray }).objs.size = h'.objs.size + 1 := Heap.size_push ..
  refine ⟨⟨cmbObj h'.objs.size (if k > n then 2 else 0) .none (List.range k), ?_, rfl⟩, go h' tk' acc kp it⟩
  rw [← hz]
  exact Heap.get?_push_size _ rfl
end CMB
set_option Elab.async false
set_option linter.all false
set_option maxRecDepth 100000
set_option maxHeartbeats 4000000
namespace CMB
open PySem PySem.Spec PyProof.Rows L2
/-- the numbers that come next -/
def nextC (m : Nat) (js : List Nat) : Option (List Nat) :=
  match List.find? (fun q => bne (js.getD q 0) (q + m - js.length)) (List.range js.length).reverse with
  | none => none
  | some q => some (List.take q js ++ List.map (fun z => js.getD q 0 + 1 + z) (List.range (js.length - q)))
def cmbData (t : Addr) (ph : Int) (last : Value) (ix : List Nat) : Data := .fields ([.ref t, rawInt ph, last] ++ ix.map fun (i : Nat) => rawInt i).toArray
/-- combinations of t's items, how it stands -/
def IsCmb (h : Heap) (a t : Addr) (ph : Int) (last : Value) (ix : List Nat) : Prop := ∃ o, h.get? a = some o ∧ o.cls = .type "itertools.combinations" ∧ o.data = cmbData t ph last ix
section
variable {prog : Program} {w : World} {A : Around} {E : Value → Shared → Prop} {s : Shared}
theorem IsCmb.typeIs {a t : Addr} {ph : Int} {last : Value} {ix : List Nat} (x : IsCmb s.heap a t ph last ix) : s.TypeIs (.ref a) "itertools.combinations" := let ⟨o, ho, hc, _⟩ := x; ⟨o, ho, hc⟩
theorem ints_back (ix : List Nat) : (ix.map fun (i : Nat) => rawInt i).map (fun | .int n _ => n.toNat | _ => 0) = ix := by
  rw [List.map_map]
  conv => rhs; rw [← List.map_id ix]
  refine List.map_congr_left fun i _ => ?_
  show ((i : Nat) : Int).toNat = i
  exact Int.toNat_natCast i
theorem numbers_ {a : Addr} {o : Obj} {x y z : Value} {ix : List Nat} {Q : List Nat → Shared → Prop} (ho : s.heap.get? a = some o) (hd : o.data = .fields ([x, y, z] ++ ix.map fun (i : Nat) => rawInt i).toArray) (h : Q ix s) :
    wpAny (model prog w) A (Builtin.Itertools.itNumbersFrom (.ref a) 3) Q E s := by
  unfold Builtin.Itertools.itNumbersFrom
  dsimp only
  refine wpAny_bind (wpAny_load ho ?_)
  rw [hd]
  refine wpAny_pure ?_
  have e : (([x, y, z] ++ ix.map fun (i : Nat) => rawInt i).toArray.toList.drop 3) = ix.map fun (i : Nat) => rawInt i := rfl
  rw [e]
  rw [← ints_back ix] at h
  exact h
theorem pool_ {t : Addr} {items : Array Value} {Q : Array Value → Shared → Prop} (ht : IsTup s.heap t items) (h : Q items s) : wpAny (model prog w) A (Builtin.Itertools.itPoolItems (.ref t)) Q E s := by
  obtain ⟨o, ho, hc, n, hd⟩ := ht
  unfold Builtin.Itertools.itPoolItems
  refine wpAny_bind (wpAny_seqItems ho hd ?_)
  exact wpAny_pure h
theorem hand_ {it t : Addr} {ph : Int} {last : Value} {ix jx : List Nat} {items : Array Value} {o : Obj} {Qf : Fin → Shared → Prop} (ho : s.heap.get? it = some o) (hc : o.cls = .type "itertools.combinations") (hd : o.data = cmbData t ph last ix) (ht : IsTup s.heap t items) (hsz : jx.length ≤ 1000)
    (h : ∀ h', IsCmb h' it t ph (.ref s.heap.objs.size) ix → IsTup h' s.heap.objs.size (jx.map fun i => items.getD i .none).toArray → (∀ b ob, b ≠ it → s.heap.get? b = some ob → h'.get? b = some ob) → Qf (.done (.ret (.ref s.heap.objs.size))) { s with heap := h' }) :
    wpAny (model prog w) A (Builtin.Itertools.itPoolItems (.ref t) >>= fun items => newTuple (jx.map fun i => items.getD i .none)) (fun a s' => wpAny (model prog w) A (field (.ref it) 2 >>= fun before => setField (.ref it) 2 a >>= fun _ => letGo [before] [a] >>= fun _ => ret a) Qf E s') E s := by
  unfold cmbData at hd
  refine wpAny_bind (pool_ ht ?_)
  unfold newTuple
  refine wpAny_newObj_type ?_ (by show (jx.map fun i => items.getD i .none).toArray.size ≤ sizeLine; rw [List.size_toArray, List.length_map, sizeLine_eq]; omega)
  have hlt : it < s.heap.objs.size := Heap.lt_size ho
  have ho1 := Heap.get?_push_of_some (o := { cls := .type "tuple", data := .seq (jx.map fun i => items.getD i .none).toArray }) ho
  refine wpAny_bind (wpAny_field ho1 hd (x := last) rfl ?_)
  refine wpAny_bind (wpAny_setField ho1 hd (by simp) ?_)
  refine wpAny_bind (wpAny_letGo ?_)
  refine wpAny_pure (h _ ⟨_, Heap.get?_update_self _ ho1 (Obj.isFreed_of_fields (Obj.data_mapFields hd _)), (Obj.cls_mapFields ..).trans hc, ?_⟩ ?_ fun b ob hb e => ?_)
  · rw [Obj.data_mapFields hd]; unfold cmbData; simp
  · exact ⟨_, (Heap.get?_update_other _ _ (Nat.ne_of_gt hlt).symm).trans (Heap.get?_push_size _ rfl), rfl, _, rfl⟩
  · exact (Heap.get?_update_other _ _ (Ne.symm hb)).trans (Heap.get?_push_of_some _ e)
theorem next_first {it t : Addr} {last : Value} {ix : List Nat} {items : Array Value} {Q : Option Value → Shared → Prop} (hit : IsCmb s.heap it t 0 last ix) (ht : IsTup s.heap t items) (hsz : ix.length ≤ 1000)
    (hQ : ∀ h', IsCmb h' it t 1 (.ref s.heap.objs.size) ix → IsTup h' s.heap.objs.size (ix.map fun i => items.getD i .none).toArray → (∀ b o, b ≠ it → s.heap.get? b = some o → h'.get? b = some o) → Q (some (.ref s.heap.objs.size)) { s with heap := h' }) :
    wpAny (model prog w) A (pyNext (.ref it)) Q E s := by
  obtain ⟨o, ho, hc, hd⟩ := id hit
  unfold cmbData at hd
  unfold pyNext
  refine wpAny_bind (wpAny_attempt (wpAny_callSpecial?_slot (name := Str.ofString "__next__") hit.typeIs slot_next (wpAny_call_entry slot_next hit.typeIs entry_next ?_ (args_next _))))
  unfold Builtin.«itertools.combinations.__next__»
  wp_delta
  refine wpAny_bind (wpAny_of_eq (a := (Value.ref it, [])) rfl ?_)
  try dsimp only
  refine wpAny_bind (wpAny_field ho hd (x := .ref t) rfl ?_)
  try dsimp only
  refine wpAny_bind (numbers_ ho hd ?_)
  unfold Builtin.Itertools.itIntField
  refine wpAny_bind (wpAny_bind (wpAny_field ho hd (x := rawInt 0) rfl ?_))
  try dsimp only
  refine wpAny_pure ?_
  try dsimp only
  show wpAny _ _ (setField (Value.ref it) 1 (rawInt 1) >>= _) _ _ s
  refine wpAny_bind (wpAny_setField ho hd (by simp) ?_)
  have hd2 : (Obj.mapFields (·.setIfInBounds 1 (rawInt 1)) o).data = cmbData t 1 last ix := by
    rw [Obj.data_mapFields hd]; unfold cmbData; simp
  have ho2 := Heap.get?_update_self (Obj.mapFields (·.setIfInBounds 1 (rawInt 1))) ho (Obj.isFreed_of_fields (Obj.data_mapFields hd _))
  have hlt : t ≠ it := fun e => by
    obtain ⟨ot, hot, hct, _⟩ := ht
    rw [e, ho] at hot
    cases hot
    rw [hc] at hct
    exact absurd hct (by decide)
  have ht2 : IsTup (s.heap.update it (Obj.mapFields (·.setIfInBounds 1 (rawInt 1)))) t items := by
    obtain ⟨ot, hot, r⟩ := ht
    exact ⟨ot, (Heap.get?_update_other _ _ (Ne.symm hlt)).trans hot, r⟩
  have hsize : (s.heap.update it (Obj.mapFields (·.setIfInBounds 1 (rawInt 1)))).objs.size = s.heap.objs.size := Heap.size_update ..
  refine wpAny_bind ?_
  wp_delta
  refine hand_ (s := { s with heap := s.heap.update it (Obj.mapFields (·.setIfInBounds 1 (rawInt 1))) }) ho2 ((Obj.cls_mapFields ..).trans hc) hd2 ht2 hsz fun h' g1 g2 g3 => ⟨_, rfl, wpAny_pure ?_⟩
  have fin := hQ h' (by rw [← hsize]; exact g1) (by rw [← hsize]; exact g2) fun b ob hb e => g3 b ob hb ((Heap.get?_update_other _ _ (Ne.symm hb)).trans e)
  rw [← hsize] at fin
  exact fin
theorem set_numbers {it : Addr} {x y z : Value} {ix jx : List Nat} {o : Obj} {Q : Unit → Shared → Prop} (hj : jx.length ≤ 1000) (ho : s.heap.get? it = some o) (hd : o.data = .fields ([x, y, z] ++ ix.map fun (i : Nat) => rawInt i).toArray)
    (h : ∀ h' o', h'.get? it = some o' → o'.cls = o.cls → o'.data = .fields ([x, y, z] ++ jx.map fun (i : Nat) => rawInt i).toArray → h'.objs.size = s.heap.objs.size → (∀ b ob, b ≠ it → s.heap.get? b = some ob → h'.get? b = some ob) → Q () { s with heap := h' }) :
    wpAny (model prog w) A (Builtin.Itertools.itSetNumbersFrom (.ref it) 3 jx) Q E s := by
  unfold Builtin.Itertools.itSetNumbersFrom
  dsimp only
  have he : (([x, y, z] ++ ix.map fun (i : Nat) => rawInt i).toArray.extract 0 3 ++ (jx.map fun (n : Nat) => rawInt n).toArray) = ([x, y, z] ++ jx.map fun (i : Nat) => rawInt i).toArray := by simp
  refine wpAny_updateFields ho hd ?_ (by rw [he, List.size_toArray, List.length_append, List.length_map, sizeLine_eq]; show 3 + jx.length ≤ _; omega)
  refine h _ _ (Heap.get?_update_self _ ho (Obj.isFreed_of_fields (Obj.data_mapFields hd _))) (Obj.cls_mapFields ..) ?_ (Heap.size_update ..) fun b ob hb e => (Heap.get?_update_other _ _ (Ne.symm hb)).trans e
  rw [Obj.data_mapFields hd]
  exact congrArg Data.fields he
theorem next_more {it t : Addr} {last : Value} {ix jx : List Nat} {items : Array Value} {Q : Option Value → Shared → Prop} (hit : IsCmb s.heap it t 1 last ix) (ht : IsTup s.heap t items) (hn : nextC items.size ix = some jx) (hsz : jx.length ≤ 1000)
    (hQ : ∀ h', IsCmb h' it t 1 (.ref s.heap.objs.size) jx → IsTup h' s.heap.objs.size (jx.map fun i => items.getD i .none).toArray → (∀ b o, b ≠ it → s.heap.get? b = some o → h'.get? b = some o) → Q (some (.ref s.heap.objs.size)) { s with heap := h' }) :
    wpAny (model prog w) A (pyNext (.ref it)) Q E s := by
  obtain ⟨o, ho, hc, hd⟩ := id hit
  have hd0 := hd
  unfold cmbData at hd
  have hlt : t ≠ it := fun e => by
    obtain ⟨ot, hot, hct, _⟩ := ht
    rw [e, ho] at hot
    cases hot
    rw [hc] at hct
    exact absurd hct (by decide)
  unfold pyNext
  refine wpAny_bind (wpAny_attempt (wpAny_callSpecial?_slot (name := Str.ofString "__next__") hit.typeIs slot_next (wpAny_call_entry slot_next hit.typeIs entry_next ?_ (args_next _))))
  unfold Builtin.«itertools.combinations.__next__»
  wp_delta
  refine wpAny_bind (wpAny_of_eq (a := (Value.ref it, [])) rfl ?_)
  try dsimp only
  refine wpAny_bind (wpAny_field ho hd (x := .ref t) rfl ?_)
  try dsimp only
  refine wpAny_bind (numbers_ ho hd ?_)
  unfold Builtin.Itertools.itIntField
  refine wpAny_bind (wpAny_bind (wpAny_field ho hd (x := rawInt 1) rfl ?_))
  try dsimp only
  refine wpAny_pure ?_
  try dsimp only
  show wpAny _ _ (Builtin.Itertools.itPoolItems (Value.ref t) >>= _) _ _ s
  refine wpAny_bind (pool_ ht ?_)
  show wpAny _ _ (match nextC items.size ix with | some next => _ | none => _) _ _ s
  rw [hn]
  refine wpAny_bind (set_numbers hsz ho hd fun h1 o1 ho1 hc1 hd1 hs1 k1 => ?_)
  have ht2 : IsTup h1 t items := by
    obtain ⟨ot, hot, r⟩ := ht
    exact ⟨ot, k1 t ot hlt hot, r⟩
  refine wpAny_bind ?_
  wp_delta
  refine hand_ (s := { s with heap := h1 }) (ph := 1) (last := last) (ix := jx) ho1 (hc1.trans hc) hd1 ht2 hsz fun h' g1 g2 g3 => ⟨_, rfl, wpAny_pure ?_⟩
  have fin := hQ h' (by rw [← hs1]; exact g1) (by rw [← hs1]; exact g2) fun b ob hb e => g3 b ob hb (k1 b ob hb e)
  rw [← hs1] at fin
  exact fin
theorem stop_ {it : Addr} {Q : Option Value → Shared → Prop} {Qf : Fin → Shared → Prop} (hh : A.in1.handled = none) (hQ : ∀ h', Heap.ExtBut it s.heap h' → Q none { s with heap := h' }) :
    wpAny (model prog w) A.in1 (Builtin.Itertools.itStop) Qf (fun e s' => wpAny (model prog w) A (isInstance e (Value.type "StopIteration") >>= fun b => if b = true then pure none else throw e) Q E s') s := by
  unfold Builtin.Itertools.itStop
  refine wpAny_bind ?_
  simp only [newExc, newTuple]
  refine wpAny_bind (wpAny_newObj_type ?_ (by size_fits))
  refine wpAny_bind (m := firstArgMember _ _) (wpAny_of_eq (a := Value.none) (by first | rfl | (simp only [firstArgMember]; rfl)) ?_)
  refine wpAny_newObj_type ?_ (by size_fits)
  simp only [raiseNew]
  refine wpAny_bind (wpAny_handled ?_)
  rw [hh]
  refine wpAny_bind (wpAny_pure (wpAny_throw ?_))
  refine wpAny_bind (wpAny_isInstance (T := "StopIteration") (b := true) ⟨_, Heap.get?_push_size _ rfl, rfl⟩ isSubtype_stop ?_)
  refine wpAny_pure (hQ _ ?_)
  have e0 : Heap.ExtBut it s.heap s.heap := fun b ob _ e => e
  exact (e0.push _).push _
theorem next_end {it t : Addr} {ph : Int} {last : Value} {ix : List Nat} {items : Array Value} {Q : Option Value → Shared → Prop} (hh : A.in1.handled = none) (hit : IsCmb s.heap it t ph last ix) (ht : IsTup s.heap t items) (hn : (ph = 1 ∧ nextC items.size ix = none) ∨ ph = 2)
    (hQ : ∀ h', Heap.ExtBut it s.heap h' → Q none { s with heap := h' }) : wpAny (model prog w) A (pyNext (.ref it)) Q E s := by
  obtain ⟨o, ho, hc, hd⟩ := id hit
  unfold cmbData at hd
  unfold pyNext
  refine wpAny_bind (wpAny_attempt (wpAny_callSpecial?_slot (name := Str.ofString "__next__") hit.typeIs slot_next (wpAny_call_entry slot_next hit.typeIs entry_next ?_ (args_next _))))
  unfold Builtin.«itertools.combinations.__next__»
  wp_delta
  refine wpAny_bind (wpAny_of_eq (a := (Value.ref it, [])) rfl ?_)
  try dsimp only
  refine wpAny_bind (wpAny_field ho hd (x := .ref t) rfl ?_)
  try dsimp only
  refine wpAny_bind (numbers_ ho hd ?_)
  unfold Builtin.Itertools.itIntField
  rcases hn with ⟨rfl, hn⟩ | rfl
  · refine wpAny_bind (wpAny_bind (wpAny_field ho hd (x := rawInt 1) rfl ?_))
    try dsimp only
    refine wpAny_pure ?_
    try dsimp only
    show wpAny _ _ (Builtin.Itertools.itPoolItems (Value.ref t) >>= _) _ _ s
    refine wpAny_bind (pool_ ht ?_)
    show wpAny _ _ (match nextC items.size ix with | some next => _ | none => _) _ _ s
    rw [hn]
    refine wpAny_bind (wpAny_setField ho hd (by simp) ?_)
    refine stop_ (s := { s with heap := s.heap.update it (Obj.mapFields (·.setIfInBounds 1 (rawInt 2))) }) hh fun h' eb => hQ h' fun b ob hb e => eb b ob hb ((Heap.get?_update_other _ _ (Ne.symm hb)).trans e)
  · refine wpAny_bind (wpAny_bind (wpAny_field ho hd (x := rawInt 2) rfl ?_))
    try dsimp only
    refine wpAny_pure ?_
    try dsimp only
    show wpAny _ _ (rule _ >>= _) _ _ s
    refine wpAny_bind (wpAny_rule ?_)
    exact stop_ hh hQ
end
end CMB
set_option Elab.async false
set_option linter.all false
set_option maxRecDepth 100000
set_option maxHeartbeats 4000000
namespace CMB
open PySem PySem.Spec PyProof.Rows L2
/-- the numbers of the i-th -/
def seqC (n k : Nat) : Nat → Option (List Nat)
  | 0 => if k > n then none else some (List.range k)
  | i + 1 => (seqC n k i).bind (nextC n)
def ItC (n k : Nat) : It where
  go := fun i H => ∃ ix, seqC n k i = some ix ∧ ix.length ≤ 1000 ∧ ∀ x ∈ ix, x < n
  yld := fun i H v H' => ∃ T ix, v = .ref T ∧ H T = none ∧ H' = upd H T (.tup (ix.map fun (x : Nat) => V.int x)) ∧ seqC n k i = some ix
  stop := fun i H => seqC n k i = none
def PoolOk (h : Heap) (t : Addr) (n : Nat) : Prop := ∃ items : Array Value, IsTup h t items ∧ items.size = n ∧ ∀ j, j < n → ∃ tk, items[j]? = some (.int (j : Int) tk)
def CTn (n k : Nat) (it t : Addr) : Nat → Heap → Prop
  | 0, h => PoolOk h t n ∧ t ≠ it ∧ ((∃ ix last, seqC n k 0 = some ix ∧ IsCmb h it t 0 last ix) ∨ (seqC n k 0 = none ∧ ∃ ix last, IsCmb h it t 2 last ix))
  | i + 1, h => PoolOk h t n ∧ t ≠ it ∧ ∃ ix last, seqC n k i = some ix ∧ IsCmb h it t 1 last ix
theorem IsCmb.at {h h' : Heap} {a t : Addr} {ph : Int} {last : Value} {ix : List Nat} (x : IsCmb h a t ph last ix) (e : ∀ o, h.get? a = some o → h'.get? a = some o) : IsCmb h' a t ph last ix := let ⟨o, ho, r⟩ := x; ⟨o, e _ ho, r⟩
theorem PoolOk.at {h h' : Heap} {t : Addr} {n : Nat} (x : PoolOk h t n) (e : ∀ o, h.get? t = some o → h'.get? t = some o) : PoolOk h' t n := let ⟨its, ⟨o, ho, r⟩, q⟩ := x; ⟨its, ⟨o, e _ ho, r⟩, q⟩
theorem CTn.pool {n k : Nat} {it t : Addr} : ∀ {i : Nat} {h : Heap}, CTn n k it t i h → PoolOk h t n ∧ t ≠ it ∧ ∃ ph last ix, IsCmb h it t ph last ix
  | 0, h, ⟨a, b, c⟩ => ⟨a, b, c.elim (fun ⟨ix, last, _, z⟩ => ⟨_, _, _, z⟩) fun ⟨_, ix, last, z⟩ => ⟨_, _, _, z⟩⟩
  | _ + 1, h, ⟨a, b, ix, last, _, z⟩ => ⟨a, b, _, _, _, z⟩
theorem vals_pick {n : Nat} {items : Array Value} (hi : ∀ j, j < n → ∃ tk, items[j]? = some (.int (j : Int) tk)) : ∀ (ix : List Nat), (∀ x ∈ ix, x < n) → Vals (ix.map fun (x : Nat) => V.int x) (ix.map fun i => items.getD i .none)
  | [], _ => .nil
  | x :: r, h => by
    obtain ⟨tk, e⟩ := hi x (h x List.mem_cons_self)
    have e2 : items.getD x .none = .int (x : Int) tk := by
      rw [Array.getD_eq_getD_getElem?, e]; rfl
    rw [List.map_cons, List.map_cons, e2]
    exact .cons ⟨tk, rfl⟩ (vals_pick hi r fun y hy => h y (List.mem_cons_of_mem _ hy))
theorem iter_ {A : Around} {prog : Program} {w : World} {E : Value → Shared → Prop} {s : Shared} {it t : Addr} {ph : Int} {last : Value} {ix : List Nat} {Q : Value → Shared → Prop} (hit : IsCmb s.heap it t ph last ix) (h : Q (.ref it) s) : wpAny (model prog w) A (pyIter (.ref it)) Q E s := by
  refine wpAny_pyIter_slot hit.typeIs slot_iter (wpAny_call_entry slot_iter hit.typeIs entry_iter ?_ (args_iter _))
  show wpAny _ _ (ret (.ref it)) _ _ s
  exact wpAny_pure ⟨_, rfl, "itertools.combinations", _, hit.typeIs, slot_next.lookup, h⟩
theorem turn_comb {P : Program} {w : World} {K : PySem.W.Frag} {tg : Expr} (n k : Nat) (it t : Addr) : Turn P w K tg (ItC n k) [it, t] it (CTn n k it t) where
  mem := by simp
  obj := fun i h st b hb => by
    obtain ⟨⟨items, ⟨ot, hot, hct, nn, hdt⟩, _⟩, hne, ph, last, ix, o, ho, hc, hd⟩ := st.pool
    rcases (show b = it ∨ b = t by simpa using hb) with rfl | rfl
    · exact ⟨o, ho, fun v q => by rw [hd] at q; cases q⟩
    · exact ⟨ot, hot, fun v q => by rw [hdt] at q; cases q⟩
  keep := fun i h h' st kp => by
    have k1 : ∀ o, h.get? it = some o → h'.get? it = some o := fun o => kp it (by simp) o
    have k2 : ∀ o, h.get? t = some o → h'.get? t = some o := fun o => kp t (by simp) o
    cases i with
    | zero =>
      obtain ⟨a, b, c⟩ := st
      exact ⟨a.at k2, b, c.elim (fun ⟨ix, last, e, z⟩ => .inl ⟨ix, last, e, z.at k1⟩) fun ⟨e, ix, last, z⟩ => .inr ⟨e, ix, last, z.at k1⟩⟩
    | succ i =>
      obtain ⟨a, b, ix, last, e, z⟩ := st
      exact ⟨a.at k2, b, ix, last, e, z.at k1⟩
  item := by
    intro X hP hw hK hc i pins s σ H E I hf st hg
    subst hP hw hK
    obtain ⟨ix, hix, hlen, hlt⟩ := hg
    obtain ⟨po, hne, _⟩ := st.pool
    have po' := po
    obtain ⟨items, tp, hsz, hi⟩ := po
    have fin : ∀ h', IsCmb h' it t 1 (.ref s.heap.objs.size) ix → IsTup h' s.heap.objs.size (ix.map fun i => items.getD i .none).toArray → (∀ b o, b ≠ it → s.heap.get? b = some o → h'.get? b = some o) →
        ∃ u, some (Value.ref s.heap.objs.size) = some u ∧ wpAny (model X.prog X.w) X.A (letOwnedTupleGo tg (.ref it) u) (fun _ s2 => ∃ x H', Inv X pins σ H' s2 ∧ RelV x u ∧ (ItC n k).yld i H x H' ∧ CTn n k it t (i + 1) s2.heap ∧ ∀ b ∈ [it, t], H' b = none) E { s with heap := h' } := by
      intro h' g1 g2 g3
      obtain ⟨o', ho', hc', hd'⟩ := id g1
      refine ⟨_, rfl, go_of ho' hc' hd' (by decide) ?_⟩
      have new : ObjOk X.prog X.w (upd H s.heap.objs.size (.tup (ix.map fun (x : Nat) => V.int x))) h' s.heap.objs.size (.tup (ix.map fun (x : Nat) => V.int x)) := by
        refine ⟨by rw [List.length_map, sizeLine_eq]; omega, _, vals_pick hi ix hlt, ?_⟩
        exact g2
      have I1 := I.turnedNew (h' := h') (t' := s.toks) (ch := [it, t]) (fun b ob hb q => g3 b ob (fun z => hb (by simp [z])) q) hf (Nat.le_refl _) new
      have hil : it < s.heap.objs.size := by
        obtain ⟨_, _, _, _, _, o, ho, _⟩ := st.pool
        exact Heap.lt_size ho
      have htl : t < s.heap.objs.size := let ⟨_, ho, _⟩ := tp; Heap.lt_size ho
      refine ⟨.ref s.heap.objs.size, _, I1, rfl, ⟨_, ix, rfl, I.hok.fresh (Nat.le_refl _), rfl, hix⟩, ⟨po'.at fun o q => g3 t o hne q, hne, ix, _, hix, g1⟩, fun b hb => ?_⟩
      have hb' : b < s.heap.objs.size := by
        rcases (show b = it ∨ b = t by simpa using hb) with rfl | rfl
        · exact hil
        · exact htl
      rw [upd_ne (Nat.ne_of_lt hb')]
      exact (hf b hb).1
    cases i with
    | zero =>
      obtain ⟨_, _, c⟩ := st
      rcases c with ⟨jx, last, e, z⟩ | ⟨e, _⟩
      · rw [hix] at e
        cases e
        exact next_first z tp hlen fin
      · rw [hix] at e; cases e
    | succ i =>
      obtain ⟨_, _, jx, last, e, z⟩ := st
      have hn : nextC items.size jx = some ix := by
        have : (seqC n k i).bind (nextC n) = some ix := hix
        rw [e] at this
        rw [hsz]; exact this
      exact next_more z tp hn hlen fin
  done := by
    intro X hP hw hK hc i pins s σ H E I hf st hg
    subst hP hw hK
    obtain ⟨⟨items, tp, hsz, hi⟩, hne, _⟩ := st.pool
    obtain ⟨f0, f1, f2, f3, f4, f5⟩ := hf it (by simp)
    have hh : X.A.in1.handled = none := I.ok.hd hc
    have fin : ∀ h', Heap.ExtBut it s.heap h' → (none : Option Value) = none ∧ Inv X pins σ H { s with heap := h' } := fun h' eb => ⟨rfl, I.turned (t' := s.toks) (fun b o hb q => eb b o hb q) f0 f1 f3 f4 f5⟩
    cases i with
    | zero =>
      obtain ⟨_, _, c⟩ := st
      rcases c with ⟨jx, last, e, z⟩ | ⟨e, jx, last, z⟩
      · have : seqC n k 0 = none := hg
        rw [e] at this; cases this
      · exact next_end hh z tp (.inr rfl) fin
    | succ i =>
      obtain ⟨_, _, jx, last, e, z⟩ := st
      have hn : nextC items.size jx = none := by
        have : (seqC n k i).bind (nextC n) = none := hg
        rw [e] at this
        rw [hsz]; exact this
      exact next_end hh z tp (.inl ⟨rfl, hn⟩) fin
  self := fun A i s Q E st h => let ⟨_, _, _, _, _, z⟩ := st.pool; iter_ z h
end CMB
set_option Elab.async false
set_option linter.all false
set_option maxRecDepth 100000
set_option maxHeartbeats 4000000
namespace CMB
open PySem PySem.Spec PyProof.Rows L2
section
variable {X : Cx} {a b e : Expr} {ta tb : TE}
/-- an expression that makes a range, a new one -/
def PRgF (X : Cx) (e : Expr) (t : L2.St → Hp → (Int → Int → Hp → Prop) → Prop) : Prop :=
  ∀ (pins : List (Addr × Obj)) (s : Shared) (σ : L2.St) (H : Hp) (Q : Int → Int → Hp → Prop), Inv X pins σ H s → t σ H Q →
    wpAny (model X.prog X.w) X.A (eval e X.env) (fun x s' => ∃ r i j t u v H', x = .ref r ∧ IsRange s'.heap r i j 1 t u v ∧ Inv X pins σ H' s' ∧ FpOk X pins H' r ∧ Q i j H') X.xe s
theorem prgF_1 {p pos : Pos} (hg : Gl X "range") (hm : X.mg "range" = none) (ha : PE X a ta) (na : starEach [a] X.env = (false, eval a X.env) :: starEach [] X.env := by rfl) : PRgF X (.Call (.Name "range" p) [a] [] pos) (tRg1 ta) := by
  intro pins s σ H Q I h
  refine Call_ (ld_blt I hg hm boot_range (PyProof.Rows.callWith_type1 (one_arg ha I h (fun v s2 x H2 I2 r q => ?_) na) na))
  obtain ⟨n, rfl, q⟩ := q
  obtain ⟨t, rfl⟩ := r
  exact call_range_1 ⟨_, 0, n, _, _, _, H2, rfl, IsRange.new _ _ _ _ _ _ _, I2.kept fun b u e => Heap.get?_push_of_some _ e, I2.fpOk (Nat.le_refl _) (I2.hok.fresh (Nat.le_refl _)), q⟩
def iComb (tr : L2.St → Hp → (Int → Int → Hp → Prop) → Prop) (tb : TE) : TI := fun σ H R => tr σ H fun i j H1 => tb σ H1 fun y H2 => ∃ n k : Nat, i = 0 ∧ j = n ∧ y = .int k ∧ n ≤ 1000 ∧ k ≤ 1000 ∧ R (ItC n k) H2
theorem pi_comb {tg : Expr} {x : Str} {tr : L2.St → Hp → (Int → Int → Hp → Prop) → Prop} {p pos : Pos} (hc : X.calm = true) (hg : Gl X x) (hm : X.mg x = some (.type "itertools.combinations")) (he : PRgF X e tr) (hb : PE X b tb)
    (na : starEach [e, b] X.env = (false, eval e X.env) :: starEach [b] X.env := by rfl) (nb : starEach [b] X.env = (false, eval b X.env) :: starEach [] X.env := by rfl) (hp : (backTo pos (starEach [b] X.env)).any (·.1) = false := by rfl) (hd : (x == ("__debug__" : Str)) = false := by decide) (hcd : (x == ("__classdict__" : Str)) = false := by decide) :
    PI X tg (.Call (.Name x p) [e, b] [] pos) (iComb tr tb) := by
  refine ⟨fun pins s σ H R I h => ?_⟩
  refine Call_ (ld_glob I hg hm (PyProof.Rows.callWith_type1 (args_cons (thn (he pins s σ H _ I h) fun x s1 ⟨r, i, j, t, u, v, H1, ex, hr, I1, fp, q1⟩ => ?_) na) na hp) hd)
  subst ex
  have hro : ∀ b ∈ [r], ∃ o, s1.heap.get? b = some o ∧ ∀ v, o.data ≠ .cell v := fun b hb => by
    rw [List.mem_singleton.mp hb]
    exact ⟨_, hr, fun v q => nomatch q⟩
  have Ip := I1.pinned (fp := [r]) (fun b hb => by rw [List.mem_singleton.mp hb]; exact fp) hro
  refine args_cons (thn (hb.run _ s1 σ H1 _ Ip q1) fun w s2 ⟨y, H2, I2, ry, q2⟩ => args_nil ?_) nb
  obtain ⟨n, k, rfl, rfl, rfl, hn, hk, q⟩ := q2
  obtain ⟨tk, rfl⟩ := ry
  have hr2 : IsRange s2.heap r 0 n 1 t u v := (I2.pin (r, _) (List.mem_append_right _ (List.mem_append_right _ (by
    unfold pinsAt
    rw [List.filterMap_cons, show s1.heap.get? r = some _ from hr]
    exact List.mem_cons_self)))).1
  have I3 : Inv X pins σ H2 s2 := I2.unpinned
  have hh : X.A.in1.handled = none := I3.ok.hd hc
  have hsm : Builtin.Range.small 0 (n : Int) 1 = true := small_one (by decide) (by decide) (by omega) (by omega)
  refine call_new hn hk hsm (by rw [rangeSize_nat]; show ((((n : Int) - 0).toNat : Nat) : Int) = n; omega) hh hr2 fun h' tk' acc kp it => ?_
  have I4 : Inv X pins σ H2 { s2 with heap := h', toks := tk' } := I3.kept kp
  have hz : (h'.push { cls := .type "tuple", data := .seq acc.toList.toArray }).objs.size = h'.objs.size + 1 := Heap.size_push ..
  have kp2 : ∀ b o, h'.get? b = some o → ((h'.push { cls := .type "tuple", data := .seq acc.toList.toArray }).push (cmbObj h'.objs.size (if k > n then 2 else 0) .none (List.range k))).get? b = some o := fun b o q => Heap.get?_push_of_some _ (Heap.get?_push_of_some _ q)
  have I5 : Inv X pins σ H2 { s2 with heap := (h'.push { cls := .type "tuple", data := .seq acc.toList.toArray }).push (cmbObj h'.objs.size (if k > n then 2 else 0) .none (List.range k)), toks := tk' } := I4.kept (t' := tk') kp2
  have hcm : IsCmb ((h'.push { cls := .type "tuple", data := .seq acc.toList.toArray }).push (cmbObj h'.objs.size (if k > n then 2 else 0) .none (List.range k))) (h'.objs.size + 1) h'.objs.size (if k > n then 2 else 0) .none (List.range k) := by
    refine ⟨cmbObj h'.objs.size (if k > n then 2 else 0) .none (List.range k), ?_, rfl, rfl⟩
    rw [← hz]
    exact Heap.get?_push_size _ rfl
  have hpool : PoolOk ((h'.push { cls := .type "tuple", data := .seq acc.toList.toArray }).push (cmbObj h'.objs.size (if k > n then 2 else 0) .none (List.range k))) h'.objs.size n := by
    refine PoolOk.at (h := h'.push { cls := .type "tuple", data := .seq acc.toList.toArray }) ⟨acc.toList.toArray, IsTup.new _ _, by rw [List.size_toArray, Array.length_toList]; exact it.1, fun j hj => ?_⟩ fun o q => Heap.get?_push_of_some _ q
    have hjs : j < acc.size := by rw [it.1]; exact hj
    obtain ⟨t', e⟩ := it.2 j acc[j] (Array.getElem?_eq_getElem hjs)
    refine ⟨t', ?_⟩
    rw [Array.toArray_toList, Array.getElem?_eq_getElem hjs, e]
    rw [show (0 : Int) + (j : Int) * 1 = j by omega]
  refine iter_ hcm ?_
  refine ⟨h'.objs.size + 1, [h'.objs.size + 1, h'.objs.size], CTn n k (h'.objs.size + 1) h'.objs.size, _, H2, rfl, I5, turn_comb n k _ _, ⟨hpool, Nat.ne_of_lt (Nat.lt_succ_self _), ?_⟩, fun b hb => ?_, q⟩
  · obtain ⟨o, ho, hc2, hd2⟩ := hcm
    by_cases z : k > n
    · have ph2 : (if k > n then (2 : Int) else 0) = 2 := if_pos z
      exact .inr ⟨by show (if k > n then none else some (List.range k)) = none; rw [if_pos z], _, _, o, ho, hc2, by rw [hd2, ph2]⟩
    · have ph2 : (if k > n then (2 : Int) else 0) = 0 := if_neg z
      exact .inl ⟨_, _, by show (if k > n then none else some (List.range k)) = _; rw [if_neg z], o, ho, hc2, by rw [hd2, ph2]⟩
  · have hle : h'.objs.size ≤ b := by
      rcases (show b = h'.objs.size + 1 ∨ b = h'.objs.size by simpa using hb) with rfl | rfl
      · exact Nat.le_succ _
      · exact Nat.le_refl _
    exact I4.fpOk hle (I4.hok.fresh hle)
end
end CMB
set_option Elab.async false
set_option linter.all false
set_option maxRecDepth 100000
set_option maxHeartbeats 4000000
namespace CMB
open PySem PySem.Spec PyProof.Rows L2
/-- k of xs, as they come -/
def choose : List Nat → Nat → List (List Nat)
  | _, 0 => [[]]
  | [], _ + 1 => []
  | x :: r, k + 1 => (choose r k).map (x :: ·) ++ choose r (k + 1)
def listC (n : Nat) : Nat → Option (List Nat) → List (List Nat)
  | 0, _ => []
  | _ + 1, none => []
  | f + 1, some ix => ix :: listC n f (nextC n ix)
def iterC (n : Nat) (o : Option (List Nat)) : Nat → Option (List Nat)
  | 0 => o
  | i + 1 => (iterC n o i).bind (nextC n)
theorem iterC_succ (n : Nat) (o : Option (List Nat)) : ∀ i, iterC n o (i + 1) = iterC n (o.bind (nextC n)) i
  | 0 => rfl
  | i + 1 => by
    show (iterC n o (i + 1)).bind (nextC n) = (iterC n (o.bind (nextC n)) i).bind (nextC n)
    rw [iterC_succ n o i]
theorem iterC_none (n : Nat) : ∀ i, iterC n none i = none
  | 0 => rfl
  | i + 1 => by show (iterC n none i).bind _ = none; rw [iterC_none n i]; rfl
theorem listC_get (n : Nat) : ∀ (f : Nat) (o : Option (List Nat)), (listC n f o).length < f → ∀ i, iterC n o i = (listC n f o)[i]?
  | 0, _, h, _ => absurd h (Nat.not_lt_zero _)
  | f + 1, none, _, i => by rw [iterC_none]; rfl
  | f + 1, some ix, h, 0 => rfl
  | f + 1, some ix, h, i + 1 => by
    have h2 : (listC n f (nextC n ix)).length < f := by
      have : (listC n f (nextC n ix)).length + 1 < f + 1 := h
      omega
    rw [iterC_succ]
    show iterC n (nextC n ix) i = (listC n f (nextC n ix))[i]?
    exact listC_get n f _ h2 i
theorem seqC_iter (n k : Nat) : ∀ i, seqC n k i = iterC n (seqC n k 0) i
  | 0 => rfl
  | i + 1 => by
    show (seqC n k i).bind (nextC n) = _
    rw [seqC_iter n k i]; rfl
theorem check : ∀ n, n < 13 → ∀ k, k < 13 → (listC n 1000 (seqC n k 0) == choose (List.range n) k) = true ∧ (choose (List.range n) k).length < 1000 := by decide +kernel
theorem seqC_get {n k : Nat} (hn : n ≤ 12) (hk : k ≤ 12) (i : Nat) : seqC n k i = (choose (List.range n) k)[i]? := by
  obtain ⟨h1, h2⟩ := check n (by omega) k (by omega)
  have e : listC n 1000 (seqC n k 0) = choose (List.range n) k := eq_of_beq h1
  rw [seqC_iter, listC_get n 1000 _ (by rw [e]; exact h2), e]
theorem choose_of {n : Nat} : ∀ (m a : Nat) (l : List Nat), l.Pairwise (· < ·) → (∀ x ∈ l, a ≤ x ∧ x < a + m) → l ∈ choose (List.range' a m) l.length
  | m, a, [], _, _ => by
    cases m <;> exact List.mem_singleton.mpr rfl
  | 0, a, x :: r, _, h => by
    have := h x List.mem_cons_self
    omega
  | m + 1, a, x :: r, hp, h => by
    have hp' := List.pairwise_cons.mp hp
    rw [List.range'_succ, List.length_cons]
    show x :: r ∈ (choose (List.range' (a + 1) m) r.length).map (a :: ·) ++ choose (List.range' (a + 1) m) (r.length + 1)
    by_cases e : x = a
    · refine List.mem_append_left _ (List.mem_map.mpr ⟨r, choose_of (n := n) m (a + 1) r hp'.2 fun y hy => ?_, by rw [e]⟩)
      have := hp'.1 y hy
      have := h y (List.mem_cons_of_mem _ hy)
      omega
    · refine List.mem_append_right _ ?_
      have := choose_of (n := n) m (a + 1) (x :: r) hp fun y hy => by
        have h1 := h y hy
        have h0 := h x List.mem_cons_self
        rcases List.mem_cons.mp hy with rfl | hy
        · omega
        · have := hp'.1 y hy
          omega
      exact this
theorem choose_is : ∀ (m a k : Nat) (l : List Nat), l ∈ choose (List.range' a m) k → l.length = k ∧ l.Pairwise (· < ·) ∧ ∀ x ∈ l, a ≤ x ∧ x < a + m
  | m, a, 0, l, h => by
    have : l = [] := by cases m <;> exact List.mem_singleton.mp h
    subst this
    exact ⟨rfl, List.Pairwise.nil, fun _ z => nomatch z⟩
  | 0, a, k + 1, l, h => nomatch h
  | m + 1, a, k + 1, l, h => by
    rw [List.range'_succ] at h
    have h : l ∈ (choose (List.range' (a + 1) m) k).map (a :: ·) ++ choose (List.range' (a + 1) m) (k + 1) := h
    rcases List.mem_append.mp h with h | h
    · obtain ⟨r, hr, rfl⟩ := List.mem_map.mp h
      obtain ⟨h1, h2, h3⟩ := choose_is m (a + 1) k r hr
      refine ⟨by show r.length + 1 = k + 1; rw [h1], List.pairwise_cons.mpr ⟨fun y hy => by have := h3 y hy; omega, h2⟩, fun x hx => ?_⟩
      rcases List.mem_cons.mp hx with rfl | hx
      · omega
      · have := h3 x hx; omega
    · obtain ⟨h1, h2, h3⟩ := choose_is m (a + 1) (k + 1) l h
      exact ⟨h1, h2, fun x hx => by have := h3 x hx; omega⟩
theorem mem_choose {n k : Nat} {l : List Nat} : l ∈ choose (List.range n) k ↔ l.length = k ∧ l.Pairwise (· < ·) ∧ ∀ x ∈ l, x < n := by
  rw [List.range_eq_range']
  constructor
  · intro h
    obtain ⟨h1, h2, h3⟩ := choose_is n 0 k l h
    exact ⟨h1, h2, fun x hx => by have := h3 x hx; omega⟩
  · rintro ⟨rfl, h2, h3⟩
    exact choose_of (n := n) n 0 l h2 fun x hx => ⟨Nat.zero_le _, by have := h3 x hx; omega⟩
end CMB
namespace AL
open PySem PySem.Spec PyProof.Rows L2
def numsD (l : List Nat) : D := .tup (l.map fun (i : Nat) => D.int i)
section
variable {X : Cx} {Φ : Cl} [ok : ClOk Φ] {pos : Pos} {e a b c : Expr} {wa wb wc : WE} {M : Addr → Prop} {σ : L2.St} {H : Hp} {ρ : Ev}
theorem nums_rp {K : PySem.W.Frag} : ∀ l : List Nat, RpAll K M H (l.map fun (x : Nat) => V.int x) (l.map fun (i : Nat) => D.int i)
  | [] => .nil
  | _ :: r => .cons (.int _) (nums_rp r)
theorem gives_comb {M : Addr → Prop} {H : Hp} {n k : Nat} (hn : n ≤ 12) (hk : k ≤ 12) : Gives Φ.K M H (CMB.ItC n k) ((CMB.choose (List.range n) k).map numsD) := by
  refine ⟨fun _ => True, fun i H v H' => ∃ T ix, v = .ref T ∧ H T = none ∧ H' = upd H T (.tup (ix.map fun (x : Nat) => V.int x)) ∧ CMB.seqC n k i = some ix, ?_, fun M' H' S => trivial, fun i M' H' H2 v S y => ?_⟩
  · rw [List.length_map]
    refine ⟨fun i H hi _ => ?_, fun H _ => ?_, fun i H v H' hi _ y => y⟩
    · refine ⟨(CMB.choose (List.range n) k)[i], by rw [CMB.seqC_get hn hk, List.getElem?_eq_getElem hi], ?_, ?_⟩
      · have := (CMB.mem_choose.mp (List.getElem_mem hi)).1
        omega
      · exact (CMB.mem_choose.mp (List.getElem_mem hi)).2.2
    · show CMB.seqC n k _ = none
      rw [CMB.seqC_get hn hk, List.getElem?_eq_none_iff]
      exact Nat.le_refl _
  · obtain ⟨T, ix, rfl, hT, rfl, e⟩ := y
    have sm := same_upd (o := .tup (ix.map fun (x : Nat) => V.int x)) hT
    refine ⟨sm, fun d hd => ?_⟩
    rw [CMB.seqC_get hn hk] at e
    rw [List.getElem?_map, e] at hd
    cases hd
    exact .tup upd_same (nums_rp ix)
/-- combinations(range(n), k) -/
def wCombRg (wa wb : WE) : WI := fun ρ Q => wa ρ fun x ρ1 => match x with
  | .int n => wb ρ1 fun y ρ2 => match y with
    | .int k => ((0 ≤ n ∧ n ≤ 12) ∧ 0 ≤ k ∧ k ≤ 12) ∧ Q ((CMB.choose (List.range n.toNat) k.toNat).map numsD) ρ2
    | _ => False
  | _ => False
theorem qi_combRg {tg : Expr} {x : Str} {p p2 pos2 : Pos} (hc : X.calm = true) (hg : Gl X x) (hm : X.mg x = some (.type "itertools.combinations")) (hg2 : Gl X "range") (hm2 : X.mg "range" = none) (ha : QE X Φ a wa) (hb : QE X Φ b wb)
    (na : starEach [.Call (.Name "range" p2) [a] [] pos2, b] X.env = (false, eval (.Call (.Name "range" p2) [a] [] pos2) X.env) :: starEach [b] X.env := by rfl) (nb : starEach [b] X.env = (false, eval b X.env) :: starEach [] X.env := by rfl)
    (nc : starEach [a] X.env = (false, eval a X.env) :: starEach [] X.env := by rfl) (hp : (backTo pos (starEach [b] X.env)).any (·.1) = false := by rfl) (hd : (x == ("__debug__" : Str)) = false := by decide) (hcd : (x == ("__classdict__" : Str)) = false := by decide) :
    QI X Φ tg (.Call (.Name x p) [.Call (.Name "range" p2) [a] [] pos2, b] [] pos) (wCombRg wa wb) := by
  refine ⟨fun ρ Q Q' h q => ha.mono ρ _ _ (fun x ρ1 q1 => ?_) q, PIw (CMB.pi_comb hc hg hm (CMB.prgF_1 hg2 hm2 ha.run nc) hb.run na nb hp hd hcd) fun σ H R ⟨M, ρ, A, q⟩ => ?_⟩
  · cases x with
    | int n =>
      refine hb.mono ρ1 _ _ (fun y ρ2 q2 => ?_) q1
      cases y <;> first | exact q2.elim | exact ⟨q2.1, h _ _ q2.2⟩
    | _ => exact q1.elim
  · refine ⟨M, ρ, A, ha.mono ρ _ _ (fun x ρ1 q1 => ?_) q⟩
    intro M1 v H1 A1 S1 r1
    cases x with
    | int n =>
      cases r1
      refine ⟨n, rfl, M1, ρ1, A1, hb.mono ρ1 _ _ (fun y ρ2 q2 => ?_) q1⟩
      intro M2 u H2 A2 S2 r2
      cases y with
      | int k =>
        cases r2
        obtain ⟨⟨⟨n0, n1⟩, k0, k1⟩, q3⟩ := q2
        refine ⟨n.toNat, k.toNat, rfl, by omega, by rw [Int.toNat_of_nonneg k0], by omega, by omega, ?_⟩
        exact q3 M2 H2 _ A2 (S1.trans S2) (gives_comb (by omega) (by omega))
      | _ => exact q2.elim
    | _ => exact q1.elim
end
end AL
set_option Elab.async false
set_option linter.all false
set_option maxRecDepth 100000
set_option maxHeartbeats 1000000
namespace AL
open PySem PySem.Spec PyProof.Rows L2
theorem it_gen {J : It} {n : Nat} {G : Hp → Prop} {Y : Nat → Hp → V → Hp → Prop} (w : Walk J n G Y) {H0 : Hp} {Qd : Hp → Prop} {Body : (Hp → Prop) → V → Hp → Prop} (Pv : Nat → Hp → Prop) (h0 : Pv 0 H0) (hG : ∀ i H, i ≤ n → Pv i H → G H)
    (hs : ∀ i x H H', i < n → Pv i H → Y i H x H' → Body (Pv (i + 1)) x H') (hd : ∀ H, Pv n H → Qd H) :
    ∃ W : Nat → Nat → Hp → Prop, (∃ m, W 0 m H0) ∧ ∀ i m H, W i m H → (J.stop i H ∧ Qd H) ∨ (J.go i H ∧ ∃ Nx : Hp → Prop, (∀ H', Nx H' → ∃ m', m' < m ∧ W (i + 1) m' H') ∧ ∀ x H', J.yld i H x H' → Body Nx x H') := by
  refine ⟨fun i m H => m = n - i ∧ i ≤ n ∧ Pv i H, ⟨n, by simp, Nat.zero_le _, h0⟩, ?_⟩
  rintro i m H ⟨rfl, hi, p⟩
  have q := hG i H hi p
  by_cases hlt : i < n
  · exact .inr ⟨w.goes i H hlt q, Pv (i + 1), fun H' p' => ⟨n - (i + 1), by omega, rfl, hlt, p'⟩, fun x H' y => hs i x H H' hlt p (w.yields i H x H' hlt q y)⟩
  · have e : i = n := by omega
    subst e
    exact .inl ⟨w.stops H q, hd H p⟩
section
variable {X : Cx} {Φ : Cl} [ok : ClOk Φ] {pos : Pos} {e a b c : Expr} {wa wb wc : WE} {M : Addr → Prop} {σ σ' : L2.St} {H : Hp} {ρ : Ev}
def PvM (Φ : Cl) (g : WG) (tt : WT) (we : WE) (vs : List Nat) (QQ : List D → Ev → Prop) (σ : L2.St) (M1 : Addr → Prop) (H1 : Hp) (p : Addr) (xs : List D) (i : Nat) (H2 : Hp) : Prop :=
  ∃ M2 ρ2 acc ds, Abs Φ M2 (wipe σ vs) H2 ρ2 ∧ NewL Φ M2 (wipe σ vs) H2 ρ2 p acc ds ∧ Step M1 H1 M2 H2 ∧ (∀ i ∈ vs, ∀ e, ρ2[i]? = some e → e = .un) ∧ wMake g tt we vs QQ (xs.drop i) ds ρ2
theorem wipe_same {σ σ4 : L2.St} {vs : List Nat} (t4 : σ4.length = (wipe σ vs).length ∧ ∀ i, i ∉ vs → σ4[i]? = (wipe σ vs)[i]?) : wipe σ4 vs = wipe σ vs := by
  apply List.ext_getElem?
  intro k
  by_cases hk : k ∈ vs
  · have hl : (wipe σ4 vs).length = (wipe σ vs).length := by rw [wipe_length]; exact t4.1
    have un : ∀ (τ : L2.St) (o : Option V), (wipe τ vs)[k]? = some o → o = none := fun τ o h => by
      cases o with
      | none => rfl
      | some v => exact absurd hk (wipe_some h).2
    cases h1 : (wipe σ4 vs)[k]? with
    | none =>
      have : (wipe σ vs)[k]? = none := by
        rw [List.getElem?_eq_none_iff] at h1 ⊢
        omega
      rw [this]
    | some o =>
      have hk2 : k < (wipe σ vs).length := by
        have := (List.getElem?_eq_some_iff.mp h1).1
        omega
      rw [List.getElem?_eq_getElem hk2]
      rw [un _ _ h1, un σ _ (List.getElem?_eq_getElem hk2)]
  · rw [wipe_out hk, t4.2 k hk]
theorem make_step {g : WG} {tt : WT} {we : WE} {vs : List Nat} {QQ : List D → Ev → Prop} {σ : L2.St} {M1 : Addr → Prop} {H1 : Hp} {p : Addr} {xs : List D} {Y : Nat → Hp → V → Hp → Prop}
    (gm : ∀ x ρ Q Q', (∀ ρ', Q ρ' → Q' ρ') → g x ρ Q → g x ρ Q') (tm : ∀ ρ Q Q', (∀ x ρ', Q x ρ' → Q' x ρ') → tt ρ Q → tt ρ Q') (em : ∀ ρ Q Q', (∀ x ρ', Q x ρ' → Q' x ρ') → we ρ Q → we ρ Q')
    (hY : ∀ i M' H' H2 v, Step M1 H1 M' H' → Y i H' v H2 → Same H' H2 ∧ ∀ x, xs[i]? = some x → Rp Φ.K M' H2 v x) (ht : Φ.T p = none) (h0 : Φ.H0 p = none) :
    ∀ i v H2 H3, i < xs.length → PvM Φ g tt we vs QQ σ M1 H1 p xs i H2 → Y i H2 v H3 → anyG Φ vs g v (wipe σ vs) H3 fun σ2 H => wipe σ2 vs = wipe σ vs ∧ anyT Φ tt σ2 H fun b H => if b = true then anyE Φ we σ2 H fun y H => ∃ acc, H p = some (.lst acc) ∧ acc.length < sizeLine ∧ PvM Φ g tt we vs QQ σ M1 H1 p xs (i + 1) (upd H p (.lst (acc ++ [y]))) else PvM Φ g tt we vs QQ σ M1 H1 p xs (i + 1) H := by
  intro i v H2 H3 hlt ⟨M2, ρ2, acc, ds, A2, N2, S2, u2, q2⟩ y
  obtain ⟨sm, hx⟩ := hY i M2 H2 H3 v S2 y
  have rx := hx xs[i] (List.getElem?_eq_getElem hlt)
  rw [List.drop_eq_getElem_cons hlt] at q2
  have S3 : Step M2 H2 M2 H3 := step_same sm
  have A3 := (A2.hold_in N2).same sm
  refine ⟨p, acc, M2, ρ2, _, A3, rx, gm _ _ _ _ (fun ρ4 q4 => ?_) q2⟩
  intro M4 σ4 H4 A4 S4 t4
  have e4 := wipe_same t4
  refine ⟨e4, p, acc, M4, ρ4, A4, tm _ _ _ (fun b ρ5 q5 => ?_) q4⟩
  intro M5 H5 A5 S5
  have back : ∀ {M6 : Addr → Prop} {H6 : Hp} {ρ6 : Ev}, Abs (Φ.held p acc) M6 σ4 H6 ρ6 → Step M2 H2 M6 H6 → Abs Φ M6 (wipe σ vs) H6 (wipeE ρ6 vs) ∧ NewL Φ M6 (wipe σ vs) H6 (wipeE ρ6 vs) p acc ds := fun {M6 H6 ρ6} A6 S6 => by
    obtain ⟨h1, h2⟩ := A6.hold_out ht h0 (N2.r.step S6)
    have hs : ∀ k, k ∉ vs → (wipe σ vs)[k]? = σ4[k]? := fun k hk => by rw [← e4, wipe_out hk]
    exact ⟨h1.wiped vs (by rw [wipe_length, t4.1, wipe_length]) hs, h2.moved hs⟩
  cases b with
  | true =>
    refine iteT ⟨p, acc, M5, ρ5, A5, em _ _ _ (fun y ρ6 q6 => ?_) q5⟩
    intro M6 u H6 A6 S6 r6
    have SS := S3.trans (S4.trans (S5.trans S6))
    obtain ⟨B6, N6⟩ := back A6 SS
    obtain ⟨B7, S7, N7⟩ := B6.put N6 (N6.r.append (.cons r6 .nil))
    refine ⟨acc, N6.h, by rw [N6.r.length]; exact q6.1, M6, _, _, _, B7, N7, S2.trans (SS.trans S7), fun k hk e h => wipeE_in hk h, q6.2⟩
  | false =>
    have SS := S3.trans (S4.trans S5)
    obtain ⟨B6, N6⟩ := back A5 SS
    exact iteF ⟨M5, _, _, _, B6, N6, S2.trans SS, fun k hk e h => wipeE_in hk h, q5⟩
/-! ### two generators -/
def wMake2 (g : WG) (tt : WT) (wi1 : WI) (g1 : WG) (tt1 : WT) (we : WE) (vs vs1 : List Nat) (Q : List D → Ev → Prop) : List D → List D → Ev → Prop
  | [], acc, ρ => Q acc ρ
  | x :: r, acc, ρ => g x ρ fun ρ1 => tt ρ1 fun b ρ2 => if b = true then wi1 ρ2 fun ys ρ3 => wMake g1 tt1 we vs1 (fun zs ρ4 => wMake2 g tt wi1 g1 tt1 we vs vs1 Q r zs (wipeE ρ4 vs)) ys acc (wipeE ρ3 vs1) else wMake2 g tt wi1 g1 tt1 we vs vs1 Q r acc (wipeE ρ2 vs)
def wLc2 (wi : WI) (g : WG) (tt : WT) (wi1 : WI) (g1 : WG) (tt1 : WT) (we : WE) (vs vs1 : List Nat) : WA := fun ρ Q => wi ρ fun xs ρ' => wMake2 g tt wi1 g1 tt1 we vs vs1 Q xs [] (wipeE ρ' vs)
variable {elt tg iter tg1 iter1 : Expr} {ifs ifs1 : List Expr} {scope : Scope} {own : List (Str × Nat)} {wi wi1 : WI} {g g1 : WG} {tt tt1 : WT} {we : WE}
theorem wMake2_mono {vs vs1 : List Nat} (gm : ∀ x ρ Q Q', (∀ ρ', Q ρ' → Q' ρ') → g x ρ Q → g x ρ Q') (tm : ∀ ρ Q Q', (∀ x ρ', Q x ρ' → Q' x ρ') → tt ρ Q → tt ρ Q') (im : ∀ ρ Q Q', (∀ x ρ', Q x ρ' → Q' x ρ') → wi1 ρ Q → wi1 ρ Q')
    (gm1 : ∀ x ρ Q Q', (∀ ρ', Q ρ' → Q' ρ') → g1 x ρ Q → g1 x ρ Q') (tm1 : ∀ ρ Q Q', (∀ x ρ', Q x ρ' → Q' x ρ') → tt1 ρ Q → tt1 ρ Q') (em : ∀ ρ Q Q', (∀ x ρ', Q x ρ' → Q' x ρ') → we ρ Q → we ρ Q')
    {Q Q' : List D → Ev → Prop} (h : ∀ x ρ, Q x ρ → Q' x ρ) : ∀ (xs acc : List D) (ρ : Ev), wMake2 g tt wi1 g1 tt1 we vs vs1 Q xs acc ρ → wMake2 g tt wi1 g1 tt1 we vs vs1 Q' xs acc ρ
  | [], acc, ρ, q => h _ _ q
  | x :: r, acc, ρ, q => gm x ρ _ _ (fun ρ1 q1 => tm ρ1 _ _ (fun b ρ2 q2 => by
      cases b with
      | true => exact im ρ2 _ _ (fun ys ρ3 q3 => wMake_mono gm1 tm1 em (fun zs ρ4 q4 => wMake2_mono gm tm im gm1 tm1 em h r _ _ q4) _ _ _ q3) q2
      | false => exact wMake2_mono gm tm im gm1 tm1 em h r _ _ q2) q1) q
structure Blk2 (X : Cx) (Φ : Cl) (scope : Scope) (vs vs1 : List Nat) (tg : Expr) (ifs : List Expr) (tg1 iter1 : Expr) (ifs1 : List Expr) (elt : Expr) (g : WG) (tt : WT) (wi1 : WI) (g1 : WG) (tt1 : WT) (we : WE) : Prop where
  g : ∀ (T : Hp) (s : Shared) (H : Hp) (C : Addr) (cl : List (Str × Addr)) (fp : List Addr), QC (X.blk s H scope (compEnvC scope cl C X.env) fp) { Φ with T := T } vs tg g
  t : ∀ (T : Hp) (s : Shared) (H : Hp) (C : Addr) (cl : List (Str × Addr)) (fp : List Addr), QTs (X.blk s H scope (compEnvC scope cl C X.env) fp) { Φ with T := T } ifs tt
  i : ∀ (T : Hp) (s : Shared) (H : Hp) (C : Addr) (cl : List (Str × Addr)) (fp : List Addr), QI (X.blk s H scope (compEnvC scope cl C X.env) fp) { Φ with T := T } tg1 iter1 wi1
  g1 : ∀ (T : Hp) (s : Shared) (H : Hp) (C : Addr) (cl : List (Str × Addr)) (fp : List Addr), QC (X.blk s H scope (compEnvC scope cl C X.env) fp) { Φ with T := T } vs1 tg1 g1
  t1 : ∀ (T : Hp) (s : Shared) (H : Hp) (C : Addr) (cl : List (Str × Addr)) (fp : List Addr), QTs (X.blk s H scope (compEnvC scope cl C X.env) fp) { Φ with T := T } ifs1 tt1
  e : ∀ (T : Hp) (s : Shared) (H : Hp) (C : Addr) (cl : List (Str × Addr)) (fp : List Addr), QE (X.blk s H scope (compEnvC scope cl C X.env) fp) { Φ with T := T } elt we
def anyI (Φ : Cl) (w : WI) : TI := fun σ H R => ∃ p acc, liftI (Φ.held p acc) w σ H R
theorem anyI_of {X : Cx} {tg it : Expr} {w : WI} (h : ∀ T, QI X { Φ with T := T } tg it w) : PI X tg it (anyI Φ w) := ⟨fun pins s σ H R I ⟨p, acc, q⟩ => (h (upd Φ.T p (.lst acc))).run.run pins s σ H R I q⟩
theorem wLc2_mono {vs vs1 : List Nat} (hi : QI X Φ tg iter wi) (B : Blk2 X Φ scope vs vs1 tg ifs tg1 iter1 ifs1 elt g tt wi1 g1 tt1 we) : ∀ ρ Q Q', (∀ x ρ', Q x ρ' → Q' x ρ') → wLc2 wi g tt wi1 g1 tt1 we vs vs1 ρ Q → wLc2 wi g tt wi1 g1 tt1 we vs vs1 ρ Q' := fun ρ Q Q' h q =>
  hi.mono ρ _ _ (fun xs ρ' q' => wMake2_mono (B.g (fun _ => none) X.s_0 (fun _ => none) 0 [] []).mono (B.t (fun _ => none) X.s_0 (fun _ => none) 0 [] []).mono (B.i (fun _ => none) X.s_0 (fun _ => none) 0 [] []).mono (B.g1 (fun _ => none) X.s_0 (fun _ => none) 0 [] []).mono (B.t1 (fun _ => none) X.s_0 (fun _ => none) 0 [] []).mono (B.e (fun _ => none) X.s_0 (fun _ => none) 0 [] []).mono h _ _ _ q') q
theorem lift_lc2 {vs1 : List Nat} (hi : QI X Φ tg iter wi) (B : Blk2 X Φ scope (own.map (·.2)) vs1 tg ifs tg1 iter1 ifs1 elt g tt wi1 g1 tt1 we) (hv : ∀ i ∈ vs1, i ∈ own.map (·.2)) : ∀ σ H Q, liftF Φ (wLc2 wi g tt wi1 g1 tt1 we (own.map (·.2)) vs1) σ H Q →
    tLc2 (liftI Φ wi) (anyG Φ (own.map (·.2)) g) (anyT Φ tt) (anyI Φ wi1) (anyG Φ vs1 g1) (anyT Φ tt1) (anyE Φ we) (own.map (·.2)) vs1 σ H Q := by
  intro σ H Q ⟨M, ρ, A, q⟩
  generalize own.map (·.2) = vs at *
  have gm := (B.g (fun _ => none) X.s_0 (fun _ => none) 0 [] []).mono
  have tm := (B.t (fun _ => none) X.s_0 (fun _ => none) 0 [] []).mono
  have im := (B.i (fun _ => none) X.s_0 (fun _ => none) 0 [] []).mono
  have gm1 := (B.g1 (fun _ => none) X.s_0 (fun _ => none) 0 [] []).mono
  have tm1 := (B.t1 (fun _ => none) X.s_0 (fun _ => none) 0 [] []).mono
  have em := (B.e (fun _ => none) X.s_0 (fun _ => none) 0 [] []).mono
  refine ⟨M, ρ, A, hi.mono ρ _ _ (fun xs ρ1 q1 => ?_) q⟩
  intro M1 H1 J A1 S1 G1 p hp
  obtain ⟨G, Y, W, hG, hY⟩ := G1.ex
  have hw : (wipe σ vs).length = σ.length := wipe_length σ vs
  obtain ⟨A2, S2, N2⟩ := A1.add (vs := []) hp .nil
  have h0 := N2.h0
  have ht := N2.t
  generalize hQ : (fun (zs : List D) (ρ' : Ev) => ∀ M' p vs H', Abs Φ M' σ H' ρ' → Step M H M' H' → NewL Φ M' σ H' ρ' p vs zs → Q (.ref p) H') = QQ at q1
  refine it_gen W (fun i H2 => ∃ M2 ρ2 acc ds, Abs Φ M2 (wipe σ vs) H2 ρ2 ∧ NewL Φ M2 (wipe σ vs) H2 ρ2 p acc ds ∧ Step M1 H1 M2 H2 ∧ (∀ i ∈ vs, ∀ e, ρ2[i]? = some e → e = .un) ∧ wMake2 g tt wi1 g1 tt1 we vs vs1 QQ (xs.drop i) ds ρ2) ?_ (fun i H2 hi ⟨M2, ρ2, acc, ds, A2, N2, S2, u2, q2⟩ => hG M2 H2 S2) ?_ ?_
  · exact ⟨_, _, [], [], A2.wiped vs hw fun i hi => wipe_out hi, N2.moved fun i hi => wipe_out hi, S2, fun i hi e h => wipeE_in hi h, by rw [List.drop_zero]; exact q1⟩
  · intro i v H2 H3 hlt ⟨M2, ρ2, acc, ds, A2, N2, S2, u2, q2⟩ y
    obtain ⟨sm, hx⟩ := hY i M2 H2 H3 v S2 y
    have rx := hx xs[i] (List.getElem?_eq_getElem hlt)
    rw [List.drop_eq_getElem_cons hlt] at q2
    have S3 : Step M2 H2 M2 H3 := step_same sm
    have A3 := (A2.hold_in N2).same sm
    refine ⟨p, acc, M2, ρ2, _, A3, rx, gm _ _ _ _ (fun ρ4 q4 => ?_) q2⟩
    intro M4 σ4 H4 A4 S4 t4
    have e4 := wipe_same t4
    refine ⟨e4, p, acc, M4, ρ4, A4, tm _ _ _ (fun b ρ5 q5 => ?_) q4⟩
    intro M5 H5 A5 S5
    have hs : ∀ k, k ∉ vs → (wipe σ vs)[k]? = σ4[k]? := fun k hk => by rw [← e4, wipe_out hk]
    cases b with
    | true =>
      refine iteT ⟨p, acc, M5, ρ5, A5, im _ _ _ (fun ys ρ6 q6 => ?_) q5⟩
      intro M6 H6 J1 A6 S6 G6
      obtain ⟨G', Y', W', hG', hY'⟩ := G6.ex
      have SS := S3.trans (S4.trans (S5.trans S6))
      obtain ⟨B6, N6⟩ := A6.hold_out ht h0 (N2.r.step SS)
      refine it_gen W' (PvM Φ g1 tt1 we vs1 (fun zs ρ4 => wMake2 g tt wi1 g1 tt1 we vs vs1 QQ (xs.drop (i + 1)) zs (wipeE ρ4 vs)) σ4 M6 H6 p ys) ?_ (fun j H7 _ ⟨M7, ρ7, acc7, ds7, A7, N7, S7, u7, q7⟩ => hG' M7 H7 S7) (make_step gm1 tm1 em hY' ht h0) ?_
      · exact ⟨M6, wipeE ρ6 vs1, acc, ds, B6.wiped vs1 (wipe_length _ _) fun k hk => wipe_out hk, N6.moved fun k hk => wipe_out hk, .refl, fun k hk e h => wipeE_in hk h, by rw [List.drop_zero]; exact q6⟩
      · intro H7 ⟨M7, ρ7, acc7, ds7, A7, N7, S7, u7, q7⟩
        rw [List.drop_length] at q7
        have hs7 : ∀ k, k ∉ vs → (wipe σ vs)[k]? = (wipe σ4 vs1)[k]? := fun k hk => by rw [hs k hk, wipe_out fun z => hk (hv k z)]
        exact ⟨M7, wipeE ρ7 vs, acc7, ds7, A7.wiped vs (by rw [wipe_length, wipe_length, t4.1, wipe_length]) hs7, N7.moved hs7, S2.trans (SS.trans S7), fun k hk e h => wipeE_in hk h, q7⟩
    | false =>
      have SS := S3.trans (S4.trans S5)
      obtain ⟨h1, h2⟩ := A5.hold_out ht h0 (N2.r.step SS)
      exact iteF ⟨M5, _, _, _, h1.wiped vs (by rw [wipe_length, t4.1, wipe_length]) hs, h2.moved hs, S2.trans SS, fun k hk e h => wipeE_in hk h, q5⟩
  · intro H2 ⟨M2, ρ2, acc, ds, A2, N2, S2, u2, q2⟩
    rw [List.drop_length] at q2
    have q2' : QQ ds ρ2 := q2
    subst hQ
    refine q2' M2 p acc H2 ?_ (S1.trans S2) ?_
    · refine ⟨by rw [← A2.len, hw], fun k en o h1 h2 => ?_, fun k j a w1 w2 ys zs h1 h2 h3 h4 => ?_, A2.lst, A2.m0, A2.keep, A2.wm, A2.hold, fun k j a ys zs h1 h2 h3 h4 => ?_, A2.tab, fun k j w F P e a hkj h1 h2 h3 => by
        by_cases hk : k ∈ vs
        · have := u2 k hk _ h1; cases this
        · by_cases hj : j ∈ vs
          · rw [u2 j hj _ h2]; trivial
          · exact A2.far k j w F P e a hkj h1 h2 (by rw [wipe_out hj]; exact h3)⟩
      · by_cases hk : k ∈ vs
        · rw [u2 k hk en h1]; trivial
        · exact A2.slot k en o h1 (by rw [wipe_out hk]; exact h2)
      · by_cases hk : k ∈ vs
        · have := u2 k hk _ h1; cases this
        · by_cases hj : j ∈ vs
          · have := u2 j hj _ h2; cases this
          · exact A2.inj k j a w1 w2 ys zs h1 h2 (by rw [wipe_out hk]; exact h3) (by rw [wipe_out hj]; exact h4)
      · by_cases hk : k ∈ vs
        · have := u2 k hk _ h1; cases this
        · by_cases hj : j ∈ vs
          · have := u2 j hj _ h2; cases this
          · exact A2.injd k j a ys zs h1 h2 (by rw [wipe_out hk]; exact h3) (by rw [wipe_out hj]; exact h4)
    · refine ⟨N2.m, N2.h, N2.r, N2.h0, N2.t, fun k w ys h1 h2 => ?_, fun k w F P h1 hf => N2.f k w F P h1 hf⟩
      by_cases hk : k ∈ vs
      · have := u2 k hk _ h1; cases this
      · exact N2.n k w ys h1 (by rw [wipe_out hk]; exact h2)
theorem qf_lc2 (hc : X.calm = true) (hN : X.N.Nodup) (hi : QI X Φ tg iter wi) {vs vs1 : List Nat} (bk : BlkOk X.N X.env.scope scope own) (B : Blk2 X Φ scope vs vs1 tg ifs tg1 iter1 ifs1 elt g tt wi1 g1 tt1 we)
    (hvs : own.map (·.2) = vs := by rfl) (hv : ∀ i ∈ vs1, i ∈ vs := by decide) (hs : ∀ x, foldedSetIterable iter X.env x = pure x := by intro _; rfl) (hs1 : ∀ env x, foldedSetIterable iter1 env x = pure x := by intro _ _; rfl) :
    QF X Φ (.ListComp elt [⟨tg, iter, ifs, 0⟩, ⟨tg1, iter1, ifs1, 0⟩] scope pos) (wLc2 wi g tt wi1 g1 tt1 we vs vs1) := by
  subst hvs
  exact ⟨wLc2_mono hi B, PEw (pe_lc2 hc hN hi.run bk hv (fun s H C cl fp => anyG_of fun T => B.g T s H C cl fp) (fun s H C cl fp => anyT_of fun T => B.t T s H C cl fp) (fun s H C cl fp => anyI_of fun T => B.i T s H C cl fp) (fun s H C cl fp => anyG_of fun T => B.g1 T s H C cl fp) (fun s H C cl fp => anyT_of fun T => B.t1 T s H C cl fp) (fun s H C cl fp => anyE_of fun T => B.e T s H C cl fp) hs hs1) (lift_lc2 hi B hv)⟩
theorem qs_setLc2 {i : Nat} {y : Str} {py spos : Pos} (hc : X.calm = true) (hN : X.N.Nodup) (hy : X.N[i]? = some y) (hyl : X.env.scope.names.lookup y = some .local)
    (hsw : swapsWith (.ListComp elt [⟨tg, iter, ifs, 0⟩, ⟨tg1, iter1, ifs1, 0⟩] scope pos) (some (.Name y py)) spos.line X.env = pure true) (hi : QI X Φ tg iter wi) {vs vs1 : List Nat} (bk : BlkOk X.N X.env.scope scope own) (B : Blk2 X Φ scope vs vs1 tg ifs tg1 iter1 ifs1 elt g tt wi1 g1 tt1 we)
    (hvs : own.map (·.2) = vs := by rfl) (hv : ∀ i ∈ vs1, i ∈ vs := by decide) (hs : ∀ x, foldedSetIterable iter X.env x = pure x := by intro _; rfl) (hs1 : ∀ env x, foldedSetIterable iter1 env x = pure x := by intro _ _; rfl) :
    QS X Φ (.Assign [.Name y py] (.ListComp elt [⟨tg, iter, ifs, 0⟩, ⟨tg1, iter1, ifs1, 0⟩] scope pos) spos) (wAsg (fun ρ Q => wLc2 wi g tt wi1 g1 tt1 we vs vs1 ρ fun xs ρ' => Q (.lst xs) ρ') (wName i)) := by
  subst hvs
  refine ⟨fun ρ R R' h q => wLc2_mono hi B ρ _ _ (fun xs ρ' q' => h.nx _ q') q, PSw (ps_setLc2 hc hN hy hyl hsw hi.run bk hv (fun s H C cl fp => anyG_of fun T => B.g T s H C cl fp) (fun s H C cl fp => anyT_of fun T => B.t T s H C cl fp) (fun s H C cl fp => anyI_of fun T => B.i T s H C cl fp) (fun s H C cl fp => anyG_of fun T => B.g1 T s H C cl fp) (fun s H C cl fp => anyT_of fun T => B.t1 T s H C cl fp) (fun s H C cl fp => anyE_of fun T => B.e T s H C cl fp) hs hs1) fun D σ H ⟨M, ρ, A, q⟩ => ?_⟩
  refine lift_lc2 hi B hv σ H _ ⟨M, ρ, A, wLc2_mono hi B ρ _ _ (fun xs ρ' q' => ?_) q⟩
  intro M' p vs H' A' S' N'
  obtain ⟨A2, S2, r2⟩ := A'.drop N'
  exact q' _ _ H' (A2.store r2) (S'.trans S2)
end
end AL
set_option Elab.async false
set_option linter.all false
set_option maxRecDepth 100000
set_option maxHeartbeats 1000000
namespace AL
open PySem PySem.Spec PyProof.Rows L2
/-! ### min of data -/
theorem lt_trans {a b c : PyData} (h1 : PySem.W.dataLt a b = true) (h2 : PySem.W.dataLt b c = true) : PySem.W.dataLt a c = true := PyProof.Rows.lex_trans _ _ _ h1 h2
theorem lt_irr (a : PyData) : PySem.W.dataLt a a = false := PyProof.Rows.lex_irrefl _
theorem minD_least : ∀ (xs : List PyData) (x : PyData), (∀ e ∈ x :: xs, PySem.W.dataLt e (PySem.W.minD x xs) = false) ∧ (PySem.W.minD x xs ∈ x :: xs)
  | [], x => ⟨fun e he => by rw [List.mem_singleton.mp he]; exact lt_irr x, List.mem_cons_self⟩
  | y :: xs, x => by
    have e1 : PySem.W.minD x (y :: xs) = PySem.W.minD (if PySem.W.dataLt y x then y else x) xs := rfl
    obtain ⟨h1, h2⟩ := minD_least xs (if PySem.W.dataLt y x then y else x)
    rw [e1]
    generalize PySem.W.minD (if PySem.W.dataLt y x then y else x) xs = m at *
    cases hyx : PySem.W.dataLt y x with
    | true =>
      rw [hyx] at h1 h2
      have hy := h1 y (by rw [if_pos rfl]; exact List.mem_cons_self)
      refine ⟨fun e he => ?_, ?_⟩
      · rcases List.mem_cons.mp he with rfl | he
        · cases hem : PySem.W.dataLt e m with
          | false => rfl
          | true => rw [lt_trans hyx hem] at hy; cases hy
        · rcases List.mem_cons.mp he with rfl | he
          · exact hy
          · exact h1 e (List.mem_cons_of_mem _ he)
      · rw [if_pos rfl] at h2
        exact List.mem_cons_of_mem _ h2
    | false =>
      rw [hyx] at h1 h2
      have hx := h1 x (by rw [if_neg Bool.false_ne_true]; exact List.mem_cons_self)
      refine ⟨fun e he => ?_, ?_⟩
      · rcases List.mem_cons.mp he with rfl | he
        · exact hx
        · rcases List.mem_cons.mp he with rfl | he
          · cases hem : PySem.W.dataLt e m with
            | false => rfl
            | true =>
              -- m is x or lies behind; x is not above m, e is not below x
              rw [if_neg Bool.false_ne_true] at h2
              have key : PySem.W.dataLt e x = true ∨ PySem.W.dataLt x m = true := PyProof.Rows.lex_negTrans _ _ _ hem
              rcases key with k | k
              · rw [k] at hyx; cases hyx
              · rw [k] at hx; cases hx
          · exact h1 e (List.mem_cons_of_mem _ he)
      · rw [if_neg Bool.false_ne_true] at h2
        rcases List.mem_cons.mp h2 with z | z
        · rw [z]; exact List.mem_cons_self
        · exact List.mem_cons_of_mem _ (List.mem_cons_of_mem _ z)
theorem dps_get {K : PySem.W.Frag} {H : Hp} : ∀ {vs : List V} {ds : List PyData}, DpAll K H vs ds → vs.length = ds.length
  | _, _, .nil => rfl
  | _, _, .cons _ t => by rw [List.length_cons, List.length_cons, dps_get t]
def rMinDat (K : PySem.W.Frag) : List V → Hp → VK → Prop := fun vs H Q => ∃ (a : Addr) (ys : List V) (ds : List PyData), vs = [V.ref a] ∧ SqL K H a ys ∧ DpAll K H ys ds ∧ PySem.W.AlikeAll ds ∧ PyData.depthAll ds ≤ 60 ∧ ds ≠ [] ∧
  ∀ (i : Nat) (v : V) (d : PyData), ys[i]? = some v → ds[i]? = some d → (∀ e ∈ ds, PySem.W.dataLt e d = false) → Q v H
def rMinDef (K : PySem.W.Frag) : List V → List V → Hp → VK → Prop := fun vs zs H Q => ∃ (a : Addr) (ys : List V) (ds : List PyData) (z : V), vs = [V.ref a] ∧ zs = [z] ∧ SqL K H a ys ∧ DpAll K H ys ds ∧ PySem.W.AlikeAll ds ∧ PyData.depthAll ds ≤ 60 ∧ (ds = [] → Q z H) ∧
  ∀ (i : Nat) (v : V) (d : PyData), ys[i]? = some v → ds[i]? = some d → (∀ e ∈ ds, PySem.W.dataLt e d = false) → Q v H
section
variable {X : Cx}
theorem min_fin {pins : List (Addr × Obj)} {σ : L2.St} {H : Hp} {s : Shared} {ys : List V} {its : List Value} {y : PyData} {yr : List PyData} {as : List Addr} {Q : VK} (I : Inv X pins σ H s) (rv : Vals ys its) (hr : ReadsAll s.heap its (y :: yr) as)
    (q : ∀ (i : Nat) (v : V) (d : PyData), ys[i]? = some v → (y :: yr)[i]? = some d → (∀ e ∈ y :: yr, PySem.W.dataLt e d = false) → Q v H)
    (i : Nat) (v : Value) (h' : Heap) (tk : Nat) (bs : List Addr) (hv : its.toArray[i]? = some v) (hm : Reads h' v (PySem.W.minD y yr) bs) (kp : ∀ b o, s.heap.get? b = some o → h'.get? b = some o) : EP X pins σ Q v { s with heap := h', toks := tk } := by
  have hv2 : its[i]? = some v := by rw [← hv, List.getElem?_toArray]
  obtain ⟨cs, r, hlt, _, _⟩ := PySem.W.readsAll_at hr i v hv2
  have e1 : (y :: yr).getD i .none = PySem.W.minD y yr := ((PySem.Reads.unique (PySem.W.reads_keeps kp r)) _ _ hm).1
  have hd : (y :: yr)[i]? = some (PySem.W.minD y yr) := by
    rw [List.getElem?_eq_getElem hlt]
    rw [List.getD_eq_getElem?_getD, List.getElem?_eq_getElem hlt] at e1
    exact congrArg some e1
  have hyl : i < ys.length := by
    rw [rv.length]
    exact (List.getElem?_eq_some_iff.mp hv2).1
  obtain ⟨u, hu, ru⟩ := rv.get (List.getElem?_eq_getElem hyl)
  rw [hv2] at hu
  cases hu
  exact ⟨ys[i], H, I.kept (t' := tk) kp, ru, q i _ _ (List.getElem?_eq_getElem hyl) hd (minD_least yr y).1⟩
theorem cr_minDat (hc : X.calm = true) (hu : X.A.units + 64 < cLine) : CallR X (.builtin "min") (rMinDat X.K) := by
  intro pins s σ H vs us Q I r h
  obtain ⟨a, ys, ds, rfl, hs, hd, hal, hdp, hne, q⟩ := h
  obtain ⟨its, rv, hl, hz⟩ := I.list hs
  rw [Vals.ref1 r]
  obtain ⟨as, hr⟩ := Dp.readsAll I ds ys its hd rv
  cases ds with
  | nil => exact absurd rfl hne
  | cons y yr => exact PySem.W.min_list_data (I.ok.hd hc) hl.isList (by rw [List.toList_toArray]; exact hr) hal (by omega) (fun i v h' tk bs hv hm kp => min_fin I rv hr q i v h' tk bs hv hm kp)
theorem cr_minDef (hc : X.calm = true) (hu : X.A.units + 64 < cLine) : CallRK X (.builtin "min") [Str.ofString "default"] (rMinDef X.K) := by
  intro pins s σ H vs zs us ws Q I r rz h
  obtain ⟨a, ys, ds, z, rfl, rfl, hs, hd, hal, hdp, q0, q⟩ := h
  obtain ⟨its, rv, hl, hz⟩ := I.list hs
  obtain rfl := Vals.ref1 r
  obtain ⟨w1, rfl, e1⟩ := vals1 rz
  obtain ⟨as, hr⟩ := Dp.readsAll I ds ys its hd rv
  refine PySem.W.min_list_default (xs := ds) (I.ok.hd hc) hl.isList (by rw [List.toList_toArray]; exact hr) hal (by omega) (fun e h' tk kp => ⟨z, H, I.kept (t' := tk) kp, e1, q0 e⟩) fun y yr i v h' tk bs e hv hm kp => ?_
  subst e
  exact min_fin I rv hr q i v h' tk bs hv hm kp
end
theorem pys_map (ds : List D) : D.pys ds = ds.map D.py := by
  induction ds with
  | nil => rfl
  | cons d r ih => show d.py :: D.pys r = _; rw [ih]; rfl
structure OkMin (ds : List D) : Prop where
  pl : D.plains ds = true
  al : ∀ x ∈ ds, ∀ y ∈ ds, PySem.W.alike x.py y.py = true
  nn : ∀ x ∈ ds, x.py ≠ .none
  dp : PyData.depthAll (D.pys ds) ≤ 60
theorem OkMin.all {ds : List D} (h : OkMin ds) : PySem.W.AlikeAll (D.pys ds) := by
  rw [pys_map]
  refine ⟨fun x hx y hy => ?_, fun x hx => ?_⟩
  · obtain ⟨a, ha, rfl⟩ := List.mem_map.mp hx
    obtain ⟨b, hb, rfl⟩ := List.mem_map.mp hy
    exact h.al a ha b hb
  · obtain ⟨a, ha, rfl⟩ := List.mem_map.mp hx
    exact h.nn a ha
def least (ds : List D) (d : D) : Prop := d ∈ ds ∧ ∀ e ∈ ds, PySem.W.dataLt e.py d.py = false
def kMinD : K1 := fun x P => ∃ ds, x = .lst ds ∧ ds ≠ [] ∧ OkMin ds ∧ ∀ d, least ds d → P d
theorem kMinD_mono : Mono1 kMinD := fun x P P' h ⟨ds, e, a, b, q⟩ => ⟨ds, e, a, b, fun d hd => h _ (q d hd)⟩
theorem least_of {K : PySem.W.Frag} {M : Addr → Prop} {H : Hp} {vs : List V} {ds : List D} (r : RpAll K M H vs ds) {i : Nat} {v : V} {d : PyData} (h1 : vs[i]? = some v) (h2 : (D.pys ds)[i]? = some d) (h3 : ∀ e ∈ D.pys ds, PySem.W.dataLt e d = false) : ∃ x, least ds x ∧ Rp K M H v x := by
  obtain ⟨x, hx, rx⟩ := r.getV h1
  rw [pys_map, List.getElem?_map, hx] at h2
  cases h2
  refine ⟨x, ⟨List.mem_of_getElem? hx, fun e he => h3 _ ?_⟩, rx⟩
  rw [pys_map]
  exact List.mem_map.mpr ⟨e, he, rfl⟩
theorem kMinD_op {K : PySem.W.Frag} : Op1L K (rMinDat K) kMinD := fun M H v x P Q r _ q fin => by
  obtain ⟨ds, rfl, hne, ok, q⟩ := q
  obtain ⟨a, vs, rfl, ha, ra⟩ := r.lst
  refine ⟨a, vs, D.pys ds, rfl, .of ha, RpAll.dp ok.pl ra, ok.all, ok.dp, fun e => hne (by rw [pys_map] at e; exact List.map_eq_nil_iff.mp e), fun i v d h1 h2 h3 => ?_⟩
  obtain ⟨x, lx, rx⟩ := least_of ra h1 h2 h3
  exact fin _ _ H (q x lx) (Same.refl H) rx
section
variable {X : Cx} {Φ : Cl} [ok : ClOk Φ] {pos : Pos} {e a b c : Expr} {wa wb wc : WE} {M : Addr → Prop} {σ : L2.St} {H : Hp} {ρ : Ev}
/-- min(xs, default=d) -/
def wMinDef (wl : WA) (wz : WE) : WE := fun ρ Q => wl ρ fun ds ρ1 => wz ρ1 fun z ρ2 => OkMin ds ∧ (ds = [] → Q z ρ2) ∧ ∀ d, least ds d → Q d ρ2
theorem qe_minDef {x : Str} {p : Pos} {wl : WA} {kpos : Pos} (hK : X.K = Φ.K) (hc : X.calm = true) (hu : X.A.units + 64 < cLine) (hg : Gl X x) (hm : X.mg x = none) (hv : bootBuiltins x = some (.builtin "min")) (ha : QF X Φ a wl) (hb : QE X Φ b wb) (hn : x ≠ "__name__" := by decide) (hdb : (x == ("__debug__" : Str)) = false := by decide)
    (na : starEach (a :: []) X.env = (false, eval a X.env) :: starEach [] X.env := by rfl)
    (he : backTo pos (starEach [a] X.env) = (false, eval a X.env) :: backTo pos (starEach [] X.env) := by rfl) (hpl : (backTo pos (starEach [a] X.env)).any (·.1) = false := by rfl)
    (hall : (backToKw pos (keywordEach [⟨some (Str.ofString "default"), b, kpos⟩] X.env)).all (·.1.isSome) = true := by rfl) (hnone : (backToKw pos (keywordEach [⟨some (Str.ofString "default"), b, kpos⟩] X.env)).any (·.1.isNone) = false := by rfl) (hks : (backToKw pos (keywordEach [⟨some (Str.ofString "default"), b, kpos⟩] X.env)).filterMap (·.1) = [Str.ofString "default"] := by rfl) :
    QE X Φ (.Call (.Name x p) [a] [⟨some (Str.ofString "default"), b, kpos⟩] pos) (wMinDef wl wb) := by
  refine ⟨fun ρ Q Q' h q => ha.mono ρ _ _ (fun ds ρ1 q1 => hb.mono ρ1 _ _ (fun z ρ2 q2 => ⟨q2.1, fun e => h _ _ (q2.2.1 e), fun d hd => h _ _ (q2.2.2 d hd)⟩) q1) q, PEw (pe_callBK (cr_minDef hc hu) hg hm hv (pa_cons (QF.qe ha).run pa_nil na) (pk_cons hb.run pk_nil) hn hdb he hpl hall hnone hks) fun σ H Q ⟨M, ρ, A, q⟩ => ?_⟩
  refine ⟨M, ρ, A, ha.mono ρ _ _ (fun ds ρ1 q1 => ?_) q⟩
  intro M1 v H1 A1 S1 r1
  refine ⟨M1, ρ1, A1, hb.mono ρ1 _ _ (fun z ρ2 q2 => ?_) q1⟩
  intro M2 u H2 A2 S2 r2
  obtain ⟨ok, q0, q3⟩ := q2
  obtain ⟨a, vs, rfl, hh, ra⟩ := RpB.lst (.inl (r1.step S2))
  rw [hK]
  refine ⟨a, vs, D.pys ds, u, rfl, rfl, .of hh, RpAll.dp ok.pl ra, ok.all, ok.dp, fun e => ?_, fun i v d h1 h2 h3 => ?_⟩
  · exact q0 (by rw [pys_map] at e; exact List.map_eq_nil_iff.mp e) M2 _ _ A2 (S1.trans S2) r2
  · obtain ⟨x, lx, rx⟩ := least_of ra h1 h2 h3
    exact q3 x lx M2 _ _ A2 (S1.trans S2) rx
end
end AL
set_option Elab.async false
set_option linter.all false
set_option maxRecDepth 100000
set_option maxHeartbeats 1000000
namespace AL
open PySem PySem.Spec PyProof.Rows L2
theorem room65 {k : Nat} {A : Around} (r : Room k A) : A.units + 65 < cLine := by have := r.un; omega
/-- x in xs, x not in xs: by their data -/
def kInD (neg : Bool) : K2 := fun x y P => match y with
  | .lst xs => okD x = true ∧ okD (.lst xs) = true ∧ P (.bl (if neg then !xs.any fun z => eqD z x else xs.any fun z => eqD z x))
  | _ => False
theorem kInD_mono {neg : Bool} : Mono2 (kInD neg) := fun x y P P' h q => by
  cases y <;> first | exact q.elim | exact ⟨q.1, q.2.1, h _ q.2.2⟩
theorem okD_split {d : D} (h : okD d = true) : d.plain = true ∧ SeqAt.shaped d.py = true := Bool.and_eq_true_iff.mp h
theorem any_py (xs : List D) (x : D) : ((D.pys xs).any fun z => PyData.eqv z x.py) = xs.any fun z => eqD z x := by
  rw [pys_map, List.any_map]; rfl
theorem kIn_opD {K : PySem.W.Frag} : Op2 K (rInD K) (kInD false) := fun M H v u x y P Q r1 r2 hM q fin => by
  cases y with
  | lst xs =>
    obtain ⟨o1, o2, q⟩ := q
    obtain ⟨p1, s1⟩ := okD_split o1
    obtain ⟨p2, s2⟩ := okD_split o2
    refine ⟨x.py, D.pys xs, r1.dp p1, r2.dp p2, s1, s2, ?_⟩
    rw [any_py]
    exact fin _ _ H q (Same.refl H) (.bl _)
  | _ => exact q.elim
theorem kNotIn_opD {K : PySem.W.Frag} : Op2 K (rNotInD K) (kInD true) := fun M H v u x y P Q r1 r2 hM q fin => by
  cases y with
  | lst xs =>
    obtain ⟨o1, o2, q⟩ := q
    obtain ⟨p1, s1⟩ := okD_split o1
    obtain ⟨p2, s2⟩ := okD_split o2
    refine ⟨x.py, D.pys xs, r1.dp p1, r2.dp p2, s1, s2, ?_⟩
    rw [any_py]
    exact fin _ _ H q (Same.refl H) (.bl _)
  | _ => exact q.elim
section
variable {X : Cx} {Φ : Cl} [ok : ClOk Φ] {pos : Pos} {e a b c : Expr} {wa wb wc : WE} {M : Addr → Prop} {σ : L2.St} {H : Hp} {ρ : Ev}
/-- xs.index(x) -/
def isIdx (l x : D) (P : D → Prop) : Prop := match l with
  | .lst xs => okD (.lst xs) = true ∧ okD x = true ∧ ∃ (j : Nat) (z : D), xs[j]? = some z ∧ eqD z x = true ∧ (∀ (m : Nat) (z' : D), m < j → xs[m]? = some z' → eqD z' x = false) ∧ P (.int (j : Nat))
  | _ => False
theorem isIdx_mono {l x : D} {P P' : D → Prop} (h : ∀ z, P z → P' z) (q : isIdx l x P) : isIdx l x P' := by
  cases l <;> first | exact q.elim | exact (let ⟨a, b, j, z, c, d, e, p⟩ := q; ⟨a, b, j, z, c, d, e, h _ p⟩)
def wIdx (i : Nat) (wa : WE) : WE := fun ρ Q => valE ρ[i]? fun l0 => (∃ xs, l0 = .lst xs) ∧ wa ρ fun x ρ1 => valE ρ1[i]? fun l => isIdx l x fun z => Q z ρ1
theorem qe_index {i : Nat} {x : Str} {p : Pos} (hK : X.K = Φ.K) (hN : X.N[i]? = some x) (hv : Vis X.env.scope x) (ha : QE X Φ e wa) (hd : (x == ("__debug__" : Str)) = false := by decide) (hcd : (x == ("__classdict__" : Str)) = false := by decide)
    (mk : ∀ ta tb, PE X (.Name x p) ta → PA X [e] tb → PE X c (tBM X.K "list" (rIndexD X.K) ta tb)) (hs : starEach (e :: []) X.env = (false, eval e X.env) :: starEach [] X.env := by rfl) : QE X Φ c (wIdx i wa) := by
  refine ⟨fun ρ Q Q' h q => valE_mono (fun l p => ⟨p.1, ha.mono ρ _ _ (fun x ρ1 q1 => valE_mono (fun l p => isIdx_mono (fun z p => h _ _ p) p) q1) p.2⟩) q, PEw (mk _ _ (pe_var hN hv hd hcd) (pa_cons ha.run pa_nil hs)) fun σ H Q ⟨M, ρ, A, q⟩ => ?_⟩
  obtain ⟨v, l0, es, r0, ⟨xs0, rfl⟩, q⟩ := valE_rp A q
  obtain ⟨a0, vs0, rfl, hh0, rr0⟩ := r0.lst
  refine ⟨.ref a0, es, .inl ⟨rfl, _, SqL.of hh0⟩, M, ρ, A, ha.mono ρ _ _ (fun x ρ1 q1 => ?_) q⟩
  intro M1 u H1 A1 S1 r1
  obtain ⟨v1, l1, es1, r2, q2⟩ := valE_rp A1 q1
  rw [es] at es1; cases es1
  cases l1 with
  | lst xs =>
    obtain ⟨o1, o2, j, z, hz, hj, hno, p⟩ := q2
    obtain ⟨p1, s1⟩ := okD_split o1
    obtain ⟨p2, s2⟩ := okD_split o2
    obtain ⟨a1, vs1, e1, hh1, rr1⟩ := r2.lst
    cases e1
    rw [hK]
    refine ⟨a0, u, x.py, D.pys xs, j, z.py, rfl, rfl, r2.dp p1, RpB.dp p2 (.inl r1), s1, s2, by rw [pys_map, List.getElem?_map, hz]; rfl, hj, fun m z' hm hz' => ?_, p M1 _ _ A1 S1 (.int _)⟩
    rw [pys_map, List.getElem?_map] at hz'
    cases h : xs[m]? with
    | none => rw [h] at hz'; cases hz'
    | some w =>
      rw [h] at hz'
      cases hz'
      exact hno m w hm h
  | _ => exact q2.elim
end
end AL
set_option Elab.async false
set_option linter.all false
set_option maxRecDepth 100000
set_option maxHeartbeats 4000000
/-! objects in the layer: what is written, what is made -/
namespace AL
open PySem PySem.Spec PyProof.Rows L2
section
variable {X : Cx} {Φ : Cl} [ok : ClOk Φ] {M : Addr → Prop} {σ : L2.St} {H H' : Hp} {ρ : Ev}
def moreF (M F : Addr → Prop) : Addr → Prop := fun b => M b ∨ F b
theorem set_own {ρ : Ev} {i j : Nat} {w w' : Bool} {F : Addr → Prop} {P} {ys : List D} (h : (ρ.set i (.obj w F P))[j]? = some (.own w' ys)) : i ≠ j ∧ ρ[j]? = some (.own w' ys) := by
  by_cases hj : i = j
  · subst hj
    have hi : i < ρ.length := by have := (List.getElem?_eq_some_iff.mp h).1; rwa [List.length_set] at this
    rw [List.getElem?_set_self hi] at h; cases h
  · rw [List.getElem?_set_ne hj] at h; exact ⟨hj, h⟩
/-- an object is written -/
theorem Abs.putObj (A : Abs Φ M σ H ρ) {i : Nat} {w : Bool} {F : Addr → Prop} {P P' : (Addr → Prop) → Hp → Addr → Prop} {a : Addr} (e : ρ[i]? = some (.obj w F P)) (es : σ[i]? = some (some (.ref a))) (keep : ∀ b o, ¬ F b → H b = some o → H' b = some o)
    (new : ∀ b, F b → ∃ o, H' b = some o ∧ MutO o) (g' : StabO F P') (hP : P' M H' a) : Abs Φ M σ H' (ρ.set i (.obj w F P')) ∧ Step M H M H' := by
  obtain ⟨a', e1, f, g, r⟩ := A.slot i _ _ e es
  cases e1
  have nM : ∀ {b o}, H b = some o → ¬ MutO o → ¬ F b := fun {b o} h n z => by
    obtain ⟨o', h', m⟩ := A.lst b (f b z).1
    rw [h] at h'; cases h'; exact n m
  have st : Step M H M H' := ⟨fun b o hm h => ⟨hm, keep b o (fun z => hm (f b z).1) h⟩, fun b xs h => keep b _ (nM h fun z => z) h, fun b o u h => keep b _ (nM h fun z => z) h⟩
  have hi : i < ρ.length := (List.getElem?_eq_some_iff.mp e).1
  refine ⟨⟨by rw [List.length_set]; exact A.len, fun j en o h1 h2 => ?_, fun j k p w1 w2 ys zs h1 h2 h3 h4 => A.inj j k p w1 w2 ys zs (set_own h1).2 (set_own h2).2 h3 h4, fun b hb => ?_, A.m0, fun b o h1 h2 => ?_, A.wm, fun b o h => ?_, fun j k b ys zs h1 h2 h3 h4 => A.injd j k b ys zs (not_dic (fun _ => En.noConfusion) h1).2 (not_dic (fun _ => En.noConfusion) h2).2 h3 h4, A.tabs st fun P ps m h => ⟨m, keep _ _ (fun z => g.2 _ _ _ r _ z ps h) h⟩, fun j k w2 G Q en b hjk h1 h2 h3 => ?_⟩, st⟩
  · by_cases hj : i = j
    · subst hj
      rw [List.getElem?_set_self hi] at h1
      cases h1
      rw [es] at h2; cases h2
      exact ⟨a, rfl, f, g', hP⟩
    · rw [List.getElem?_set_ne hj] at h1
      have q := A.slot j en o h1 h2
      cases en with
      | un => trivial
      | d x => obtain ⟨v, e1, r1⟩ := q; exact ⟨v, e1, r1.step st⟩
      | own w' zs =>
        obtain ⟨b, ws, e1, m1, h3, r1, z1⟩ := q
        subst e1
        exact ⟨b, ws, rfl, m1, keep b _ (A.far i j w F P (.own w' zs) b hj e h1 h2) h3, r1.step st, z1⟩
      | dic ks =>
        obtain ⟨b, P1, w1, ws, e1, m1, h3, r1, z1⟩ := q
        subst e1
        exact ⟨b, P1, w1, ws, rfl, m1, keep b _ (A.far i j w F P (.dic ks) b hj e h1 h2) h3, r1.step st, z1⟩
      | obj w2 G Q =>
        obtain ⟨b, e1, f2, g2, r2⟩ := q
        subst e1
        have nf : ∀ c, F c → ¬ G c := A.far i j w F P (.obj w2 G Q) b hj e h1 h2
        refine ⟨b, rfl, f2, g2, g2.1 _ _ _ _ _ st (fun c hc => ?_) r2⟩
        obtain ⟨o, hb', _⟩ := A.lst c (f2 c hc).1
        rw [hb', keep c o (fun z => nf c z hc) hb']
  · by_cases z : F b
    · exact new b z
    · obtain ⟨o, q, mu⟩ := A.lst b hb
      exact ⟨o, keep b o z q, mu⟩
  · refine keep b o (fun z => ?_) (A.keep b o h1 h2)
    have := (f b z).2.1
    cases w with
    | true => exact h2 this
    | false => rw [if_neg Bool.false_ne_true, h1] at this; cases this
  · refine ⟨(A.hold b o h).1, keep b o (fun z => ?_) (A.hold b o h).2⟩
    rw [(f b z).2.2] at h; cases h
  · by_cases hj : i = j
    · subst hj
      rw [List.getElem?_set_self hi] at h1
      cases h1
      rw [List.getElem?_set_ne hjk] at h2
      exact A.far i k w F P en b hjk e h2 h3
    · rw [List.getElem?_set_ne hj] at h1
      by_cases hk : i = k
      · subst hk
        rw [List.getElem?_set_self hi] at h2
        cases h2
        exact A.far j i w2 G Q (.obj w F P) b hjk h1 e h3
      · rw [List.getElem?_set_ne hk] at h2
        exact A.far j k w2 G Q en b hjk h1 h2 h3
/-- an object is made -/
theorem Abs.newObj (A : Abs Φ M σ H ρ) {i : Nat} {F : Addr → Prop} {P : (Addr → Prop) → Hp → Addr → Prop} {a : Addr} (same : Same H H') (fr : ∀ b, F b → H b = none) (new : ∀ b, F b → ∃ o, H' b = some o ∧ MutO o) (g : StabO F P) (hP : P (moreF M F) H' a) :
    Abs Φ (moreF M F) (σ.set i (some (.ref a))) H' (ρ.set i (.obj false F P)) ∧ Step M H (moreF M F) H' := by
  have st : Step M H (moreF M F) H' := ⟨fun b o hm h => ⟨fun z => z.elim hm (fun z => by rw [fr b z] at h; cases h), same b o h⟩, fun b xs h => same b _ h, fun b o u h => same b _ h⟩
  have h0 : ∀ p, F p → Φ.H0 p = none := fun p hp => by
    cases q : Φ.H0 p with
    | none => rfl
    | some o =>
      by_cases hw : Φ.W p
      · obtain ⟨vs, z, _⟩ := A.lst p (A.m0 p (A.wm p hw))
        rw [fr p hp] at z; cases z
      · have := A.keep p o q hw
        rw [fr p hp] at this; cases this
  have ht : ∀ p, F p → Φ.T p = none := fun p hp => by
    cases q : Φ.T p with
    | none => rfl
    | some o => have := (A.hold p o q).2; rw [fr p hp] at this; cases this
  have old : ∀ b, M b → ¬ F b := fun b hm z => by
    obtain ⟨o, h, _⟩ := A.lst b hm
    rw [fr b z] at h; cases h
  refine ⟨⟨by rw [List.length_set, List.length_set]; exact A.len, fun j en o h1 h2 => ?_, fun j k p w1 w2 ys zs h1 h2 h3 h4 => ?_, fun b hb => ?_, fun b hb => .inl (A.m0 b hb), fun b o h1 h2 => same b o (A.keep b o h1 h2), A.wm, fun b o h => ⟨.inl (A.hold b o h).1, same b o (A.hold b o h).2⟩, fun j k b ys zs h1 h2 h3 h4 => ?_, A.tabs st fun P ps m h => ⟨.inl m, same _ _ h⟩, fun j k w2 G Q en b hjk h1 h2 h3 => ?_⟩, st⟩
  · by_cases hj : i = j
    · subst hj
      have hi : i < ρ.length := by have := (List.getElem?_eq_some_iff.mp h1).1; rwa [List.length_set] at this
      rw [List.getElem?_set_self hi] at h1
      cases h1
      rw [List.getElem?_set_self (by rw [A.len]; exact hi)] at h2
      cases h2
      exact ⟨a, rfl, fun b hb => ⟨.inr hb, by rw [if_neg Bool.false_ne_true]; exact h0 b hb, ht b hb⟩, g, hP⟩
    · rw [List.getElem?_set_ne hj] at h1 h2
      have q := A.slot j en o h1 h2
      cases en with
      | un => trivial
      | d x => obtain ⟨v, e1, r1⟩ := q; exact ⟨v, e1, r1.step st⟩
      | own w' zs => obtain ⟨b, ws, e1, m1, h3, r1, z1⟩ := q; exact ⟨b, ws, e1, .inl m1, same b _ h3, r1.step st, z1⟩
      | dic ks => obtain ⟨b, P1, w1, ws, e1, m1, h3, r1, z1⟩ := q; exact ⟨b, P1, w1, ws, e1, .inl m1, same b _ h3, r1.step st, z1⟩
      | obj w2 G Q =>
        obtain ⟨b, e1, f2, g2, r2⟩ := q
        refine ⟨b, e1, fun c hc => ⟨.inl (f2 c hc).1, (f2 c hc).2⟩, g2, g2.1 _ _ _ _ _ st (fun c hc => ?_) r2⟩
        obtain ⟨o, hb', _⟩ := A.lst c (f2 c hc).1
        rw [hb', same c o hb']
  · obtain ⟨n1, g1⟩ := set_own h1
    obtain ⟨n2, g2⟩ := set_own h2
    rw [List.getElem?_set_ne n1] at h3
    rw [List.getElem?_set_ne n2] at h4
    exact A.inj j k p w1 w2 ys zs g1 g2 h3 h4
  · rcases hb with hb | hb
    · obtain ⟨o, q, mu⟩ := A.lst b hb
      exact ⟨o, same b o q, mu⟩
    · exact new b hb
  · obtain ⟨n1, g1⟩ := not_dic (fun _ => En.noConfusion) h1
    obtain ⟨n2, g2⟩ := not_dic (fun _ => En.noConfusion) h2
    rw [List.getElem?_set_ne n1] at h3
    rw [List.getElem?_set_ne n2] at h4
    exact A.injd j k b ys zs g1 g2 h3 h4
  · have slotM : ∀ {j : Nat} {w2 : Bool} {G : Addr → Prop} {Q}, ρ[j]? = some (.obj w2 G Q) → ∀ c, G c → M c := fun {j w2 G Q} h c hc => by
      have hj : j < σ.length := by rw [A.len]; exact (List.getElem?_eq_some_iff.mp h).1
      obtain ⟨b, e1, f2, _⟩ := A.slot j _ _ h (List.getElem?_eq_getElem hj)
      exact (f2 c hc).1
    by_cases hj : i = j
    · subst hj
      have hi : i < ρ.length := by have := (List.getElem?_eq_some_iff.mp h1).1; rwa [List.length_set] at this
      rw [List.getElem?_set_self hi] at h1
      cases h1
      rw [List.getElem?_set_ne hjk] at h2 h3
      cases en with
      | un => trivial
      | d x => trivial
      | own w' zs =>
        obtain ⟨c, ws, e1, m1, _⟩ := A.slot k _ _ h2 h3
        cases e1
        exact old _ m1
      | dic ks =>
        obtain ⟨c, P1, w1, ws, e1, m1, _⟩ := A.slot k _ _ h2 h3
        cases e1
        exact old _ m1
      | obj w2 G Q => exact fun c hc hg => old c (slotM h2 c hg) hc
    · rw [List.getElem?_set_ne hj] at h1
      by_cases hk : i = k
      · subst hk
        have hi : i < ρ.length := by have := (List.getElem?_eq_some_iff.mp h2).1; rwa [List.length_set] at this
        rw [List.getElem?_set_self hi] at h2
        cases h2
        exact fun c hc hg => old c (slotM h1 c hc) hg
      · rw [List.getElem?_set_ne hk] at h2 h3
        exact A.far j k w2 G Q en b hjk h1 h2 h3
end
end AL
set_option Elab.async false
set_option linter.all false
set_option maxRecDepth 100000
set_option maxHeartbeats 4000000
/-! objects of an own class: their methods called, new ones made -/
namespace AL
open PySem PySem.Spec PyProof.Rows L2
section
variable {St Nd : Type}
/-- an entry that stands for an object in the state st -/
def NE (F : Nd → Addr → Prop) (at_ : St → Nd → (Addr → Prop) → Hp → Addr → Prop) (nd : Nd) (st : St) (e : En) : Prop := ∃ w, e = .obj w (F nd) (at_ st nd)
/-- what the layer asks of the objects of a class: nm the names that are no field's -/
structure ObjC (K : PySem.W.Frag) (C : Addr) (nm : Str → Bool) (F : Nd → Addr → Prop) (at_ : St → Nd → (Addr → Prop) → Hp → Addr → Prop) : Prop where
  cl : Cls K C
  stab : ∀ st nd, StabO (F nd) (at_ st nd)
  ins : ∀ st nd M H a, at_ st nd M H a → ∃ dx fs, H a = some (.ins C dx fs) ∧ ∀ m, nm m = true → fs.lookup m = none
  self : ∀ st nd M H M' H' a b st', at_ st nd M H a → at_ st' nd M' H' b → a = b
abbrev OSp (St : Type) := St → List D → (D → St → Prop) → Prop
def MonoO (s : OSp St) : Prop := ∀ st xs P P', (∀ y st', P y st' → P' y st') → s st xs P → s st xs P'
/-- the promise of a method -/
def liftOb (K : PySem.W.Frag) (F : Nd → Addr → Prop) (at_ : St → Nd → (Addr → Prop) → Hp → Addr → Prop) (s : OSp St) : Sp := fun vs H Q E => ∃ M nd st a us xs, vs = .ref a :: us ∧ (∀ p, M p → ∃ o, H p = some o ∧ MutO o) ∧ (∀ b, F nd b → M b) ∧ at_ st nd M H a ∧ RpAll K M H us xs ∧
  s st xs fun y st' => ∀ v H', (∀ b o, ¬ F nd b → H b = some o → H' b = some o) → (∀ b, F nd b → ∃ o, H' b = some o ∧ MutO o) → at_ st' nd M H' a → Rp K M H' v y → Q v H'
/-- the promise of __init__ -/
abbrev ISp (St : Type) := List D → (St → Prop) → Prop
def liftIb (K : PySem.W.Frag) (C : Addr) (F : Nd → Addr → Prop) (at_ : St → Nd → (Addr → Prop) → Hp → Addr → Prop) (s : ISp St) : Sp := fun vs H Q E => ∃ M a dx us xs, vs = .ref a :: us ∧ H a = some (.ins C dx []) ∧ ¬ M a ∧ (∀ p, M p → ∃ o, H p = some o ∧ MutO o) ∧ RpAll K M H us xs ∧
  s xs fun st => ∀ nd H', (∀ b o, b ≠ a → H b = some o → H' b = some o) → F nd a → (∀ b, F nd b → b ≠ a → H b = none) → (∀ b, F nd b → ∃ o, H' b = some o ∧ MutO o) → at_ st nd (moreF M (F nd)) H' a → Q .non H'
section
variable {X : Cx} {Φ : Cl} [ok : ClOk Φ] {pos : Pos} {e a b c : Expr} {es : List Expr} {wa wb wc : WE} {wr : WA} {M : Addr → Prop} {σ : L2.St} {H : Hp} {ρ : Ev}
variable {C : Addr} {nm : Str → Bool} {F : Nd → Addr → Prop} {at_ : St → Nd → (Addr → Prop) → Hp → Addr → Prop} {N : Nd → St → En → Prop}
/-- x.m(..), slot i the object -/
def wMeth (N : Nd → St → En → Prop) (i : Nat) (s : OSp St) (wr : WA) : WE := fun ρ Q => (∃ nd st e, ρ[i]? = some e ∧ N nd st e) ∧ wr ρ fun xs ρ1 => ∃ nd st e, ρ1[i]? = some e ∧ N nd st e ∧ s st xs fun y st' => ∀ e', N nd st' e' → Q y (ρ1.set i e')
theorem wMeth_mono {i : Nat} {s : OSp St} (sm : MonoO s) (hm : ∀ ρ Q Q', (∀ x ρ', Q x ρ' → Q' x ρ') → wr ρ Q → wr ρ Q') : ∀ ρ Q Q', (∀ x ρ', Q x ρ' → Q' x ρ') → wMeth N i s wr ρ Q → wMeth N i s wr ρ Q' := fun ρ Q Q' h q =>
  ⟨q.1, hm ρ _ _ (fun xs ρ1 ⟨nd, st, e, a, b, c⟩ => ⟨nd, st, e, a, b, sm st xs _ _ (fun y st' p e' he => h _ _ (p e' he)) c⟩) q.2⟩
variable {k : Nat} {f : Addr} {fd : FuncData} {ps : List Str} {CX : CXT} {E : XK}
theorem meth_run {i : Nat} {s : OSp St} {m : Str} {tl : TA} {x : Str} (OC : ObjC X.K C nm F at_) (hK : X.K = Φ.K) (hnm : nm m = true) (sm : MonoO s) (hw : ∀ ρ Q Q', (∀ x ρ', Q x ρ' → Q' x ρ') → wr ρ Q → wr ρ Q') (ht : ∀ σ H Q, liftA Φ wr σ H Q → tl σ H Q) : ∀ σ H Q, liftE Φ (wMeth (NE F at_) i s wr) σ H Q → tMeth C m (liftOb X.K F at_ s) [] E (tVar i) tl σ H Q := by
  intro σ H Q ⟨M, ρ, A, ⟨nd0, st0, e0, h0, w0, e1⟩, q⟩
  subst e1
  have hi : i < σ.length := by rw [A.len]; exact (List.getElem?_eq_some_iff.mp h0).1
  obtain ⟨a, ea, f0, g0, r0⟩ := A.slot i _ _ h0 (List.getElem?_eq_getElem hi)
  obtain ⟨dx, fs, hins, nl⟩ := OC.ins _ _ _ _ _ r0
  have hs : σ[i]? = some (some (.ref a)) := by rw [List.getElem?_eq_getElem hi, ea]
  refine ⟨.ref a, hs, a, dx, fs, rfl, hins, nl m hnm, ht σ H _ ⟨M, ρ, A, hw ρ _ _ (fun xs ρ1 q1 => ?_) q⟩⟩
  intro M1 us H1 A1 S1 r1
  obtain ⟨nd, st, e, h1, ⟨w, e2⟩, q2⟩ := q1
  subst e2
  obtain ⟨a', ea', f', g', r'⟩ := A1.slot i _ _ h1 hs
  cases ea'
  rw [List.append_nil]
  refine ⟨M1, nd, st, a, us, xs, rfl, A1.lst, fun b hb => (f' b hb).1, r', hK ▸ r1, sm st xs _ _ (fun y st' p v H' k n at' rv => ?_) q2⟩
  obtain ⟨A2, S2⟩ := A1.putObj h1 hs k n (OC.stab st' nd) at'
  exact p _ ⟨w, rfl⟩ M1 v H' A2 (S1.trans S2) (hK ▸ rv)
theorem qe_meth0 {i : Nat} {x m : Str} {p apos : Pos} {s : OSp St} {pl : Sem Bool} (OC : ObjC X.K C nm F at_) (hK : X.K = Φ.K) (hnm : nm m = true) (sm : MonoO s) (hN : X.N[i]? = some x) (hv : Vis X.env.scope x) (hme : Meth X.K C m f) (Fo : FnOk X.prog X.w X.K X.mg X.base CX k f fd ps (liftOb X.K F at_ s)) (hr : Room k X.A) (hb : Binds X.K fd ps []) (hx : Passes CX X E)
    (hd : (x == ("__debug__" : Str)) = false := by decide) (hcd : (x == ("__classdict__" : Str)) = false := by decide)
    (ht : eval (.Call (.Attribute (.Name x p) m apos) [] [] pos) X.env = (do
      let ov ← eval (.Name x p) X.env
      standAt apos.atName
      let (f, first) ← holding [ov] (getMethod ov m pl)
      callWith pos f first (backTo pos (starEach [] X.env)) (backToKw pos (keywordEach [] X.env))) := by rfl) : QE X Φ (.Call (.Attribute (.Name x p) m apos) [] [] pos) (wMeth (NE F at_) i s wNil) :=
  ⟨wMeth_mono sm (qa_nil (X := X) (Φ := Φ)).mono, PEw (pe_meth0 (pe_var hN hv hd hcd) OC.cl hme Fo hr hb .nil hx ht) (meth_run (x := x) OC hK hnm sm (qa_nil (X := X) (Φ := Φ)).mono fun σ H Q ⟨M, ρ, A, q⟩ => q M [] H A .refl .nil)⟩
theorem qe_meth {i : Nat} {x m : Str} {p apos : Pos} {s : OSp St} {pl : Sem Bool} (OC : ObjC X.K C nm F at_) (hK : X.K = Φ.K) (hnm : nm m = true) (sm : MonoO s) (hN : X.N[i]? = some x) (hv : Vis X.env.scope x) (hme : Meth X.K C m f) (Fo : FnOk X.prog X.w X.K X.mg X.base CX k f fd ps (liftOb X.K F at_ s)) (hr : Room k X.A) (hb : Binds X.K fd ps []) (hx : Passes CX X E)
    (ha : QA X Φ (e :: es) wr) (hd : (x == ("__debug__" : Str)) = false := by decide) (hcd : (x == ("__classdict__" : Str)) = false := by decide)
    (hst : starEach (e :: es) X.env = (false, eval e X.env) :: starEach es X.env := by rfl) (hpl : (backTo pos (starEach es X.env)).any (·.1) = false := by rfl)
    (ht : eval (.Call (.Attribute (.Name x p) m apos) (e :: es) [] pos) X.env = (do
      let ov ← eval (.Name x p) X.env
      standAt apos.atName
      let (f, first) ← holding [ov] (getMethod ov m pl)
      callWith pos f first (backTo pos (starEach (e :: es) X.env)) (backToKw pos (keywordEach [] X.env))) := by rfl) : QE X Φ (.Call (.Attribute (.Name x p) m apos) (e :: es) [] pos) (wMeth (NE F at_) i s wr) :=
  ⟨wMeth_mono sm ha.mono, PEw (pe_meth (pe_var hN hv hd hcd) OC.cl hme Fo hr hb .nil hx ha.run hst hpl ht) (meth_run (x := x) OC hK hnm sm ha.mono fun σ H Q h => h)⟩
/-- f(x, ..): the object handed to a def -/
theorem qe_callO {i : Nat} {x y : Str} {p p2 : Pos} {s : OSp St} (OC : ObjC X.K C nm F at_) (hK : X.K = Φ.K) (sm : MonoO s) (hN : X.N[i]? = some x) (hv : Vis X.env.scope x) (Fo : FnOk X.prog X.w X.K X.mg X.base CX k f fd ps (liftOb X.K F at_ s)) (hr : Room k X.A) (hm : X.mg y = some (.ref f)) (hkp : PySem.W.keepIn X.K (.ref f) = true) (hb : Binds X.K fd ps []) (hx : Passes CX X E)
    (ha : QA X Φ es wr) (hg : Gl X y := by rfl) (hd : (x == ("__debug__" : Str)) = false := by decide) (hcd : (x == ("__classdict__" : Str)) = false := by decide) (hdb : (y == ("__debug__" : Str)) = false := by decide)
    (he : starEach (.Name x p2 :: es) X.env = (false, eval (.Name x p2) X.env) :: starEach es X.env := by rfl) (hpl : (backTo pos (starEach es X.env)).any (·.1) = false := by rfl) : QE X Φ (.Call (.Name y p) (.Name x p2 :: es) [] pos) (wMeth (NE F at_) i s wr) := by
  refine ⟨wMeth_mono sm ha.mono, PEw (pe_call Fo hr hg hm hkp hb .nil hx (pa_cons (pe_var hN hv hd hcd) ha.run he) hdb he hpl) fun σ H Q ⟨M, ρ, A, ⟨nd0, st0, e0, h0, w0, e1⟩, q⟩ => ?_⟩
  subst e1
  have hi : i < σ.length := by rw [A.len]; exact (List.getElem?_eq_some_iff.mp h0).1
  obtain ⟨a, ea, f0, g0, r0⟩ := A.slot i _ _ h0 (List.getElem?_eq_getElem hi)
  have hs : σ[i]? = some (some (.ref a)) := by rw [List.getElem?_eq_getElem hi, ea]
  refine ⟨.ref a, hs, M, ρ, A, ha.mono ρ _ _ (fun xs ρ1 q1 => ?_) q⟩
  intro M1 us H1 A1 S1 r1
  obtain ⟨nd, st, e, h1, ⟨w, e2⟩, q2⟩ := q1
  subst e2
  obtain ⟨a', ea', f', g', r'⟩ := A1.slot i _ _ h1 hs
  cases ea'
  rw [List.append_nil]
  refine ⟨M1, nd, st, a, us, xs, rfl, A1.lst, fun b hb => (f' b hb).1, r', hK ▸ r1, sm st xs _ _ (fun y st' p v H' k n at' rv => ?_) q2⟩
  obtain ⟨A2, S2⟩ := A1.putObj h1 hs k n (OC.stab st' nd) at'
  exact p _ ⟨w, rfl⟩ M1 v H' A2 (S1.trans S2) (hK ▸ rv)
end
end
end AL
set_option Elab.async false
set_option linter.all false
set_option maxRecDepth 100000
set_option maxHeartbeats 4000000
/-! objects made: one, two, three at once -/
namespace AL
open PySem PySem.Spec PyProof.Rows L2
section
variable {St Nd : Type} {X : Cx} {Φ : Cl} [ok : ClOk Φ] {pos : Pos} {M : Addr → Prop} {σ : L2.St} {H : Hp} {ρ : Ev}
variable {C : Addr} {nm : Str → Bool} {F : Nd → Addr → Prop} {at_ : St → Nd → (Addr → Prop) → Hp → Addr → Prop} {N : Nd → St → En → Prop} {s : ISp St}
variable {k : Nat} {f : Addr} {fd : FuncData} {ps : List Str} {CX : CXT} {E : XK}
def MonoI (s : ISp St) : Prop := ∀ xs P P', (∀ st, P st → P' st) → s xs P → s xs P'
theorem make_run {i j : Nat} {x : D} {σ0 σ1 : L2.St} {Q : VK} (OC : ObjC X.K C nm F at_) (hK : X.K = Φ.K) (sm : MonoI s) (A : Abs Φ M σ1 H ρ) (hσ : σ0[i]? = σ1[i]?) (hρ : ρ[i]? = some (.d x))
    (q : s [x] fun st => ∀ a M' H' nd e', NE F at_ nd st e' → Abs Φ M' (σ1.set j (some (.ref a))) H' (ρ.set j e') → Step M H M' H' → Q (.ref a) H') : tMake C (liftIb X.K C F at_ s) [] E (tCons (tVar i) tNil) σ0 H Q := by
  have hi : i < σ1.length := by rw [A.len]; exact (List.getElem?_eq_some_iff.mp hρ).1
  obtain ⟨v, ev, r⟩ := A.slot i _ _ hρ (List.getElem?_eq_getElem hi)
  refine ⟨v, by rw [hσ, List.getElem?_eq_getElem hi, ev], fun y dx hy hdx hne => ?_⟩
  have same : Same H (upd (upd H dx (.own y)) y (.ins C dx [])) := fun b o h => by
    rw [upd_ne (fun z => by rw [z, hy] at h; cases h), upd_ne (fun z => by rw [z, hdx] at h; cases h)]
    exact h
  refine ⟨M, y, dx, [v], [x], rfl, upd_same, fun z => ?_, fun p hp => ?_, .cons (hK ▸ r.step (step_same same)) .nil, sm [x] _ _ (fun st p nd H' k1 k2 k3 k4 k5 => ?_) q⟩
  · obtain ⟨o, h, _⟩ := A.lst y z
    rw [hy] at h; cases h
  · obtain ⟨o, h, m⟩ := A.lst p hp
    exact ⟨o, same p o h, m⟩
  · have same2 : Same H H' := fun b o h => k1 b o (fun z => by rw [z, hy] at h; cases h) (same b o h)
    have fr : ∀ b, F nd b → H b = none := fun b hb => by
      by_cases z : b = y
      · rw [z]; exact hy
      · have h := k3 b hb z
        rw [upd_ne z] at h
        by_cases z2 : b = dx
        · rw [z2]; exact hdx
        · rw [upd_ne z2] at h; exact h
    obtain ⟨A', S'⟩ := A.newObj (i := j) same2 fr k4 (OC.stab st nd) k5
    exact ⟨rfl, p y _ H' nd _ ⟨false, rfl⟩ A' S'⟩
theorem tpar_i {i j : Nat} {ta : TA} {D : Ends} {σ : L2.St} {H : Hp} (h : ta σ H fun vs H1 => ∃ v w, vs = [v, w] ∧ D.nx ((σ.set i (some v)).set j (some w)) H1) : tPar i j ta D σ H := h
theorem tpar3_i {i j l : Nat} {ta : TA} {D : Ends} {σ : L2.St} {H : Hp} (h : ta σ H fun vs H1 => ∃ u v w, vs = [u, v, w] ∧ D.nx (((σ.set i (some u)).set j (some v)).set l (some w)) H1) : tPar3 i j l ta D σ H := h
theorem tcons_i {te : TE} {tr : TA} {σ : L2.St} {H : Hp} {Q : List V → Hp → Prop} (h : te σ H fun x H1 => tr σ H1 fun xs H2 => Q (x :: xs) H2) : tCons te tr σ H Q := h
def wNew1 (N : Nd → St → En → Prop) (i j : Nat) (s : ISp St) : WS := fun R ρ => ∃ x, ρ[i]? = some (.d x) ∧ s [x] fun st => ∀ nd e', N nd st e' → R.nx (ρ.set j e')
def wNew2 (N : Nd → St → En → Prop) (i j1 j2 : Nat) (s : ISp St) : WS := fun R ρ => ∃ x, ρ[i]? = some (.d x) ∧ s [x] fun st1 => ∀ nd1 e1, N nd1 st1 e1 → s [x] fun st2 => ∀ nd2 e2, N nd2 st2 e2 → R.nx ((ρ.set j1 e1).set j2 e2)
def wNew3 (N : Nd → St → En → Prop) (i j1 j2 j3 : Nat) (s : ISp St) : WS := fun R ρ => ∃ x, ρ[i]? = some (.d x) ∧ s [x] fun st1 => ∀ nd1 e1, N nd1 st1 e1 → s [x] fun st2 => ∀ nd2 e2, N nd2 st2 e2 → s [x] fun st3 => ∀ nd3 e3, N nd3 st3 e3 → R.nx (((ρ.set j1 e1).set j2 e2).set j3 e3)
section
variable {i : Nat} {cn z : Str} {p2 p3 p4 q2 q3 q4 r2 r3 r4 : Pos}
theorem qs_make1 {j : Nat} {x : Str} {p : Pos} (OC : ObjC X.K C nm F at_) (hK : X.K = Φ.K) (sm : MonoI s) (Mk_ : Mk X.K C f) (Fo : FnOk X.prog X.w X.K X.mg X.base CX k f fd ps (liftIb X.K C F at_ s)) (hr : Room (k + 1) X.A) (hg : Gl X cn) (hm : X.mg cn = some (.ref C)) (hb : Binds X.K fd ps []) (hxp : Passes CX X E)
    (hN : X.N.Nodup) (hj : X.N[j]? = some x) (hx : Loc X.env.scope x) (hi : X.N[i]? = some z) (hv : Vis X.env.scope z) (hd : (z == ("__debug__" : Str)) = false := by decide) (hcd : (z == ("__classdict__" : Str)) = false := by decide)
    (hdb : (cn == ("__debug__" : Str)) = false := by decide) (he : starEach (.Name z p3 :: []) X.env = (false, eval (.Name z p3) X.env) :: starEach [] X.env := by rfl) (hpl : (backTo p4 (starEach [] X.env)).any (·.1) = false := by rfl)
    (hs : swapsWith (.Call (.Name cn p2) [.Name z p3] [] p4) (some (.Name x p)) pos.line X.env = pure false := by rfl) (hf : X.fn x = true ∨ X.env.scope.names.lookup x = some .local := by first | exact .inl rfl | exact .inr rfl) :
    QS X Φ (.Assign [.Name x p] (.Call (.Name cn p2) [.Name z p3] [] p4) pos) (wNew1 (NE F at_) i j s) := by
  refine ⟨fun ρ R R' h ⟨x, a, q⟩ => ⟨x, a, sm _ _ _ (fun st p nd e' he => h.nx _ (p nd e' he)) q⟩, PSw (ps_set hN hj hx (pe_make Mk_ Fo hr hg hm hb .nil hxp (pa_cons (pe_var hi hv hd hcd) pa_nil he) hdb he hpl) hs hf) fun D σ H ⟨M, ρ, A, x, hρ, q⟩ => ?_⟩
  refine make_run (j := j) OC hK sm A rfl hρ (sm _ _ _ (fun st p a M' H' nd e' hN A' S' => ?_) q)
  exact p nd e' hN M' _ H' A' S'
theorem qs_make2 {j1 j2 : Nat} {x y : Str} {px py pt : Pos} {kt k2 pt2} (OC : ObjC X.K C nm F at_) (hK : X.K = Φ.K) (sm : MonoI s) (Mk_ : Mk X.K C f) (Fo : FnOk X.prog X.w X.K X.mg X.base CX k f fd ps (liftIb X.K C F at_ s)) (hr : Room (k + 1) X.A) (hg : Gl X cn) (hm : X.mg cn = some (.ref C)) (hb : Binds X.K fd ps []) (hxp : Passes CX X E)
    (hc : X.calm = true) (hN : X.N.Nodup) (h1 : X.N[j1]? = some x) (h2 : X.N[j2]? = some y) (h12 : j1 ≠ j2) (hx : X.env.scope.names.lookup x = some .local) (hy : X.env.scope.names.lookup y = some .local) (hi : X.N[i]? = some z) (hv : Vis X.env.scope z) (hi1 : j1 ≠ i)
    (hw : swappedStores [.Tuple [.Name x px, .Name y py] kt pt] (.Tuple [.Call (.Name cn p2) [.Name z p3] [] p4, .Call (.Name cn q2) [.Name z q3] [] q4] k2 pt2) X.env = pure (some [x, y]))
    (hd : (z == ("__debug__" : Str)) = false := by decide) (hcd : (z == ("__classdict__" : Str)) = false := by decide) (hdb : (cn == ("__debug__" : Str)) = false := by decide)
    (he : starEach (.Name z p3 :: []) X.env = (false, eval (.Name z p3) X.env) :: starEach [] X.env := by rfl) (he2 : starEach (.Name z q3 :: []) X.env = (false, eval (.Name z q3) X.env) :: starEach [] X.env := by rfl) (hpl : (backTo p4 (starEach [] X.env)).any (·.1) = false := by rfl) (hpl2 : (backTo q4 (starEach [] X.env)).any (·.1) = false := by rfl)
    (hs : swapsWithSole [.Tuple [.Name x px, .Name y py] kt pt] (.Tuple [.Call (.Name cn p2) [.Name z p3] [] p4, .Call (.Name cn q2) [.Name z q3] [] q4] k2 pt2) pos.line X.env = pure false := by rfl)
    (s1 : starEach (.Call (.Name cn p2) [.Name z p3] [] p4 :: [.Call (.Name cn q2) [.Name z q3] [] q4]) X.env = (false, eval (.Call (.Name cn p2) [.Name z p3] [] p4) X.env) :: starEach [.Call (.Name cn q2) [.Name z q3] [] q4] X.env := by rfl) (s2 : starEach (.Call (.Name cn q2) [.Name z q3] [] q4 :: []) X.env = (false, eval (.Call (.Name cn q2) [.Name z q3] [] q4) X.env) :: starEach [] X.env := by rfl) :
    QS X Φ (.Assign [.Tuple [.Name x px, .Name y py] kt pt] (.Tuple [.Call (.Name cn p2) [.Name z p3] [] p4, .Call (.Name cn q2) [.Name z q3] [] q4] k2 pt2) pos) (wNew2 (NE F at_) i j1 j2 s) := by
  refine ⟨fun ρ R R' h ⟨x, a, q⟩ => ⟨x, a, sm _ _ _ (fun st p nd e' he => sm _ _ _ (fun st2 p2 nd2 e2 he2 => h.nx _ (p2 nd2 e2 he2)) (p nd e' he)) q⟩,
    PSw (ps_par hc hN h1 h2 h12 hx hy (pa_cons (pe_make Mk_ Fo hr hg hm hb .nil hxp (pa_cons (pe_var hi hv hd hcd) pa_nil he) hdb he hpl) (pa_cons (pe_make Mk_ Fo hr hg hm hb .nil hxp (pa_cons (pe_var hi hv hd hcd) pa_nil he2) hdb he2 hpl2) pa_nil s2) s1) hw hs) fun D σ H ⟨M, ρ, A, x, hρ, q⟩ => ?_⟩
  refine tpar_i (tcons_i (make_run (j := j1) OC hK sm A rfl hρ (sm _ _ _ (fun st p a M' H' nd e' hN A' S' => ?_) q)))
  refine tcons_i (make_run (j := j2) OC hK sm A' (by rw [List.getElem?_set_ne hi1]) (by rw [List.getElem?_set_ne hi1]; exact hρ) (sm _ _ _ (fun st2 p2 a2 M2 H2 nd2 e2 hN2 A2 S2 => ?_) (p nd e' hN)))
  exact ⟨_, _, rfl, p2 nd2 e2 hN2 M2 _ H2 A2 (S'.trans S2)⟩
theorem qs_make3 {j1 j2 j3 : Nat} {x y u : Str} {px py pu pt : Pos} {kt k2 pt2} (OC : ObjC X.K C nm F at_) (hK : X.K = Φ.K) (sm : MonoI s) (Mk_ : Mk X.K C f) (Fo : FnOk X.prog X.w X.K X.mg X.base CX k f fd ps (liftIb X.K C F at_ s)) (hr : Room (k + 1) X.A) (hg : Gl X cn) (hm : X.mg cn = some (.ref C)) (hb : Binds X.K fd ps []) (hxp : Passes CX X E)
    (hc : X.calm = true) (hN : X.N.Nodup) (h1 : X.N[j1]? = some x) (h2 : X.N[j2]? = some y) (h3 : X.N[j3]? = some u) (h12 : j1 ≠ j2) (h13 : j1 ≠ j3) (h23 : j2 ≠ j3) (hx : X.env.scope.names.lookup x = some .local) (hy : X.env.scope.names.lookup y = some .local) (hu : X.env.scope.names.lookup u = some .local) (hi : X.N[i]? = some z) (hv : Vis X.env.scope z) (hi1 : j1 ≠ i) (hi2 : j2 ≠ i)
    (hw : swappedStores [.Tuple [.Name x px, .Name y py, .Name u pu] kt pt] (.Tuple [.Call (.Name cn p2) [.Name z p3] [] p4, .Call (.Name cn q2) [.Name z q3] [] q4, .Call (.Name cn r2) [.Name z r3] [] r4] k2 pt2) X.env = pure (some [x, y, u]))
    (hd : (z == ("__debug__" : Str)) = false := by decide) (hcd : (z == ("__classdict__" : Str)) = false := by decide) (hdb : (cn == ("__debug__" : Str)) = false := by decide)
    (he : starEach (.Name z p3 :: []) X.env = (false, eval (.Name z p3) X.env) :: starEach [] X.env := by rfl) (he2 : starEach (.Name z q3 :: []) X.env = (false, eval (.Name z q3) X.env) :: starEach [] X.env := by rfl) (he3 : starEach (.Name z r3 :: []) X.env = (false, eval (.Name z r3) X.env) :: starEach [] X.env := by rfl) (hpl : (backTo p4 (starEach [] X.env)).any (·.1) = false := by rfl) (hpl2 : (backTo q4 (starEach [] X.env)).any (·.1) = false := by rfl) (hpl3 : (backTo r4 (starEach [] X.env)).any (·.1) = false := by rfl)
    (hs : swapsWithSole [.Tuple [.Name x px, .Name y py, .Name u pu] kt pt] (.Tuple [.Call (.Name cn p2) [.Name z p3] [] p4, .Call (.Name cn q2) [.Name z q3] [] q4, .Call (.Name cn r2) [.Name z r3] [] r4] k2 pt2) pos.line X.env = pure false := by rfl)
    (s1 : starEach (.Call (.Name cn p2) [.Name z p3] [] p4 :: [.Call (.Name cn q2) [.Name z q3] [] q4, .Call (.Name cn r2) [.Name z r3] [] r4]) X.env = (false, eval (.Call (.Name cn p2) [.Name z p3] [] p4) X.env) :: starEach [.Call (.Name cn q2) [.Name z q3] [] q4, .Call (.Name cn r2) [.Name z r3] [] r4] X.env := by rfl) (s2 : starEach (.Call (.Name cn q2) [.Name z q3] [] q4 :: [.Call (.Name cn r2) [.Name z r3] [] r4]) X.env = (false, eval (.Call (.Name cn q2) [.Name z q3] [] q4) X.env) :: starEach [.Call (.Name cn r2) [.Name z r3] [] r4] X.env := by rfl) (s3 : starEach (.Call (.Name cn r2) [.Name z r3] [] r4 :: []) X.env = (false, eval (.Call (.Name cn r2) [.Name z r3] [] r4) X.env) :: starEach [] X.env := by rfl) :
    QS X Φ (.Assign [.Tuple [.Name x px, .Name y py, .Name u pu] kt pt] (.Tuple [.Call (.Name cn p2) [.Name z p3] [] p4, .Call (.Name cn q2) [.Name z q3] [] q4, .Call (.Name cn r2) [.Name z r3] [] r4] k2 pt2) pos) (wNew3 (NE F at_) i j1 j2 j3 s) := by
  refine ⟨fun ρ R R' h ⟨x, a, q⟩ => ⟨x, a, sm _ _ _ (fun st p nd e' he => sm _ _ _ (fun st2 p2 nd2 e2 he2 => sm _ _ _ (fun st3 p3 nd3 e3 he3 => h.nx _ (p3 nd3 e3 he3)) (p2 nd2 e2 he2)) (p nd e' he)) q⟩,
    PSw (ps_par3 hc hN h1 h2 h3 h12 h13 h23 hx hy hu (pa_cons (pe_make Mk_ Fo hr hg hm hb .nil hxp (pa_cons (pe_var hi hv hd hcd) pa_nil he) hdb he hpl) (pa_cons (pe_make Mk_ Fo hr hg hm hb .nil hxp (pa_cons (pe_var hi hv hd hcd) pa_nil he2) hdb he2 hpl2) (pa_cons (pe_make Mk_ Fo hr hg hm hb .nil hxp (pa_cons (pe_var hi hv hd hcd) pa_nil he3) hdb he3 hpl3) pa_nil s3) s2) s1) hw hs) fun D σ H ⟨M, ρ, A, x, hρ, q⟩ => ?_⟩
  refine tpar3_i (tcons_i (make_run (j := j1) OC hK sm A rfl hρ (sm _ _ _ (fun st p a M' H' nd e' hN A' S' => ?_) q)))
  refine tcons_i (make_run (j := j2) OC hK sm A' (by rw [List.getElem?_set_ne hi1]) (by rw [List.getElem?_set_ne hi1]; exact hρ) (sm _ _ _ (fun st2 p2 a2 M2 H2 nd2 e2 hN2 A2 S2 => ?_) (p nd e' hN)))
  refine tcons_i (make_run (j := j3) OC hK sm A2 (by rw [List.getElem?_set_ne hi2, List.getElem?_set_ne hi1]) (by rw [List.getElem?_set_ne hi2, List.getElem?_set_ne hi1]; exact hρ) (sm _ _ _ (fun st3 p3 a3 M3 H3 nd3 e3 hN3 A3 S3 => ?_) (p2 nd2 e2 hN2)))
  exact ⟨_, _, _, rfl, p3 nd3 e3 hN3 M3 _ H3 A3 (S'.trans (S2.trans S3))⟩
end
end
end AL
set_option Elab.async false
set_option linter.all false
set_option maxRecDepth 100000
set_option maxHeartbeats 4000000
/-! a def whose first argument is an object -/
namespace AL
open PySem PySem.Spec PyProof.Rows L2
section
variable {St Nd : Type} {P : Program} {w : World} {K : PySem.W.Frag} {mg : Str → Option Value} {base : Heap}
variable {C : Addr} {nm : Str → Bool} {F : Nd → Addr → Prop} {at_ : St → Nd → (Addr → Prop) → Hp → Addr → Prop} {N : Nd → St → En → Prop}
def startO (N : List Str) (e : En) (xs : List D) : Ev := e :: (xs.map En.d ++ List.replicate (N.length - (xs.length + 1)) En.un)
theorem start_absO {M : Addr → Prop} {H : Hp} {N : List Str} {a : Addr} {us : List V} {xs : List D} {Φ : Cl} {nd : Nd} {st : St} (hs0 : StabO (F nd) (at_ st nd)) (h : RpAll Φ.K M H us xs) (hf : ∀ b, F nd b → M b) (ha : at_ st nd M H a) (hm : ∀ p, M p → ∃ o, H p = some o ∧ MutO o) (h1 : Φ.M0 = M) (h2 : ∀ b, Φ.W b ↔ F nd b) (h3 : Φ.H0 = H) (h4 : ∀ a, Φ.T a = none) (h5 : Φ.TB = none) :
    Abs Φ M (L2.start N (.ref a :: us)) H (startO N (.obj true (F nd) (at_ st nd)) xs) := by
  have hl := h.length
  have hs : ∀ (i : Nat) (e : En), (startO N (.obj true (F nd) (at_ st nd)) xs)[i]? = some e → (i = 0 ∧ e = .obj true (F nd) (at_ st nd)) ∨ (∃ j x, i = j + 1 ∧ xs[j]? = some x ∧ e = .d x) ∨ e = .un := fun i e he => by
    unfold startO at he
    match i, he with
    | 0, he => cases he; exact .inl ⟨rfl, rfl⟩
    | j + 1, he =>
      rw [List.getElem?_cons_succ] at he
      by_cases hi : j < xs.length
      · rw [List.getElem?_append_left (by rw [List.length_map]; exact hi), List.getElem?_map, List.getElem?_eq_getElem hi] at he
        cases he
        exact .inr (.inl ⟨j, _, rfl, List.getElem?_eq_getElem hi, rfl⟩)
      · rw [List.getElem?_append_right (by rw [List.length_map]; omega)] at he
        exact .inr (.inr (List.eq_of_mem_replicate (List.mem_of_getElem? he)))
  have h0 : (L2.start N (.ref a :: us))[0]? = some (some (.ref a)) := by unfold L2.start; rfl
  refine ⟨?_, fun i e o he ho => ?_, fun i j p w1 w2 ys zs q1 q2 q3 q4 => (by rcases hs i _ q1 with ⟨_, e⟩ | ⟨_, x, _, hx, e⟩ | e <;> cases e), hm, fun p hp => by rw [h1] at hp; exact hp, fun p o q _ => by rw [h3] at q; exact q, fun p q => by rw [h1]; exact hf p ((h2 p).mp q), fun p o q => (by rw [h4 p] at q; cases q), fun i j p ys zs q1 _ _ _ => (by rcases hs i _ q1 with ⟨_, e⟩ | ⟨_, x, _, hx, e⟩ | e <;> cases e), (fun P q e => by rw [h5] at e; cases e), fun i j w2 G Q e b hij q1 q2 q3 => ?_⟩
  · unfold L2.start startO
    simp only [List.length_append, List.length_cons, List.length_map, List.length_replicate, hl]
    omega
  · rcases hs i e he with ⟨rfl, rfl⟩ | ⟨j, x, rfl, hx, rfl⟩ | rfl
    · rw [h0] at ho; cases ho
      exact ⟨a, rfl, fun b hb => ⟨hf b hb, (h2 b).mpr hb, h4 b⟩, hs0, ha⟩
    · obtain ⟨v, hv, rr⟩ := h.get hx
      refine ⟨v, ?_, rr⟩
      unfold L2.start at ho
      have hi : j < us.length := (List.getElem?_eq_some_iff.mp hv).1
      rw [List.getElem?_append_left (by rw [List.length_map, List.length_cons]; omega), List.getElem?_map, List.getElem?_cons_succ, hv] at ho
      cases ho; rfl
    · trivial
  · rcases hs i _ q1 with ⟨rfl, _⟩ | ⟨_, x, _, hx, e1⟩ | e1
    · rcases hs j e q2 with ⟨rfl, _⟩ | ⟨_, x, _, hx, rfl⟩ | rfl
      · exact absurd rfl hij
      · trivial
      · trivial
    · cases e1
    · cases e1
theorem fn_okO {x qual : Str} {st : Stmt} {f : Addr} {fd : FuncData} {Nn ps : List Str} {k : Nat} {s : OSp St} {wb : WS} (OC : ObjC K C nm F at_) (sm : MonoO s) (Fu : Fun K x qual st f fd) (S : FnScope Nn ps (defScope st)) (len : ∀ z xs Q, s z xs Q → xs.length + 1 = ps.length)
    (body : ∀ (cdv : Value) (A : Around) (outer : List PySem.Env) (s₀ : Shared) (H : Hp) (E : XK) (M W : Addr → Prop) (H0 T : Hp) [ClOk ⟨K, M, W, H0, T, none⟩], Room k (A.deeper (envOfC qual (defScope st) s₀.heap.objs.size f cdv)) → QSs (cxOf CX0 P w K mg base Nn qual (defScope st) f cdv A outer s₀ H E).nox ⟨K, M, W, H0, T, none⟩ (defBody st) wb)
    (read : ∀ nd z e xs Q, NE F at_ nd z e → s z xs Q → wb { nx := fun ρ => ∃ z' e', ρ[0]? = some e' ∧ NE F at_ nd z' e' ∧ Q .non z', rt := fun y ρ => ∃ z' e', ρ[0]? = some e' ∧ NE F at_ nd z' e' ∧ Q y z' } (startO Nn e xs)) : FnOk P w K mg base CX0 (k + 1) f fd ps (liftOb K F at_ s) := by
  refine Fu.ok S (fun vs H Q E h => ?_) (fun cdv A outer s₀ H vs Q E hr h => ?_)
  · obtain ⟨M, nd, z, a, us, xs, rfl, _, _, _, rr, q⟩ := h
    rw [List.length_cons, rr.length]; exact len _ _ _ q
  · obtain ⟨M, nd, z, a, us, xs, rfl, hm, hf, ha, rr, q⟩ := h
    haveI : ClOk ⟨K, M, F nd, H, fun _ => none, none⟩ := ⟨fun b hb => let ⟨us, z, _⟩ := hm b hb; ⟨_, z⟩⟩
    have B := body cdv A outer s₀ H E M (F nd) H (fun _ => none) hr
    have fin : ∀ {y : D} {ρ : Ev} {M' : Addr → Prop} {σ' : L2.St} {v : V} {H' : Hp}, Abs (clOf K M (F nd) H) M' σ' H' ρ → Rp K M' H' v y →
        (∃ z' e', ρ[0]? = some e' ∧ NE F at_ nd z' e' ∧ ∀ v H', (∀ b o, ¬ F nd b → H b = some o → H' b = some o) → (∀ b, F nd b → ∃ o, H' b = some o ∧ MutO o) → at_ z' nd M H' a → Rp K M H' v y → Q v H') → Q v H' := fun {y ρ M' σ' v H'} A' r' ⟨z', e', he, ⟨w1, e1⟩, q⟩ => by
      have st : Step M' H' M H' := ⟨fun a o h e => ⟨fun z => h (A'.m0 a z), e⟩, fun _ _ e => e, fun _ _ _ e => e⟩
      subst e1
      have hi : 0 < σ'.length := by rw [A'.len]; exact (List.getElem?_eq_some_iff.mp he).1
      obtain ⟨b, e2, f2, g2, r2⟩ := A'.slot 0 _ _ he (List.getElem?_eq_getElem hi)
      have eb : a = b := OC.self _ _ _ _ _ _ _ _ _ ha r2
      subst eb
      exact q v H' (fun c o n h => A'.keep c o h n) (fun c hc => A'.lst c (f2 c hc).1) (g2.1 _ _ _ _ _ st (fun _ _ => rfl) r2) (r'.step st)
    refine ⟨_, B.run, M, startO Nn (.obj true (F nd) (at_ z nd)) xs, start_absO (OC.stab z nd) rr hf ha hm rfl (fun b => Iff.rfl) rfl (fun _ => rfl) rfl, B.mono _ { nx := fun ρ => ∃ z' e', ρ[0]? = some e' ∧ NE F at_ nd z' e' ∧ ∀ v H', (∀ b o, ¬ F nd b → H b = some o → H' b = some o) → (∀ b, F nd b → ∃ o, H' b = some o ∧ MutO o) → at_ z' nd M H' a → Rp K M H' v .non → Q v H', rt := fun y ρ => ∃ z' e', ρ[0]? = some e' ∧ NE F at_ nd z' e' ∧ ∀ v H', (∀ b o, ¬ F nd b → H b = some o → H' b = some o) → (∀ b, F nd b → ∃ o, H' b = some o ∧ MutO o) → at_ z' nd M H' a → Rp K M H' v y → Q v H' } _ ⟨fun ρ q => ?_, fun y ρ q => ?_, fun _ q => q.elim, fun _ q => q.elim⟩ (read nd z _ xs _ ⟨true, rfl⟩ q)⟩
    · intro M' σ' H' A' S'
      exact fin A' .non q
    · intro M' σ' v H' A' S' r'
      exact fin A' r' q
end
end AL
set_option Elab.async false
set_option linter.all false
set_option maxRecDepth 100000
set_option maxHeartbeats 4000000
/-! max(d.values(), default=z) -/
namespace L2
open PySem PySem.Spec PyProof.Rows
/-- max(o.values(), default=z), a dict with int values -/
def tMaxVals (td : TE) (z : Int) : TE := fun σ H Q => td σ H fun x H1 => ∃ a kvs is, x = V.ref a ∧ H1 a = some (.dK kvs) ∧ kvs.map (·.2) = is.map V.int ∧ (is = [] → Q (.int z) H1) ∧ ∀ m, m ∈ is → (∀ j ∈ is, j ≤ m) → Q (.int m) H1
theorem shared_eq {s s' : Shared} (g : s'.gens = s.gens) (d : s'.drawn = s.drawn) (o : s'.os = s.os) : s' = { s with heap := s'.heap, toks := s'.toks } := by
  cases s; cases s'; cases g; cases d; cases o; rfl
theorem argBest_gt (f : Nat → Int) : ∀ n, argBest (fun i j => decide (f i > f j)) n ≤ n ∧ ∀ i, i ≤ n → f i ≤ f (argBest (fun i j => decide (f i > f j)) n)
  | 0 => ⟨Nat.le_refl _, fun i hi => by rw [Nat.le_zero.mp hi]; exact Int.le_refl _⟩
  | n + 1 => by
    obtain ⟨h1, h2⟩ := argBest_gt f n
    unfold argBest
    by_cases h : f (n + 1) > f (argBest (fun i j => decide (f i > f j)) n)
    · rw [if_pos (decide_eq_true h)]
      refine ⟨Nat.le_refl _, fun i hi => ?_⟩
      rcases Nat.lt_or_ge n i with hl | hl
      · rw [show i = n + 1 by omega]; exact Int.le_refl _
      · have := h2 i hl; omega
    · rw [if_neg (by simpa using h)]
      refine ⟨Nat.le_succ_of_le h1, fun i hi => ?_⟩
      rcases Nat.lt_or_ge n i with hl | hl
      · rw [show i = n + 1 by omega]; omega
      · exact h2 i hl
section
variable {X : Cx} {o : Expr} {p pos apos mpos kpos cpos : Pos} {td : TE} {z : Int} {cj : Nat}
theorem pe_maxVals (hc : X.calm = true) (hg : Gl X "max") (hm : X.mg "max" = none) (hd : PE X o td) (hbase : attributeBase o "values" X.env (eval o X.env) = eval o X.env := by rfl) (hline : (apos.endLine == mpos.line) = true := by rfl)
    (he : backTo pos (starEach [Expr.Call (.Attribute o "values" apos) [] [] mpos] X.env) = (false, eval (Expr.Call (.Attribute o "values" apos) [] [] mpos) X.env) :: backTo pos (starEach [] X.env) := by rfl)
    (hpl : (backTo pos (starEach [Expr.Call (.Attribute o "values" apos) [] [] mpos] X.env)).any (·.1) = false := by rfl)
    (hall : (backToKw pos (keywordEach [⟨some (Str.ofString "default"), .Constant (.int z) cj cpos, kpos⟩] X.env)).all (·.1.isSome) = true := by rfl) (hnone : (backToKw pos (keywordEach [⟨some (Str.ofString "default"), .Constant (.int z) cj cpos, kpos⟩] X.env)).any (·.1.isNone) = false := by rfl)
    (hks : (backToKw pos (keywordEach [⟨some (Str.ofString "default"), .Constant (.int z) cj cpos, kpos⟩] X.env)).filterMap (·.1) = [Str.ofString "default"] := by rfl) :
    PE X (.Call (.Name "max" p) [.Call (.Attribute o "values" apos) [] [] mpos] [⟨some (Str.ofString "default"), .Constant (.int z) cj cpos, kpos⟩] pos) (tMaxVals td z) := by
  refine ⟨fun pins s σ H Q I h => ?_⟩
  refine wpAny_Call_Name_kw (ld_blt I hg hm (u := .builtin "max") (by first | rfl | decide +kernel) ?_ (by first | decide +kernel | decide) (by first | decide +kernel | decide))
  refine PyProof.Rows.callWith_kw ?_ he hpl hall hnone
  rw [he]
  refine Calls.spliced_cons ?_
  refine wpAny_Call_method0_late hbase hline (thn (hd.run pins s σ H _ I h) fun v s1 ⟨x, H1, I1, r1, a, kvs, is, ex, ha, hv, q0, q⟩ => ?_)
  subst ex
  obtain rfl : v = Value.ref a := r1
  obtain ⟨_, hsys, vs, rel, dof⟩ := dk_of I1.hok ha
  obtain ⟨ep, dat⟩ := dof.dictAt
  have dat' := dat
  obtain ⟨ob, es, ho, ex, hdat, hko, hpr, hnd⟩ := dat'
  refine ⟨"dict", "dict.values", F.plainAttrs_dict, F.slot_dict_values, F.type_dict_values, ⟨ob, ho, ex.1⟩, fun b e => ?_, Calls.callWith_builtin rfl (PySem.evalArgs_none ?_)⟩
  · cases e
    exact ⟨ob, ho, ex.2.1⟩
  refine call_meetsIn F.slot_dict_values ⟨ob, ho, ex.1⟩ F.entry_dict_values (F.args_dict_values_1 _) (meets_dict_values (mixKind X.prog X.w) a hsys) ⟨⟨vs, dof⟩, ?_⟩
  refine Calls.spliced_nil ?_
  rw [hks]
  show wpAny _ _ (evalAll ((do let v ← eval (.Constant (.int z) cj cpos) X.env; standAt pos; pure v) :: [])) _ _ _
  refine wpAny_evalAll_cons (wpAny_bind (wpAny_Constant_int (wpAny_bind (wpAny_standAt (wpAny_pure (wpAny_evalAll_nil ?_))))))
  show wpAny _ _ (call (.builtin "max") [_] [(Str.ofString "default", _)]) _ _ _
  refine call_max_walkD (wpAny_pyIter_values (v := s1.heap.objs.size) (d := a) ⟨_, Heap.get?_push_size _ rfl, rfl, rfl⟩ (dat.keep fun b u e => Heap.get?_push_of_some _ e) ?_)
  have k1 : ∀ b u, s1.heap.get? b = some u → (s1.heap.push { cls := .type "dict_values", data := .fields #[.ref a] }).get? b = some u := fun b u e => Heap.get?_push_of_some _ e
  have dat1 : (s1.heap.push { cls := .type "dict_values", data := .fields #[.ref a] }).DictAt (mixKind X.prog X.w) a vs ep := dat.keep k1
  have hlv : vs.length = is.length := by
    have e1 := congrArg List.length hv
    rw [List.length_map, List.length_map] at e1
    rw [← e1]
    exact (KV.length rel).symm
  have hval : ∀ (i : Nat) (v : Value), (∃ k, vs[i]? = some (k, v)) → ∃ t, v = Value.int (is.getD i 0) t := fun i v ⟨k, hk⟩ => by
    obtain ⟨x, h1, h2⟩ := KV.at' rel hk
    have e1 : (kvs.map (·.2))[i]? = some x := by rw [List.getElem?_map, h1] <;> rfl
    rw [hv, List.getElem?_map] at e1
    obtain ⟨j, hj, e2⟩ := Option.map_eq_some_iff.mp e1
    subst e2
    obtain ⟨t, e3⟩ := h2
    refine ⟨t, ?_⟩
    rw [e3, List.getD_eq_getElem?_getD, hj] <;> rfl
  have hlt : a < s1.heap.objs.size := Heap.lt_size ho
  have hsz : (s1.heap.push { cls := .type "dict_values", data := .fields #[.ref a] }).objs.size = s1.heap.objs.size + 1 := Heap.size_push _ _
  refine ⟨_, _, _, _, _, _, _, s1.heap, _, rfl, (Walks.dictValues (knd := mixKind X.prog X.w) (A := X.A.in1) (I.ok.hd hc) (s1.heap.push { cls := .type "dict_values", data := .fields #[.ref a] }).objs.size a (by rw [hsz]; exact Nat.ne_of_lt (Nat.lt_succ_of_lt hlt)) vs ep).toS,
    ⟨⟨_, Heap.get?_push_size _ rfl, rfl, rfl⟩, dat1.keep fun b u e => Heap.get?_push_of_some _ e⟩, fun b hb => ?_, fun b u e hb => ?_, fun b u e => Heap.get?_push_of_some _ (k1 b u e), fun hn s' m => ?_, fun hn => ⟨fun i j vi vj s2 Q2 E2 _ hi hj hQ => CmpOf.ints_gt (fun i => is.getD i 0) hval i j vi vj s2 Q2 E2 hi hj hQ, fun v s' hP m => ?_⟩⟩
  · show b < ((s1.heap.push _).push _).objs.size
    rw [Heap.size_push, Heap.size_push]
    rw [hsz] at hb
    rcases List.mem_cons.mp hb with e | hb
    · rw [e]
      exact Nat.lt_succ_self _
    · have e : b = a := List.mem_singleton.mp hb
      rw [e]
      exact Nat.lt_succ_of_lt (Nat.lt_succ_of_lt hlt)
  · have e1 : b = (s1.heap.push { cls := .type "dict_values", data := .fields #[.ref a] }).objs.size := List.mem_singleton.mp hb
    have e2 := Heap.lt_size e
    rw [hsz] at e1
    rw [e1] at e2
    exact absurd e2 (Nat.not_lt.mpr (Nat.le_succ _))
  · have hnot : ∀ b u, s1.heap.get? b = some u → b ∉ [(s1.heap.push { cls := .type "dict_values", data := .fields #[.ref a] }).objs.size] := fun b u e hb => by
      have e1 : b = (s1.heap.push { cls := .type "dict_values", data := .fields #[.ref a] }).objs.size := List.mem_singleton.mp hb
      have e2 := Heap.lt_size e
      rw [hsz] at e1
      rw [e1] at e2
      exact absurd e2 (Nat.not_lt.mpr (Nat.le_succ _))
    have I2 : Inv X pins σ H1 s' := by
      rw [shared_eq (s := s1) m.gens m.drawn m.os]
      exact I1.kept fun b u e => m.heap b u (hnot b u e) (Heap.get?_push_of_some _ (k1 b u e))
    exact ⟨.int z, H1, I2, ⟨_, rfl⟩, q0 (List.length_eq_zero_iff.mp (by rw [← hlv]; exact hn))⟩
  · have hnot : ∀ b u, s1.heap.get? b = some u → b ∉ [(s1.heap.push { cls := .type "dict_values", data := .fields #[.ref a] }).objs.size] := fun b u e hb => by
      have e1 : b = (s1.heap.push { cls := .type "dict_values", data := .fields #[.ref a] }).objs.size := List.mem_singleton.mp hb
      have e2 := Heap.lt_size e
      rw [hsz] at e1
      rw [e1] at e2
      exact absurd e2 (Nat.not_lt.mpr (Nat.le_succ _))
    have I2 : Inv X pins σ H1 s' := by
      rw [shared_eq (s := s1) m.gens m.drawn m.os]
      exact I1.kept fun b u e => m.heap b u (hnot b u e) (Heap.get?_push_of_some _ (k1 b u e))
    obtain ⟨t, rfl⟩ := hval _ v hP
    obtain ⟨b1, b2⟩ := argBest_gt (fun i => is.getD i 0) (vs.length - 1)
    refine ⟨.int _, H1, I2, ⟨t, rfl⟩, q _ ?_ fun j hj => ?_⟩
    · have hb : argBest (fun i j => decide (is.getD i 0 > is.getD j 0)) (vs.length - 1) < is.length := by omega
      rw [List.getD_eq_getElem?_getD, List.getElem?_eq_getElem hb]
      exact List.getElem_mem hb
    · obtain ⟨i, hi, e⟩ := List.mem_iff_getElem.mp hj
      have e2 : is.getD i 0 = j := by rw [List.getD_eq_getElem?_getD, List.getElem?_eq_getElem hi, ← e] <;> rfl
      rw [← e2]
      exact b2 i (by omega)
end
end L2
set_option Elab.async false
set_option linter.all false
set_option maxRecDepth 100000
set_option maxHeartbeats 4000000
/-! sorted(d.items()), a dict with int keys and int values -/
namespace L2
open PySem PySem.Spec PyProof.Rows
def ltI (p q : Int × Int) : Prop := p.1 < q.1 ∨ (p.1 = q.1 ∧ p.2 < q.2)
def intKs (es : List (Int × Int)) : List (L2.Key × V) := es.map fun p => (Sum.inl p.1, V.int p.2)
def tSortedItems (te : TE) : TE := fun σ H Q => te σ H fun x H1 => ∃ (d : Addr) (L : List (Int × Int)), x = .ref d ∧ H1 d = some (.dK (intKs L)) ∧
  ∀ (H' : Hp) (l : Addr) (zs : List (Addr × Int × Int)), (∀ b o, H1 b = some o → H' b = some o) → (zs.map (·.2)).Perm L → (zs.map (·.2)).Pairwise (fun p q => ¬ ltI q p) → H1 l = none → H' l = some (.lst (zs.map fun z => V.ref z.1)) → (∀ z ∈ zs, H' z.1 = some (.tup [.int z.2.1, .int z.2.2])) → Q (.ref l) H'
def keyZ (L : List (Addr × Int × Int)) : Value → Int × Int := fun v => match v with
  | .ref b => ((L.find? fun z => decide (z.1 = b)).map (·.2)).getD (0, 0)
  | _ => (0, 0)
theorem keyZ_at : ∀ {as : List Addr} {es : List (Int × Int)} {j : Nat} {b : Addr} {e : Int × Int}, as.Nodup → as[j]? = some b → es[j]? = some e → keyZ (as.zip es) (.ref b) = e
  | [], _, _, _, _, _, h, _ => by simp at h
  | a :: as, [], _, _, _, _, _, h => by simp at h
  | a :: as, q :: es, 0, b, e, hn, h1, h2 => by
    have e1 : a = b := by simpa using h1
    have e2 : q = e := by simpa using h2
    subst e1 e2
    show ((List.find? _ ((a, q) :: as.zip es)).map (·.2)).getD (0, 0) = q
    rw [List.find?_cons_of_pos (by simp)]
    rfl
  | a :: as, q :: es, j + 1, b, e, hn, h1, h2 => by
    have hn' := List.nodup_cons.mp hn
    have h1' : as[j]? = some b := by simpa using h1
    have ne : ¬ a = b := fun z => hn'.1 (by rw [z]; exact List.mem_of_getElem? h1')
    have ih := keyZ_at (es := es) hn'.2 h1' (by simpa using h2)
    show ((List.find? _ ((a, q) :: as.zip es)).map (·.2)).getD (0, 0) = e
    rw [List.find?_cons_of_neg (by simpa using ne)]
    exact ih
section
variable {X : Cx} {e : Expr} {te : TE} {p apos cpos pos : Pos}
theorem pe_sortedItems (hc : X.calm = true) (he : PE X e te) (hg : Gl X "sorted") (hm : X.mg "sorted" = none) (hbase : attributeBase e "items" X.env (eval e X.env) = eval e X.env := by rfl) (hline : (apos.endLine == cpos.line) = true := by rfl)
    (hs : starEach [.Call (.Attribute e "items" apos) [] [] cpos] X.env = (false, eval (.Call (.Attribute e "items" apos) [] [] cpos) X.env) :: starEach [] X.env := by rfl) (hpl : (backTo pos (starEach [] X.env)).any (·.1) = false := by rfl) :
    PE X (.Call (.Name "sorted" p) [.Call (.Attribute e "items" apos) [] [] cpos] [] pos) (tSortedItems te) := by
  refine ⟨fun pins s0 σ H Q I0 hq => ?_⟩
  refine wpAny_Call_Name_kw (ld_blt I0 hg hm (u := .builtin "sorted") (by decide +kernel) ?_ (by decide) (by decide))
  refine PyProof.Rows.callWith_builtin1 ?_ hs hpl
  rw [hs]
  show wpAny _ _ (spliced ((false, eval (.Call (.Attribute e "items" apos) [] [] cpos) X.env) :: backTo pos (starEach [] X.env))) _ _ s0
  refine Calls.spliced_cons ?_
  refine wpAny_Call_method (T := "dict") (id := "dict.items") hbase rfl hline F.plainAttrs_dict F.slot_dict_items F.type_dict_items (thn (he.run pins s0 σ H _ I0 hq) fun u s1 ⟨x, H1, I1, rx, d, L, ex, hd, q⟩ => ?_)
  subst ex
  obtain rfl : u = Value.ref d := rx
  obtain ⟨hz, hs0, vs, kv, hdo⟩ := I1.hok d _ hd
  obtain ⟨ep, hat⟩ := hdo.dictAt
  obtain ⟨ob, es, ho, hex, hdat, hko, hpr, hnd⟩ := id hat
  have lk : (intKs L).length = vs.length := Paired.length kv
  have lL : (intKs L).length = L.length := by unfold intKs; rw [List.length_map]
  have lE : es.size = vs.length := by rw [← hpr.length, Array.length_toList]
  refine ⟨hdo.typeIs, hdo.mapOf.noDict, ?_⟩
  show wpAny _ _ (callWith cpos (.builtin "dict.items") [.ref d] [] []) _ X.xe s1
  refine method_meetsIn F.slot_dict_items F.entry_dict_items rfl (PySem.evalArgs_none ⟨rfl, hdo.typeIs, F.args_dict_items_1 _, _, meets_dict_items (mixKind X.prog X.w) d hs0, ⟨vs, hdo⟩, ?_⟩)
  refine Calls.spliced_nil ?_
  generalize es1 : ({ s1 with heap := s1.heap.push { cls := .type "dict_items", data := .fields #[.ref d] } } : Shared) = s
  have I : Inv X pins σ H1 s := by rw [← es1]; exact I1.kept (t' := s1.toks) fun b ob q => Heap.get?_push_of_some _ q
  have view : s.heap.IsItemsView s1.heap.objs.size d := by rw [← es1]; exact ⟨_, Heap.get?_push_size _ rfl, rfl, rfl⟩
  have raw : DT.Raw s.heap d es ep := by rw [← es1]; exact ⟨ob, Heap.get?_push_of_some _ ho, hex, hdat⟩
  clear es1
  refine DT.sortedI (es := es) (ep := ep) (I.ok.hd hc) view raw (by omega) fun h' tk as hk hlt hl hG => ?_
  have lak : as.length = L.length := by omega
  have nd : as.Nodup := List.Pairwise.imp (fun h => Nat.ne_of_lt h) hG.rise
  have pr : ∀ (j : Nat) (b : Addr), as[j]? = some b → ∃ (e : Int × Int) (t u : Tok), L[j]? = some e ∧ h'.get? b = some { cls := .type "tuple", data := .seq #[Value.int e.1 t, Value.int e.2 u] } := by
    intro j b hj
    obtain ⟨en, he, hg⟩ := hG.pairs j b hj
    have he' : es.toList[j]? = some en := by rw [Array.getElem?_toList]; exact he
    have hjl : j < L.length := by rw [← lak]; exact (List.getElem?_eq_some_iff.mp hj).1
    have hjv : j < vs.length := by omega
    have hv : vs[j]? = some (vs[j].1, vs[j].2) := List.getElem?_eq_getElem hjv
    obtain ⟨g1, g2⟩ := hpr.get? he' hv
    obtain ⟨x, k1, k2⟩ := KV.at' kv hv
    have hL : L[j]? = some L[j] := List.getElem?_eq_getElem hjl
    have e3 : (intKs L)[j]? = some (Sum.inl L[j].1, V.int L[j].2) := by unfold intKs; rw [List.getElem?_map, hL] <;> rfl
    rw [e3] at k1
    have e4 := Option.some.inj k1
    have e5 : vs[j].1 = (Sum.inl L[j].1 : L2.Key) := (congrArg Prod.fst e4).symm
    have e6 : x = V.int L[j].2 := (congrArg Prod.snd e4).symm
    rw [e6] at k2
    rw [e5] at g1
    obtain ⟨t, ht⟩ : RelV (.int L[j].1) en.key := relV_key (k := (Sum.inl L[j].1 : L2.Key)) (show keyIs (Sum.inl L[j].1 : L2.Key) en.key = true from g1)
    obtain ⟨u, hu⟩ := k2
    refine ⟨L[j], t, u, hL, ?_⟩
    rw [hg, ht, g2, hu]
  have hob : (h'.push { cls := .type "list", data := .seq (as.map Value.ref).toArray }).get? h'.objs.size = some (seqObj "list" (as.map Value.ref).toArray 0) := Heap.get?_push_size _ rfl
  have kb : ∀ b o, s.heap.get? b = some o → (h'.push { cls := .type "list", data := .seq (as.map Value.ref).toArray }).get? b = some o := fun b o e => Heap.get?_push_of_some _ (hk b o e)
  have ne0 : ∀ b o, h'.get? b = some o → b ≠ h'.objs.size := fun b o e => Nat.ne_of_lt (Heap.lt_size e)
  generalize hh2 : h'.push { cls := .type "list", data := .seq (as.map Value.ref).toArray } = h2 at hob kb ⊢
  have ka : ∀ b o, h'.get? b = some o → h2.get? b = some o := fun b o e => by rw [← hh2]; exact Heap.get?_push_of_some _ e
  have at_ : ∀ v ∈ as.map Value.ref, ∃ (j : Nat) (b : Addr) (e : Int × Int), v = .ref b ∧ as[j]? = some b ∧ L[j]? = some e := by
    intro v hv'
    obtain ⟨b, hb, rfl⟩ := List.mem_map.mp hv'
    obtain ⟨j, hj⟩ := List.mem_iff_getElem?.mp hb
    obtain ⟨e, _, _, he, _⟩ := pr j b hj
    exact ⟨j, b, e, rfl, hj, he⟩
  have hlz : (as.map Value.ref).length ≤ sizeLine := by rw [List.length_map]; omega
  have ipair : ∀ v ∈ as.map Value.ref, Srt.IsPair h2 v (keyZ (as.zip L) v).1 (keyZ (as.zip L) v).2 := by
    intro v hv'
    obtain ⟨j, b, e, rfl, hj, he⟩ := at_ v hv'
    obtain ⟨e', t, u, he', hg⟩ := pr j b hj
    have ee : e' = e := Option.some.inj (he'.symm.trans he)
    subst ee
    rw [keyZ_at nd hj he]
    exact ⟨b, _, t, u, 0, rfl, ka _ _ hg, rfl, rfl⟩
  refine wpAny_call_entry PyProof.Rows.slot_list_sort ⟨_, hob, rfl⟩ PyProof.Rows.entry_list_sort
    (SrtO.list_sort_ord (s := { s with heap := h2, toks := tk }) (SrtO.swo_lex (keyZ (as.zip L))) hob hlz (fun h2' => SrtO.pairs_sortableO (s := { s with heap := h2, toks := tk }) (by omega) ipair fun o e => ?_) fun out o1 o2 => ⟨_, rfl, ?_⟩) (PyProof.Rows.args_list_sort _)
  · have e' : some o = some (seqObj "list" (as.map Value.ref).toArray 0) := e.symm.trans hob
    cases e'
    intro c
    exact absurd (Value.type.inj c) (by decide)
  · show EP X pins σ Q (.ref h'.objs.size) { s with heap := sortedHeap h2 h'.objs.size (as.map Value.ref) out.toArray, toks := tk }
    have ez0 : (as.zip L).map (fun z : Addr × Int × Int => Value.ref z.1) = as.map Value.ref := by
      have e1 : (as.zip L).map Prod.fst = as := List.map_fst_zip (by omega)
      rw [← e1, List.map_map, e1]
      rfl
    obtain ⟨zs, pz, ez⟩ := perm_lift (fun z : Addr × Int × Int => Value.ref z.1) o2.perm (as.zip L) ez0
    have idx : ∀ z ∈ zs, ∃ j : Nat, as[j]? = some z.1 ∧ L[j]? = some z.2 := by
      intro z' hz'
      obtain ⟨j, hj⟩ := List.mem_iff_getElem?.mp (pz.mem_iff.mp hz')
      exact ⟨j, List.getElem?_zip_eq_some.mp hj⟩
    have hperm : (zs.map (·.2)).Perm L := by
      have e := pz.map (·.2)
      have m2 : (as.zip L).map (·.2) = L := List.map_snd_zip (by omega)
      rw [m2] at e
      exact e
    have hsort : (zs.map (·.2)).Pairwise (fun p q => ¬ ltI q p) := by
      have o1' : List.Pairwise (fun v u => SrtO.lexB (keyZ (as.zip L) u) (keyZ (as.zip L) v) = false) out := o1
      rw [← ez, List.pairwise_map] at o1'
      rw [List.pairwise_map]
      refine List.Pairwise.imp_of_mem (fun {x y} hx hy h => ?_) o1'
      obtain ⟨j, j1, j2⟩ := idx x hx
      obtain ⟨i, i1, i2⟩ := idx y hy
      rw [keyZ_at nd j1 j2, keyZ_at nd i1 i2] at h
      exact SrtO.lexB_no.mp h
    have kF : ∀ b o, b ≠ h'.objs.size → h2.get? b = some o → (sortedHeap h2 h'.objs.size (as.map Value.ref) out.toArray).get? b = some o := fun b o hb e => (PyProof.Rows.sortedHeap_old hb (Heap.lt_size e)).trans e
    have kS : ∀ b o, s.heap.get? b = some o → (sortedHeap h2 h'.objs.size (as.map Value.ref) out.toArray).get? b = some o := fun b o e => kF b o (ne0 _ _ (hk b o e)) (kb b o e)
    obtain ⟨eF, heF⟩ := PyProof.Rows.sortedHeap_at (vs := as.map Value.ref) (out := out.toArray) hob
    have J1 : Inv X pins σ H1 { s with heap := sortedHeap h2 h'.objs.size (as.map Value.ref) out.toArray, toks := tk } := I.kept (t' := tk) kS
    have hn0 : H1 h'.objs.size = none := I.hok.fresh (Nat.le_of_lt hlt)
    have hlen : (zs.map fun z => V.ref z.1).length ≤ sizeLine := by
      have e := hperm.length_eq
      rw [List.length_map] at e
      rw [List.length_map]
      omega
    have rv : Vals (zs.map fun z => V.ref z.1) out := by
      rw [← ez]
      exact vals_maps (fun z : Addr × Int × Int => V.ref z.1) (fun z => Value.ref z.1) zs fun _ _ => rfl
    have J2 : Inv X pins σ (upd H1 h'.objs.size (.lst (zs.map fun z => V.ref z.1))) { s with heap := sortedHeap h2 h'.objs.size (as.map Value.ref) out.toArray, toks := tk } :=
      J1.take (h' := sortedHeap h2 h'.objs.size (as.map Value.ref) out.toArray) (t' := tk) (fun b ob _ e => e) (I.fpOk (Nat.le_of_lt hlt) hn0) ⟨hlen, out, eF, rv, heF⟩
    obtain ⟨H2, J3, g, qt⟩ := DX.takeT (P := fun b ws => ∃ (j : Nat) (e : Int × Int), as[j]? = some b ∧ L[j]? = some e ∧ ws = [.int e.1, .int e.2]) I as _ J2 nd fun b hb => by
      obtain ⟨j, hj⟩ := List.mem_iff_getElem?.mp hb
      obtain ⟨e, t, u, he, hg⟩ := pr j b hj
      have hbl : s.heap.objs.size ≤ b := Nat.le_of_lt (hG.above b hb)
      refine ⟨hbl, ?_, [.int e.1, .int e.2], ⟨j, e, hj, he, rfl⟩, fun H3 => ⟨(by rw [sizeLine_eq]; show 2 ≤ 16777216; omega), [Value.int e.1 t, Value.int e.2 u], .cons ⟨t, rfl⟩ (.cons ⟨u, rfl⟩ .nil), ⟨_, kF _ _ (ne0 _ _ hg) (ka _ _ hg), rfl, 0, rfl⟩⟩⟩
      rw [upd_ne (ne0 _ _ hg)]
      exact I.hok.fresh hbl
    have gr : ∀ b o, H1 b = some o → H2 b = some o := fun b o e => g b o (by rw [upd_ne (ne_of_none e hn0)]; exact e)
    refine ⟨.ref h'.objs.size, H2, J3, rfl, q H2 h'.objs.size zs gr hperm hsort hn0 (g _ _ upd_same) fun z' hz' => ?_⟩
    obtain ⟨i, i1, i2⟩ := idx z' hz'
    obtain ⟨ws, ⟨j, e, j1, j2, ev⟩, hH⟩ := qt z'.1 (List.mem_of_getElem? i1)
    have eij : i = j := (List.getElem?_inj (List.getElem?_eq_some_iff.mp i1).1 nd).mp (i1.trans j1.symm)
    subst eij
    have ee : e = z'.2 := Option.some.inj (j2.symm.trans i2)
    rw [ev, ee] at hH
    exact hH
end
end L2
set_option Elab.async false
set_option linter.all false
set_option maxRecDepth 100000
set_option maxHeartbeats 2000000
namespace FW
open PySem PySem.Spec PyProof.Rows L2 AL
/-! ### the data of candles -/
abbrev Cd := Int × Int × Int
def cD (c : Cd) : D := .tup [.int c.1, .int c.2.1, .int c.2.2]
def csD (cs : List Cd) : D := .tup (cs.map cD)
def good (c : Cd) : Prop := (1 ≤ c.1 ∧ c.1 ≤ 99) ∧ (0 ≤ c.2.1 ∧ c.2.1 ≤ 999) ∧ (1 ≤ c.2.2 ∧ c.2.2 ≤ 99)
structure Gd (cs : List Cd) : Prop where
  len : cs.length ≤ 13
  all : ∀ c ∈ cs, good c
structure Goods (cs : List Cd) : Prop where
  len : cs.length ≤ 12
  all : ∀ c ∈ cs, good c
theorem Goods.gd {cs : List Cd} (G : Goods cs) : Gd cs := ⟨Nat.le_succ_of_le G.len, G.all⟩
def nD (n : Nat) : D := .int (n : Int)
def lotD (lot : List Nat) : D := .tup (lot.map nD)
def isSeq (d : D) (ns : List Nat) : Prop := d = .lst (ns.map nD) ∨ d = .tup (ns.map nD)
/-- rising, below n -/
def isLot (n : Nat) (lot : List Nat) : Prop := lot.Pairwise (· < ·) ∧ ∀ k ∈ lot, k < n
/-- numbers of candles -/
structure Nums (cs : List Cd) (ns : List Nat) : Prop where
  lt : ∀ n ∈ ns, n < cs.length
  len : ns.length ≤ 13
def within (x : D) (lo hi : Int) : Bool := match x with
  | .int i => decide (lo ≤ i) && decide (i ≤ hi)
  | _ => false
def fsp {α : Type} (enc : α → List D) (pre : α → Prop) (f : α → D) : ASp := fun xs Q => ∃ a, xs = enc a ∧ pre a ∧ Q (f a)
theorem fsp_mono {α : Type} {enc : α → List D} {pre : α → Prop} {f : α → D} : MonoA (fsp enc pre f) := fun xs P P' h ⟨a, e, p, q⟩ => ⟨a, e, p, h _ q⟩
def isInt (x : D) : Bool := match x with
  | .int _ => true
  | _ => false
def endC (c : Cd) : Int := c.2.1 + c.1
def at' (cs : List Cd) (n : Nat) : Cd := cs.getD n (1, 0, 1)
def pick (cs : List Cd) (ns : List Nat) : List Cd := ns.map (at' cs)
/-- one candle in its turn: lasts, what is lit (time, number) -/
def turn1 (cs : List Cd) (s : Int × List (Int × Int)) (n : Nat) : Int × List (Int × Int) :=
  let c := at' cs n
  let t := if c.2.1 < s.1 then c.2.1 else s.1
  if s.1 < t + c.1 then (t + c.1, s.2 ++ [(t, (n : Int))]) else s
def turnL (cs : List Cd) (T : Int) (ns : List Nat) : Int × List (Int × Int) := ns.foldl (turn1 cs) (T, [])
def turnM (cs : List Cd) (ns : List Nat) : Int × List (Int × Int) := ns.foldl (turn1 cs) (0, [])
/-- (time, number) as a step of a plan -/
def stepD (p : Int × Int) : D := .tup [.int p.2, .int p.1]
def risingE (cs : List Cd) (ns : List Nat) : Prop := ns.Pairwise fun i j => lexLe (endC (at' cs i), (i : Int)) (endC (at' cs j), (j : Int))
def isRising (cs : List Cd) (ns : List Nat) : Prop := ns.Perm (List.range cs.length) ∧ risingE cs ns
def LongestR (cs : List Cd) (t : Int) (qs : List (Int × Int)) : Prop := ∃ ns, isRising cs ns ∧ t = (turnM cs ns).1 ∧ qs.Perm (turnM cs ns).2 ∧ qs.Pairwise lexLe
/-- the bound by an end -/
def bndE (cs : List Cd) (e : Int) : Int := e + ((cs.filter fun c => decide (e < endC c)).map (·.1)).sum
def isBest (cs : List Cd) (t : Int) : Prop := (∀ e ∈ (0 : Int) :: cs.map endC, t ≤ bndE cs e) ∧ ∃ e ∈ (0 : Int) :: cs.map endC, t = bndE cs e
@[irreducible] def best (cs : List Cd) : Int := (cs.map fun c => bndE cs (endC c)).foldl (fun a b => if b < a then b else a) (bndE cs 0)
def lens (cs : List Cd) (ns : List Nat) : Int := (ns.map fun n => (at' cs n).1).sum
def bndOf (cs : List Cd) (lot : List Nat) (n : Nat) : Int := endC (at' cs n) + lens cs (lot.filter fun k => decide (endC (at' cs n) < endC (at' cs k)))
def boundsM (cs : List Cd) (lot : List Nat) (x : D) : D := match x with
  | .non => .int (lens cs lot)
  | .int i => if within (.int i) 0 (cs.length - 1) = true ∧ i.toNat ∈ lot then .int (bndOf cs lot i.toNat) else .non
  | _ => .non
def bound1 (cs : List Cd) (lot : List Nat) (s : Int × D) (n : Nat) : Int × D := if bndOf cs lot n < s.1 then (bndOf cs lot n, nD n) else s
def boundM (cs : List Cd) (lot : List Nat) : Int × D := lot.foldl (bound1 cs lot) (lens cs lot, .non)
def judgeGo (cs : List Cd) : List (Int × Int) → List Int → Int → Int → Option Int
  | [], _, _, T => some T
  | (t, n) :: r, lit, e, T => if (0 ≤ n ∧ n < cs.length) ∧ n ∉ lit ∧ e ≤ t ∧ t ≤ (at' cs n.toNat).2.1 ∧ t ≤ T then judgeGo cs r (lit ++ [n]) t (if t + (at' cs n.toNat).1 > T then t + (at' cs n.toNat).1 else T) else none
def judgeM (cs : List Cd) (ps : List (Int × Int)) : Option Int := judgeGo cs ps [] 0 0
/-- another candle in the place of one -/
def repl (cs : List Cd) (n : Nat) (c : Cd) : List Cd := cs.take n ++ c :: cs.drop (n + 1)
def keepB (cs : List Cd) (t : Int) : Bool := decide (t ≤ best cs)
def minus (lot gone : List Nat) : List Nat := lot.filter fun k => !decide (k ∈ gone)
def spareB (cs : List Cd) (t : Int) (n : Nat) : Bool := keepB (pick cs (minus (List.range cs.length) [n])) t
def leanStep (cs : List Cd) (t : Int) (left : List Nat) (n : Nat) : List Nat := if keepB (pick cs (minus left [n])) t = true then minus left [n] else left
def leanM (cs : List Cd) (t : Int) : List Nat := ((List.range cs.length).reverse).foldl (leanStep cs t) (List.range cs.length)
def withLen (cs : List Cd) (n : Nat) (l : Int) : List Cd := repl cs n (l, (at' cs n).2.1, (at' cs n).2.2)
def withDamp (cs : List Cd) (n : Nat) (d : Int) : List Cd := repl cs n ((at' cs n).1, d, (at' cs n).2.2)
structure LeastLen (cs : List Cd) (t : Int) (n : Nat) (l : Int) : Prop where
  lo : 1 ≤ l
  hi : l ≤ (at' cs n).1
  ok : t ≤ best (withLen cs n l)
  no : ∀ m, 1 ≤ m → m < l → best (withLen cs n m) < t
structure SoonDamp (cs : List Cd) (t : Int) (n : Nat) (l : Int) : Prop where
  lo : 0 ≤ l
  hi : l ≤ (at' cs n).2.1
  ok : t ≤ best (withDamp cs n l)
  no : ∀ m, 0 ≤ m → m < l → best (withDamp cs n m) < t
/-- the answer of one_more -/
inductive OneMore (cs : List Cd) (t d : Int) : D → Prop
  | zero : t ≤ best cs → OneMore cs t d (.int 0)
  | some {l : Int} : best cs < t → 1 ≤ l → l ≤ 99 → t ≤ best (cs ++ [(l, d, 1)]) → (∀ m, 1 ≤ m → m < l → best (cs ++ [(m, d, 1)]) < t) → OneMore cs t d (.int l)
  | none : best cs < t → (∀ m, 1 ≤ m → m ≤ 99 → best (cs ++ [(m, d, 1)]) < t) → OneMore cs t d .non
/-! ### what the program's defs promise -/
def sp_is_whole : ASp := fsp (fun x => [x]) (fun x => x.isRaw = false) fun x => .bl (isInt x)
def sp_is_within : ASp := fsp (fun a : D × Int × Int => [a.1, .int a.2.1, .int a.2.2]) (fun a => a.1.isRaw = false) fun a => .bl (within a.1 a.2.1 a.2.2)
def sp_is_candle : ASp := fsp (fun c : Cd => [cD c]) good fun _ => .bl true
/-- candles, as a tuple or as a list -/
def isCs (c : D) (cs : List Cd) : Prop := c = csD cs ∨ c = .lst (cs.map cD)
/-- the bounds behind an end by now, the least of them -/
@[irreducible] def bestT (cs : List Cd) (T : Int) : Int := ((cs.filter fun c => decide (T < endC c)).map fun c => bndE cs (endC c)).foldl (fun a b => if b < a then b else a) (bndE cs T)
def sp_is_candle_number : ASp := fun xs Q => ∃ cs c x, xs = [c, x] ∧ isCs c cs ∧ x.isRaw = false ∧ Q (.bl (within x 0 (cs.length - 1)))
def sp_check_candles : ASp := fsp (fun cs : List Cd => [csD cs]) Goods fun _ => .non
def sp_check_lot : ASp := fsp (fun a : List Cd × List Nat => [csD a.1, lotD a.2]) (fun a => Goods a.1 ∧ isLot a.1.length a.2) fun _ => .non
def sp_check_turn : ASp := fsp (fun a : List Cd × List Nat => [csD a.1, lotD a.2]) (fun a => Goods a.1 ∧ a.2.Nodup ∧ ∀ n ∈ a.2, n < a.1.length) fun _ => .non
def sp_check_within : ASp := fsp (fun a : Int × Int × Int => [.int a.1, .int a.2.1, .int a.2.2]) (fun a => a.2.1 ≤ a.1 ∧ a.1 ≤ a.2.2) fun _ => .non
def sp_check_time : ASp := fsp (fun t : Int => [.int t]) (fun t => 0 ≤ t ∧ t ≤ 9999) fun _ => .non
def sp_check_few : ASp := fsp (fun cs : List Cd => [csD cs]) (fun cs => cs.length ≤ 8) fun _ => .non
def sp_all_numbers : ASp := fsp (fun cs : List Cd => [csD cs]) Gd fun cs => lotD (List.range cs.length)
def sp_latest_end : ASp := fsp (fun c : Cd => [cD c]) (fun _ => True) fun c => .int (endC c)
def sp_by_latest_end : ASp := fun xs Q => ∃ cs ns c d, xs = [c, d] ∧ isCs c cs ∧ isSeq d ns ∧ Nums cs ns ∧ ∀ ms : List Nat, ms.Perm ns → risingE cs ms → Q (.lst (ms.map nD))
def sp_lit_in_turn : ASp := fun xs Q => ∃ cs ns c d T, xs = [c, d, .int T] ∧ isCs c cs ∧ isSeq d ns ∧ Nums cs ns ∧ Q (.tup [.int (turnL cs T ns).1, .lst ((turnL cs T ns).2.map AL.pairD)])
def sp_longest_from : ASp := fun xs Q => ∃ cs ns c d T, xs = [c, d, .int T] ∧ isCs c cs ∧ isSeq d ns ∧ Gd cs ∧ Nums cs ns ∧ 0 ≤ T ∧ Q (.int (bestT (pick cs ns) T))
def sp_longest_of : ASp := fun xs Q => ∃ cs ns d, xs = [csD cs, d] ∧ isSeq d ns ∧ Gd cs ∧ Nums cs ns ∧ Q (.int (best (pick cs ns)))
def sp_planned : ASp := fun xs Q => ∃ cs ns d, xs = [csD cs, d] ∧ isSeq d ns ∧ Nums cs ns ∧ ∀ qs : List (Int × Int), qs.Perm (turnM cs ns).2 → qs.Pairwise lexLe → Q (.tup [.int (turnM cs ns).1, .lst (qs.map stepD)])
def sp_longest : ASp := fun xs Q => ∃ cs, xs = [csD cs] ∧ Goods cs ∧ ∀ (t : Int) (qs : List (Int × Int)), LongestR cs t qs → Q (.tup [.int t, .lst (qs.map stepD)])
def sp_by_turn : ASp := fun xs Q => ∃ cs ns, xs = [csD cs, lotD ns] ∧ Goods cs ∧ ns.Nodup ∧ (∀ n ∈ ns, n < cs.length) ∧ ∀ qs : List (Int × Int), qs.Perm (turnM cs ns).2 → qs.Pairwise lexLe → Q (.tup [.int (turnM cs ns).1, .lst (qs.map stepD)])
def sp_lengths_together : ASp := fun xs Q => ∃ cs ns d, xs = [csD cs, d] ∧ isSeq d ns ∧ (∀ n ∈ ns, n < cs.length) ∧ ns.length ≤ 12 ∧ Q (.int (lens cs ns))
def sp_bound_by_candle : ASp := fsp (fun a : List Cd × List Nat × Nat => [csD a.1, lotD a.2.1, nD a.2.2]) (fun a => (∀ n ∈ a.2.1, n < a.1.length) ∧ a.2.1.length ≤ 12 ∧ a.2.2 < a.1.length) fun a => .int (bndOf a.1 a.2.1 a.2.2)
def sp_bounds : ASp := fsp (fun a : List Cd × List Nat × D => [csD a.1, lotD a.2.1, a.2.2]) (fun a => Goods a.1 ∧ isLot a.1.length a.2.1 ∧ a.2.2.isRaw = false) fun a => boundsM a.1 a.2.1 a.2.2
def sp_bound : ASp := fsp (fun a : List Cd × List Nat => [csD a.1, lotD a.2]) (fun a => Goods a.1 ∧ isLot a.1.length a.2) fun a => .tup [.int (boundM a.1 a.2).1, (boundM a.1 a.2).2]
def sp_is_step : ASp := fsp (fun a : List Cd × Int × Int => [csD a.1, stepD a.2]) (fun a => 0 ≤ a.2.2 ∧ a.2.2 < a.1.length) fun _ => .bl true
def sp_judged : ASp := fun xs Q => ∃ cs ps t, xs = [csD cs, .lst (ps.map stepD)] ∧ Goods cs ∧ ps.length ≤ 12 ∧ judgeM cs ps = some t ∧ Q (.int t)
def sp_lot_keeps : ASp := fun xs Q => ∃ cs ns d t, xs = [csD cs, d, .int t] ∧ isSeq d ns ∧ Gd cs ∧ Nums cs ns ∧ Q (.bl (keepB (pick cs ns) t))
def sp_keeps : ASp := fun xs Q => ∃ cs ns t, xs = [csD cs, lotD ns, .int t] ∧ Goods cs ∧ isLot cs.length ns ∧ 0 ≤ t ∧ t ≤ 9999 ∧ Q (.bl (keepB (pick cs ns) t))
def sp_all_keep : ASp := fun xs Q => ∃ cs t, xs = [csD cs, .int t] ∧ Gd cs ∧ Q (.bl (keepB cs t))
def sp_check_watch : ASp := fun xs Q => ∃ cs t, xs = [csD cs, .int t] ∧ Goods cs ∧ 0 ≤ t ∧ t ≤ 9999 ∧ t ≤ best cs ∧ Q .non
def sp_without : ASp := fun xs Q => ∃ ns gone, xs = [lotD ns, lotD gone] ∧ ns.length ≤ 13 ∧ Q (lotD (minus ns gone))
def sp_is_spare : ASp := fun xs Q => ∃ cs t n, xs = [csD cs, .int t, nD n] ∧ Gd cs ∧ Q (.bl (spareB cs t n))
def sp_keeps_with : ASp := fun xs Q => ∃ cs t n c, xs = [csD cs, .int t, nD n, cD c] ∧ Goods cs ∧ n < cs.length ∧ good c ∧ Q (.bl (keepB (repl cs n c) t))
def sp_least_length : ASp := fun xs Q => ∃ cs t n, xs = [csD cs, .int t, nD n] ∧ Goods cs ∧ n < cs.length ∧ t ≤ best cs ∧ ∀ l, LeastLen cs t n l → Q (.int l)
def sp_soonest_damp : ASp := fun xs Q => ∃ cs t n, xs = [csD cs, .int t, nD n] ∧ Goods cs ∧ n < cs.length ∧ t ≤ best cs ∧ ∀ l, SoonDamp cs t n l → Q (.int l)
def sp_spare : ASp := fun xs Q => ∃ cs t, xs = [csD cs, .int t] ∧ Goods cs ∧ 0 ≤ t ∧ t ≤ 9999 ∧ t ≤ best cs ∧ Q (.lst (((List.range cs.length).filter (spareB cs t)).map nD))
def sp_lean : ASp := fun xs Q => ∃ cs t, xs = [csD cs, .int t] ∧ Goods cs ∧ 0 ≤ t ∧ t ≤ 9999 ∧ t ≤ best cs ∧ Q (lotD (leanM cs t))
def sp_slack : ASp := fun xs Q => ∃ cs t n, xs = [csD cs, .int t, nD n] ∧ Goods cs ∧ 0 ≤ t ∧ t ≤ 9999 ∧ t ≤ best cs ∧ n < cs.length ∧ (spareB cs t n = true → Q (.tup [.int 0, .int 0])) ∧ (spareB cs t n = false → ∀ l d, LeastLen cs t n l → SoonDamp cs t n d → Q (.tup [.int l, .int d]))
def sp_one_more : ASp := fun xs Q => ∃ cs t d, xs = [csD cs, .int t, .int d] ∧ Goods cs ∧ 0 ≤ t ∧ t ≤ 9999 ∧ 0 ≤ d ∧ d ≤ 999 ∧ ∀ x, OneMore cs t d x → Q x
theorem mono_is_whole : MonoA sp_is_whole := fsp_mono
theorem mono_is_within : MonoA sp_is_within := fsp_mono
theorem mono_is_candle : MonoA sp_is_candle := fsp_mono
theorem mono_is_candle_number : MonoA sp_is_candle_number := fun xs P P' h ⟨cs, c, x, e, a, b, q⟩ => ⟨cs, c, x, e, a, b, h _ q⟩
theorem mono_check_candles : MonoA sp_check_candles := fsp_mono
theorem mono_check_lot : MonoA sp_check_lot := fsp_mono
theorem mono_check_turn : MonoA sp_check_turn := fsp_mono
theorem mono_check_within : MonoA sp_check_within := fsp_mono
theorem mono_check_time : MonoA sp_check_time := fsp_mono
theorem mono_check_few : MonoA sp_check_few := fsp_mono
theorem mono_all_numbers : MonoA sp_all_numbers := fsp_mono
theorem mono_latest_end : MonoA sp_latest_end := fsp_mono
theorem mono_by_latest_end : MonoA sp_by_latest_end := fun xs P P' h ⟨cs, ns, c, d, e, a, b, n, q⟩ => ⟨cs, ns, c, d, e, a, b, n, fun ms h1 h2 => h _ (q ms h1 h2)⟩
theorem mono_lit_in_turn : MonoA sp_lit_in_turn := fun xs P P' h ⟨cs, ns, c, d, T, e, a, b, n, q⟩ => ⟨cs, ns, c, d, T, e, a, b, n, h _ q⟩
theorem mono_longest_from : MonoA sp_longest_from := fun xs P P' h ⟨cs, ns, c, d, T, e, a, b, g, n, t, q⟩ => ⟨cs, ns, c, d, T, e, a, b, g, n, t, h _ q⟩
theorem mono_longest_of : MonoA sp_longest_of := fun xs P P' h ⟨cs, ns, d, e, a, b, c, q⟩ => ⟨cs, ns, d, e, a, b, c, h _ q⟩
theorem mono_planned : MonoA sp_planned := fun xs P P' h ⟨cs, ns, d, e, a, b, q⟩ => ⟨cs, ns, d, e, a, b, fun qs h1 h2 => h _ (q qs h1 h2)⟩
theorem mono_longest : MonoA sp_longest := fun xs P P' h ⟨cs, e, g, q⟩ => ⟨cs, e, g, fun t qs hn => h _ (q t qs hn)⟩
theorem mono_by_turn : MonoA sp_by_turn := fun xs P P' h ⟨cs, ns, e, a, b, c, q⟩ => ⟨cs, ns, e, a, b, c, fun qs h1 h2 => h _ (q qs h1 h2)⟩
theorem mono_lengths_together : MonoA sp_lengths_together := fun xs P P' h ⟨cs, ns, d, e, a, b, c, q⟩ => ⟨cs, ns, d, e, a, b, c, h _ q⟩
theorem mono_bound_by_candle : MonoA sp_bound_by_candle := fsp_mono
theorem mono_bounds : MonoA sp_bounds := fsp_mono
theorem mono_bound : MonoA sp_bound := fsp_mono
theorem mono_is_step : MonoA sp_is_step := fsp_mono
theorem mono_judged : MonoA sp_judged := fun xs P P' h ⟨cs, ps, t, e, a, b, c, q⟩ => ⟨cs, ps, t, e, a, b, c, h _ q⟩
theorem mono_lot_keeps : MonoA sp_lot_keeps := fun xs P P' h ⟨cs, ns, d, t, e, a, b, c, q⟩ => ⟨cs, ns, d, t, e, a, b, c, h _ q⟩
theorem mono_keeps : MonoA sp_keeps := fun xs P P' h ⟨cs, ns, t, e, a, b, c, d, q⟩ => ⟨cs, ns, t, e, a, b, c, d, h _ q⟩
theorem mono_all_keep : MonoA sp_all_keep := fun xs P P' h ⟨cs, t, e, a, q⟩ => ⟨cs, t, e, a, h _ q⟩
theorem mono_check_watch : MonoA sp_check_watch := fun xs P P' h ⟨cs, t, e, a, b, c, d, q⟩ => ⟨cs, t, e, a, b, c, d, h _ q⟩
theorem mono_without : MonoA sp_without := fun xs P P' h ⟨cs, t, e, a, q⟩ => ⟨cs, t, e, a, h _ q⟩
theorem mono_is_spare : MonoA sp_is_spare := fun xs P P' h ⟨cs, t, n, e, a, q⟩ => ⟨cs, t, n, e, a, h _ q⟩
theorem mono_keeps_with : MonoA sp_keeps_with := fun xs P P' h ⟨cs, t, n, c, e, a, b, d, q⟩ => ⟨cs, t, n, c, e, a, b, d, h _ q⟩
theorem mono_least_length : MonoA sp_least_length := fun xs P P' h ⟨cs, t, n, e, a, b, c, q⟩ => ⟨cs, t, n, e, a, b, c, fun l hl => h _ (q l hl)⟩
theorem mono_soonest_damp : MonoA sp_soonest_damp := fun xs P P' h ⟨cs, t, n, e, a, b, c, q⟩ => ⟨cs, t, n, e, a, b, c, fun l hl => h _ (q l hl)⟩
theorem mono_spare : MonoA sp_spare := fun xs P P' h ⟨cs, t, e, a, b, c, d, q⟩ => ⟨cs, t, e, a, b, c, d, h _ q⟩
theorem mono_lean : MonoA sp_lean := fun xs P P' h ⟨cs, t, e, a, b, c, d, q⟩ => ⟨cs, t, e, a, b, c, d, h _ q⟩
theorem mono_slack : MonoA sp_slack := fun xs P P' h ⟨cs, t, n, e, a, b, c, d, f, q, r⟩ => ⟨cs, t, n, e, a, b, c, d, f, fun z => h _ (q z), fun z l m h1 h2 => h _ (r z l m h1 h2)⟩
theorem mono_one_more : MonoA sp_one_more := fun xs P P' h ⟨cs, t, n, e, a, b, c, d, f, q⟩ => ⟨cs, t, n, e, a, b, c, d, f, fun x hx => h _ (q x hx)⟩
/-! ### drawing -/
def rowD (ns : List Int) (p m r : Int) : List D := [.scr ns, .int p, .int m, .int r]
def isRow (row : List D) : Prop := ∃ ns p m r, row = rowD ns p m r ∧ 0 ≤ p
def sp_l_taken : RSp := fun row xs Q => isRow row ∧ ∃ many : Int, xs = [.int many] ∧ 0 < many ∧ many < 1073741824 ∧ ∀ (n : Int) (row' : List D), 0 ≤ n → n < many → isRow row' → Q (.int n) row'
theorem mono_l_taken : MonoR sp_l_taken := fun row xs P P' h ⟨hr, many, e, a, b, q⟩ => ⟨hr, many, e, a, b, fun n row' h1 h2 h3 => h _ _ (q n row' h1 h2 h3)⟩
def sp_l_candles : RSp := fun row xs Q => isRow row ∧ ∃ a b : Int, xs = [.int a, .int b] ∧ 0 ≤ a ∧ a ≤ b ∧ b ≤ 12 ∧ ∀ (cs : List Cd) (row' : List D), Goods cs → a ≤ cs.length → cs.length ≤ b → isRow row' → Q (csD cs) row'
theorem mono_l_candles : MonoR sp_l_candles := fun row xs P P' h ⟨hr, x, y, e, a, b, c, q⟩ => ⟨hr, x, y, e, a, b, c, fun n row' h1 h2 h3 h4 => h _ _ (q n row' h1 h2 h3 h4)⟩
def topS (i : Nat) : Stmt := PySem.Challenge.pw_flameward_k26_whole_nights_by_plans.main.body.getD i (.Pass ⟨0, 0, 0, 0⟩)
structure Zs (mg : Str → Option Value) : Prop where
  len_ : mg "len" = none
  int_ : mg "int" = none
  bool_ : mg "bool" = none
  tuple_ : mg "tuple" = none
  list_ : mg "list" = none
  isinstance_ : mg "isinstance" = none
  enumerate_ : mg "enumerate" = none
  range_ : mg "range" = none
  sum_ : mg "sum" = none
  min_ : mg "min" = none
  max_ : mg "max" = none
  sorted_ : mg "sorted" = none
  MOST_CANDLES_ : ∃ t, mg "MOST_CANDLES" = some (.int 12 t)
  LONGEST_LENGTH_ : ∃ t, mg "LONGEST_LENGTH" = some (.int 99 t)
  LATEST_DAMP_ : ∃ t, mg "LATEST_DAMP" = some (.int 999 t)
  HIGHEST_PRICE_ : ∃ t, mg "HIGHEST_PRICE" = some (.int 99 t)
  LONGEST_WAIT_ : ∃ t, mg "LONGEST_WAIT" = some (.int 9999 t)
/-! ### is_whole -/
abbrev s_is_whole : Stmt := topS 10
abbrev N_is_whole : List Str := ["number"]
abbrev p_is_whole : List Str := ["number"]
theorem sc_is_whole : FnScope N_is_whole p_is_whole (defScope s_is_whole) := ⟨rfl, rfl, rfl, by decide +kernel, rfl, by decide +kernel, by decide +kernel⟩
def w_is_whole : WS := (wRet (wAndV (wCl kIsi (wCons (wVar 0) (wCons (wC (.raw (.ty "int"))) wNil))) (wNotV (wCl kIsi (wCons (wVar 0) (wCons (wC (.raw (.ty "bool"))) wNil))))))
set_option maxHeartbeats 4000000 in
theorem b_is_whole {P : Program} {w : World} {K : PySem.W.Frag} {mg : Str → Option Value} {base : Heap} (z : Zs mg)  (f : Addr) (cdv : Value) (A : Around) (outer : List PySem.Env) (s₀ : Shared) (H : Hp) (E : XK) (M W : Addr → Prop) (H0 T : Hp) [ClOk ⟨K, M, W, H0, T, none⟩] (hr : Room 0 (A.deeper (envOfC "is_whole" (defScope s_is_whole) s₀.heap.objs.size f cdv))) :
    QSs (cxOf CX0 P w K mg base N_is_whole "is_whole" (defScope s_is_whole) f cdv A outer s₀ H E).nox ⟨K, M, W, H0, T, none⟩ (defBody s_is_whole) w_is_whole := by
  
  exact (qss_one (qs_ret (qe_and (qe_callB call_isiA kIsi_op kIsi_mono (by rfl) z.isinstance_ (by decide +kernel) (qa_cons (qv 0) (qa_cons (qe_ty (by rfl) z.int_ (by decide +kernel)) qa_nil))) (qe_one (qe_not (qe_callB call_isiA kIsi_op kIsi_mono (by rfl) z.isinstance_ (by decide +kernel) (qa_cons (qv 0) (qa_cons (qe_ty (by rfl) z.bool_ (by decide +kernel)) qa_nil))))))))
/-! ### is_within -/
abbrev s_is_within : Stmt := topS 11
abbrev N_is_within : List Str := ["number", "low", "high"]
abbrev p_is_within : List Str := ["number", "low", "high"]
theorem sc_is_within : FnScope N_is_within p_is_within (defScope s_is_within) := ⟨rfl, rfl, rfl, by decide +kernel, rfl, by decide +kernel, by decide +kernel⟩
def w_is_within : WS := (wRet (wAndV (wCallS sp_is_whole (wCons (wVar 0) wNil)) (wChain kLe kLe (wVar 1) (wVar 0) (wVar 2))))
set_option maxHeartbeats 4000000 in
theorem b_is_within {P : Program} {w : World} {K : PySem.W.Frag} {mg : Str → Option Value} {base : Heap} (z : Zs mg) (h_is_whole : Ok P w K mg base 1 "is_whole" p_is_whole (liftSp K sp_is_whole)) (f : Addr) (cdv : Value) (A : Around) (outer : List PySem.Env) (s₀ : Shared) (H : Hp) (E : XK) (M W : Addr → Prop) (H0 T : Hp) [ClOk ⟨K, M, W, H0, T, none⟩] (hr : Room 1 (A.deeper (envOfC "is_within" (defScope s_is_within) s₀.heap.objs.size f cdv))) :
    QSs (cxOf CX0 P w K mg base N_is_within "is_within" (defScope s_is_within) f cdv A outer s₀ H E).nox ⟨K, M, W, H0, T, none⟩ (defBody s_is_within) w_is_within := by
  obtain ⟨f_is_whole, fd_is_whole, F_is_whole, m_is_whole, k_is_whole, d_is_whole⟩ := h_is_whole.ex
  exact (qss_one (qs_ret (qe_and (qe_call mono_is_whole F_is_whole (hr.mono (by decide)) m_is_whole k_is_whole d_is_whole pass0 (qa_cons (qv 0) qa_nil)) (qe_one (qe_chain op_le op_le (kI_op fun _ _ _ _ => .bl _) (kI_op fun _ _ _ _ => .bl _) kI_mono kI_mono (qv 1) (qv 0) (qv 2))))))
/-! ### is_candle -/
abbrev s_is_candle : Stmt := topS 12
abbrev N_is_candle : List Str := ["candle", "length", "damp", "price"]
abbrev p_is_candle : List Str := ["candle"]
theorem sc_is_candle : FnScope N_is_candle p_is_candle (defScope s_is_candle) := ⟨rfl, rfl, rfl, by decide +kernel, rfl, by decide +kernel, by decide +kernel⟩
def w_is_candle : WS := (wSeq (wIfS (wOr (wNot (wTest (wCl kIsi (wCons (wVar 0) (wCons (wC (.raw (.ty "tuple"))) wNil))))) (wTest (wOp kNe (w2e (wUn kLen (wVarB 0)) (wC (.int 3)))))) (wRet (wC (.bl false))) wNext)
  (wSeq (wAsg (wVar 0) (wgTup 3 (wgCons (wName 1) (wgCons (wName 2) (wgCons (wName 3) wgNil)))))
  (wSeq (wIfS (wOr (wNot (wTest (wCallS sp_is_within (wCons (wVar 1) (wCons (wC (.int 1)) (wCons (wC (.int 99)) wNil)))))) (wNot (wTest (wCallS sp_is_within (wCons (wVar 2) (wCons (wC (.int 0)) (wCons (wC (.int 999)) wNil))))))) (wRet (wC (.bl false))) wNext)
  (wRet (wCallS sp_is_within (wCons (wVar 3) (wCons (wC (.int 1)) (wCons (wC (.int 99)) wNil))))))))
set_option maxHeartbeats 4000000 in
theorem b_is_candle {P : Program} {w : World} {K : PySem.W.Frag} {mg : Str → Option Value} {base : Heap} (z : Zs mg) (h_is_within : Ok P w K mg base 2 "is_within" p_is_within (liftSp K sp_is_within)) (f : Addr) (cdv : Value) (A : Around) (outer : List PySem.Env) (s₀ : Shared) (H : Hp) (E : XK) (M W : Addr → Prop) (H0 T : Hp) [ClOk ⟨K, M, W, H0, T, none⟩] (hr : Room 2 (A.deeper (envOfC "is_candle" (defScope s_is_candle) s₀.heap.objs.size f cdv))) :
    QSs (cxOf CX0 P w K mg base N_is_candle "is_candle" (defScope s_is_candle) f cdv A outer s₀ H E).nox ⟨K, M, W, H0, T, none⟩ (defBody s_is_candle) w_is_candle := by
  obtain ⟨f_is_within, fd_is_within, F_is_within, m_is_within, k_is_within, d_is_within⟩ := h_is_within.ex
  exact (qss_cons (qs_if (QW.qt (qw_or (qt_not (qt_val (qe_callB call_isiA kIsi_op kIsi_mono (by rfl) z.isinstance_ (by decide +kernel) (qa_cons (qv 0) (qa_cons (qe_ty (by rfl) z.tuple_ (by decide +kernel)) qa_nil))))) (qw_or1 (qt_cmp (op_neD hr.units) kNe_op kNe_mono (q2_e (qe_b1 call_len_seq kLen_op kLen_mono (by rfl) z.len_ (by decide +kernel) (qvb 0)) (QE.qb qe_int)) (nomark _))))) (qss_one (qs_ret qe_bl)) qss_nil)
  (qss_cons (qs_asg (qv 0) (qg_tup rfl (qgs_cons (qg_name (i := 1) sc_is_candle.nd rfl (by first | exact Or.inl rfl | exact Or.inr rfl)) (qgs_cons (qg_name (i := 2) sc_is_candle.nd rfl (by first | exact Or.inl rfl | exact Or.inr rfl)) (qgs_cons (qg_name (i := 3) sc_is_candle.nd rfl (by first | exact Or.inl rfl | exact Or.inr rfl)) qgs_nil)))))
  (qss_cons (qs_if (QW.qt (qw_or (qt_not (qt_val (qe_call mono_is_within F_is_within (hr.mono (by decide)) m_is_within k_is_within d_is_within pass0 (qa_cons (qv 1) (qa_cons qe_int (qa_cons (qe_glob (v := .int 99) (by rfl) z.LONGEST_LENGTH_.choose_spec ⟨_, rfl⟩ (fun _ _ => .int _)) qa_nil)))))) (qw_or1 (qt_not (qt_val (qe_call mono_is_within F_is_within (hr.mono (by decide)) m_is_within k_is_within d_is_within pass0 (qa_cons (qv 2) (qa_cons qe_int (qa_cons (qe_glob (v := .int 999) (by rfl) z.LATEST_DAMP_.choose_spec ⟨_, rfl⟩ (fun _ _ => .int _)) qa_nil))))))))) (qss_one (qs_ret qe_bl)) qss_nil)
  (qss_one (qs_ret (qe_call mono_is_within F_is_within (hr.mono (by decide)) m_is_within k_is_within d_is_within pass0 (qa_cons (qv 3) (qa_cons qe_int (qa_cons (qe_glob (v := .int 99) (by rfl) z.HIGHEST_PRICE_.choose_spec ⟨_, rfl⟩ (fun _ _ => .int _)) qa_nil)))))))))
/-! ### check_candles -/
abbrev s_check_candles : Stmt := topS 14
abbrev N_check_candles : List Str := ["candles", "number", "candle"]
abbrev p_check_candles : List Str := ["candles"]
theorem sc_check_candles : FnScope N_check_candles p_check_candles (defScope s_check_candles) := ⟨rfl, rfl, rfl, by decide +kernel, rfl, by decide +kernel, by decide +kernel⟩
def w_check_candles : WS := (wSeq (wIfS (wNot (wTest (wCl kIsi (wCons (wVar 0) (wCons (wC (.raw (.ty "tuple"))) wNil))))) wNever wNext)
  (wFor (wEnumT (wVar 0)) (wgTup 2 (wgCons (wName 1) (wgCons (wName 2) wgNil))) (wIfS (wOr (wTest (wOp kGe (w2v 1 (wC (.int 12))))) (wNot (wTest (wCallS sp_is_candle (wCons (wVar 2) wNil))))) wNever wNext)))
set_option maxHeartbeats 4000000 in
theorem b_check_candles {P : Program} {w : World} {K : PySem.W.Frag} {mg : Str → Option Value} {base : Heap} (z : Zs mg) (h_is_candle : Ok P w K mg base 3 "is_candle" p_is_candle (liftSp K sp_is_candle)) (f : Addr) (cdv : Value) (A : Around) (outer : List PySem.Env) (s₀ : Shared) (H : Hp) (E : XK) (M W : Addr → Prop) (H0 T : Hp) [ClOk ⟨K, M, W, H0, T, none⟩] (hr : Room 3 (A.deeper (envOfC "check_candles" (defScope s_check_candles) s₀.heap.objs.size f cdv))) :
    QSs (cxOf CX0 P w K mg base N_check_candles "check_candles" (defScope s_check_candles) f cdv A outer s₀ H E).nox ⟨K, M, W, H0, T, none⟩ (defBody s_check_candles) w_check_candles := by
  obtain ⟨f_is_candle, fd_is_candle, F_is_candle, m_is_candle, k_is_candle, d_is_candle⟩ := h_is_candle.ex
  exact (qss_cons (qs_if (qt_not (qt_val (qe_callB call_isiA kIsi_op kIsi_mono (by rfl) z.isinstance_ (by decide +kernel) (qa_cons (qv 0) (qa_cons (qe_ty (by rfl) z.tuple_ (by decide +kernel)) qa_nil))))) (qss_one qs_never) qss_nil)
  (qss_one (qs_for PassesOwn.never rfl (qi_enumT (by rfl) z.enumerate_ (qv 0)) (qg_tup rfl (qgs_cons (qg_name (i := 1) sc_check_candles.nd rfl (by first | exact Or.inl rfl | exact Or.inr rfl)) (qgs_cons (qg_name (i := 2) sc_check_candles.nd rfl (by first | exact Or.inl rfl | exact Or.inr rfl)) qgs_nil))) (qss_one (qs_if (QW.qt (qw_or (qt_cmp op_ge (kI_op fun _ _ _ _ => .bl _) kI_mono (q2v 1 (QE.qb (qe_glob (v := .int 12) (by rfl) z.MOST_CANDLES_.choose_spec ⟨_, rfl⟩ (fun _ _ => .int _)))) (nomark _)) (qw_or1 (qt_not (qt_val (qe_call mono_is_candle F_is_candle (hr.mono (by decide)) m_is_candle k_is_candle d_is_candle pass0 (qa_cons (qv 2) qa_nil))))))) (qss_one qs_never) qss_nil)))))
/-! ### lit_in_turn -/
abbrev s_lit_in_turn : Stmt := topS 19
abbrev N_lit_in_turn : List Str := ["candles", "turn", "lasts", "steps", "number", "length", "damp", "_", "time"]
abbrev p_lit_in_turn : List Str := ["candles", "turn", "lasts"]
theorem sc_lit_in_turn : FnScope N_lit_in_turn p_lit_in_turn (defScope s_lit_in_turn) := ⟨rfl, rfl, rfl, by decide +kernel, rfl, by decide +kernel, by decide +kernel⟩
def w_lit_in_turn : WS := (wSeq (wOwn (wLst wNil) 3)
  (wSeq (wFor (wSeqI (wVar 1)) (wName 4) (wSeq (wAsg (wOp kIx (w2v 0 (wVarB 4))) (wgTup 3 (wgCons (wName 5) (wgCons (wName 6) (wgCons (wName 7) wgNil)))))
  (wSeq (wAsg (wCl kMin2 (wCons (wVar 2) (wCons (wVar 6) wNil))) (wName 8))
  (wIfS (wTest (wOp kGt (w2e (wOp kAdd (w2v 8 (wVarB 5))) (wVarB 2)))) (wSeq (wDrop (wApp 3 (wTup (wCons (wVar 8) (wCons (wVar 4) wNil)))))
  (wAsg (wOp kAdd (w2v 8 (wVarB 5))) (wName 2))) wNext))))
  (wRet (wTup (wCons (wVar 2) (wCons (wVar 3) wNil))))))
set_option maxHeartbeats 4000000 in
theorem b_lit_in_turn {P : Program} {w : World} {K : PySem.W.Frag} {mg : Str → Option Value} {base : Heap} (z : Zs mg)  (f : Addr) (cdv : Value) (A : Around) (outer : List PySem.Env) (s₀ : Shared) (H : Hp) (E : XK) (M W : Addr → Prop) (H0 T : Hp) [ClOk ⟨K, M, W, H0, T, none⟩] (hr : Room 0 (A.deeper (envOfC "lit_in_turn" (defScope s_lit_in_turn) s₀.heap.objs.size f cdv))) :
    QSs (cxOf CX0 P w K mg base N_lit_in_turn "lit_in_turn" (defScope s_lit_in_turn) f cdv A outer s₀ H E).nox ⟨K, M, W, H0, T, none⟩ (defBody s_lit_in_turn) w_lit_in_turn := by
  
  exact (qss_cons (qs_own (i := 3) sc_lit_in_turn.nd rfl (by first | exact Or.inl rfl | exact Or.inr rfl) (qf_lst qa_nil))
  (qss_cons (qs_for PassesOwn.never rfl (qi_seq (qv 1)) (qg_name (i := 4) sc_lit_in_turn.nd rfl (by first | exact Or.inl rfl | exact Or.inr rfl)) (qss_cons (qs_asg (qe_ix ix_seq kIx_op kIx_mono (q2v 0 (qvb 4)) (fun _ _ => rfl)) (qg_tup rfl (qgs_cons (qg_name (i := 5) sc_lit_in_turn.nd rfl (by first | exact Or.inl rfl | exact Or.inr rfl)) (qgs_cons (qg_name (i := 6) sc_lit_in_turn.nd rfl (by first | exact Or.inl rfl | exact Or.inr rfl)) (qgs_cons (qg_name (i := 7) sc_lit_in_turn.nd rfl (by first | exact Or.inl rfl | exact Or.inr rfl)) qgs_nil)))))
  (qss_cons (qs_set (i := 8) sc_lit_in_turn.nd rfl (by first | exact Or.inl rfl | exact Or.inr rfl) (qe_callB (call_min2 rfl) kMin2_op kMin2_mono (by rfl) z.min_ (by decide +kernel) (qa_cons (qv 2) (qa_cons (qv 6) qa_nil))))
  (qss_one (qs_if (qt_cmp op_gt (kI_op fun _ _ _ _ => .bl _) kI_mono (q2_e (qe_op op_addA kAdd_op kAdd_mono (q2v 8 (qvb 5))) (qvb 2)) (nomark _)) (qss_cons (qs_expr (qe_app (i := 3) rfl (by first | exact Or.inl rfl | exact Or.inr (Or.inl rfl) | exact Or.inr (Or.inr rfl)) (qe_tup (qa_cons (qv 8) (qa_cons (qv 4) qa_nil))) (mk := fun _ _ h1 h2 => pe_bm PySem.F.plainAttrs_list PySem.F.slot_list_append PySem.F.type_list_append mt_append h1 h2)))
  (qss_one (qs_set (i := 2) sc_lit_in_turn.nd rfl (by first | exact Or.inl rfl | exact Or.inr rfl) (qe_op op_addA kAdd_op kAdd_mono (q2v 8 (qvb 5)))))) qss_nil)))))
  (qss_one (qs_ret (qe_tup (qa_cons (qv 2) (qa_cons (qv 3) qa_nil)))))))
/-! ### planned -/
abbrev s_planned : Stmt := topS 28
abbrev N_planned : List Str := ["candles", "turn", "lasts", "steps", "time", "number"]
abbrev p_planned : List Str := ["candles", "turn"]
theorem sc_planned : FnScope N_planned p_planned (defScope s_planned) := ⟨rfl, rfl, rfl, by decide +kernel, rfl, by decide +kernel, by decide +kernel⟩
def w_planned : WS := (wSeq (wAsg (wCallS sp_lit_in_turn (wCons (wVar 0) (wCons (wVar 1) (wCons (wC (.int 0)) wNil)))) (wgTup 2 (wgCons (wName 2) (wgCons (wName 3) wgNil))))
  (wRet (wTup (wCons (wVar 2) (wCons (fun ρ Q => (wLc (wSeqI (fun ρ Q => (wUnF kSortP (wVarB 3)) ρ fun xs ρ' => Q (.lst xs) ρ')) (wgTup 2 (wgCons (wName 4) (wgCons (wName 5) wgNil))) wYes (wTup (wCons (wVar 5) (wCons (wVar 4) wNil))) [4, 5]) ρ fun xs ρ' => Q (.lst xs) ρ') wNil)))))
set_option maxHeartbeats 4000000 in
theorem b_planned {P : Program} {w : World} {K : PySem.W.Frag} {mg : Str → Option Value} {base : Heap} (z : Zs mg) (h_lit_in_turn : Ok P w K mg base 1 "lit_in_turn" p_lit_in_turn (liftSp K sp_lit_in_turn)) (f : Addr) (cdv : Value) (A : Around) (outer : List PySem.Env) (s₀ : Shared) (H : Hp) (E : XK) (M W : Addr → Prop) (H0 T : Hp) [ClOk ⟨K, M, W, H0, T, none⟩] (hr : Room 1 (A.deeper (envOfC "planned" (defScope s_planned) s₀.heap.objs.size f cdv))) :
    QSs (cxOf CX0 P w K mg base N_planned "planned" (defScope s_planned) f cdv A outer s₀ H E).nox ⟨K, M, W, H0, T, none⟩ (defBody s_planned) w_planned := by
  obtain ⟨f_lit_in_turn, fd_lit_in_turn, F_lit_in_turn, m_lit_in_turn, k_lit_in_turn, d_lit_in_turn⟩ := h_lit_in_turn.ex
  exact (qss_cons (qs_asg (qe_call mono_lit_in_turn F_lit_in_turn (hr.mono (by decide)) m_lit_in_turn k_lit_in_turn d_lit_in_turn pass0 (qa_cons (qv 0) (qa_cons (qv 1) (qa_cons qe_int qa_nil)))) (qg_tup rfl (qgs_cons (qg_name (i := 2) sc_planned.nd rfl (by first | exact Or.inl rfl | exact Or.inr rfl)) (qgs_cons (qg_name (i := 3) sc_planned.nd rfl (by first | exact Or.inl rfl | exact Or.inr rfl)) qgs_nil))))
  (qss_one (qs_ret (qe_tup (qa_cons (qv 2) (qa_cons (QF.qe (qf_lc rfl sc_planned.nd (qi_seq (QF.qe (qf_b1 cr_sortedPO kSortP_op kSortP_mono (by rfl) z.sorted_ (by decide +kernel) (qvb 3)))) (blkOk_by (N := N_planned) (sc := defScope s_planned) (own := [("time", 4), ("number", 5)]) (by decide +kernel)) ⟨fun _ _ _ _ _ _ => (qc_tup rfl (qcs_cons (qc_name (i := 4) sc_planned.nd rfl (by first | exact Or.inl rfl | exact Or.inr rfl) (by decide)) (qcs_cons (qc_name (i := 5) sc_planned.nd rfl (by first | exact Or.inl rfl | exact Or.inr rfl) (by decide)) qcs_nil))), fun _ _ _ _ _ _ => qts_nil, fun _ _ _ _ _ _ => (qe_tup (qa_cons (qv 5) (qa_cons (qv 4) qa_nil)))⟩)) qa_nil))))))
/-! ### latest_end -/
abbrev s_latest_end : Stmt := topS 17
abbrev N_latest_end : List Str := ["candle", "length", "damp", "_"]
abbrev p_latest_end : List Str := ["candle"]
theorem sc_latest_end : FnScope N_latest_end p_latest_end (defScope s_latest_end) := ⟨rfl, rfl, rfl, by decide +kernel, rfl, by decide +kernel, by decide +kernel⟩
def w_latest_end : WS := (wSeq (wAsg (wVar 0) (wgTup 3 (wgCons (wName 1) (wgCons (wName 2) (wgCons (wName 3) wgNil)))))
  (wRet (wOp kAdd (w2v 2 (wVarB 1)))))
set_option maxHeartbeats 4000000 in
theorem b_latest_end {P : Program} {w : World} {K : PySem.W.Frag} {mg : Str → Option Value} {base : Heap} (z : Zs mg)  (f : Addr) (cdv : Value) (A : Around) (outer : List PySem.Env) (s₀ : Shared) (H : Hp) (E : XK) (M W : Addr → Prop) (H0 T : Hp) [ClOk ⟨K, M, W, H0, T, none⟩] (hr : Room 0 (A.deeper (envOfC "latest_end" (defScope s_latest_end) s₀.heap.objs.size f cdv))) :
    QSs (cxOf CX0 P w K mg base N_latest_end "latest_end" (defScope s_latest_end) f cdv A outer s₀ H E).nox ⟨K, M, W, H0, T, none⟩ (defBody s_latest_end) w_latest_end := by
  
  exact (qss_cons (qs_asg (qv 0) (qg_tup rfl (qgs_cons (qg_name (i := 1) sc_latest_end.nd rfl (by first | exact Or.inl rfl | exact Or.inr rfl)) (qgs_cons (qg_name (i := 2) sc_latest_end.nd rfl (by first | exact Or.inl rfl | exact Or.inr rfl)) (qgs_cons (qg_name (i := 3) sc_latest_end.nd rfl (by first | exact Or.inl rfl | exact Or.inr rfl)) qgs_nil)))))
  (qss_one (qs_ret (qe_op op_addA kAdd_op kAdd_mono (q2v 2 (qvb 1))))))
/-! ### by_latest_end -/
abbrev s_by_latest_end : Stmt := topS 18
abbrev N_by_latest_end : List Str := ["candles", "lot", "ends", "number", "_"]
abbrev p_by_latest_end : List Str := ["candles", "lot"]
theorem sc_by_latest_end : FnScope N_by_latest_end p_by_latest_end (defScope s_by_latest_end) := ⟨rfl, rfl, rfl, by decide +kernel, rfl, by decide +kernel, by decide +kernel⟩
def w_by_latest_end : WS := (wSeq (wAsg (fun ρ Q => (wLc (wSeqI (wVar 1)) (wName 3) wYes (wTup (wCons (wCallS sp_latest_end (wCons (wOp kIx (w2v 0 (wVarB 3))) wNil)) (wCons (wVar 3) wNil))) [3]) ρ fun xs ρ' => Q (.lst xs) ρ') (wName 2))
  (wRet (fun ρ Q => (wLc (wSeqI (fun ρ Q => (wUnF kSortP (wVarB 2)) ρ fun xs ρ' => Q (.lst xs) ρ')) (wgTup 2 (wgCons (wName 4) (wgCons (wName 3) wgNil))) wYes (wVar 3) [4, 3]) ρ fun xs ρ' => Q (.lst xs) ρ')))
set_option maxHeartbeats 4000000 in
theorem b_by_latest_end {P : Program} {w : World} {K : PySem.W.Frag} {mg : Str → Option Value} {base : Heap} (z : Zs mg) (h_latest_end : Ok P w K mg base 1 "latest_end" p_latest_end (liftSp K sp_latest_end)) (f : Addr) (cdv : Value) (A : Around) (outer : List PySem.Env) (s₀ : Shared) (H : Hp) (E : XK) (M W : Addr → Prop) (H0 T : Hp) [ClOk ⟨K, M, W, H0, T, none⟩] (hr : Room 1 (A.deeper (envOfC "by_latest_end" (defScope s_by_latest_end) s₀.heap.objs.size f cdv))) :
    QSs (cxOf CX0 P w K mg base N_by_latest_end "by_latest_end" (defScope s_by_latest_end) f cdv A outer s₀ H E).nox ⟨K, M, W, H0, T, none⟩ (defBody s_by_latest_end) w_by_latest_end := by
  obtain ⟨f_latest_end, fd_latest_end, F_latest_end, m_latest_end, k_latest_end, d_latest_end⟩ := h_latest_end.ex
  exact (qss_cons (qs_setLc (i := 2) rfl sc_by_latest_end.nd rfl rfl (sw_true rfl rfl rfl (by decide +kernel)) (qi_seq (qv 1)) (blkOk_by (N := N_by_latest_end) (sc := defScope s_by_latest_end) (own := [("number", 3)]) (by decide +kernel)) ⟨fun _ _ _ _ _ _ => (qc_name (i := 3) sc_by_latest_end.nd rfl (by first | exact Or.inl rfl | exact Or.inr rfl) (by decide)), fun _ _ _ _ _ _ => qts_nil, fun _ _ _ _ _ _ => (qe_tup (qa_cons (qe_call mono_latest_end F_latest_end (hr.mono (by decide)) m_latest_end k_latest_end d_latest_end pass0 (qa_cons (qe_ix ix_seq kIx_op kIx_mono (q2v 0 (qvb 3)) (fun _ _ => rfl)) qa_nil)) (qa_cons (qv 3) qa_nil)))⟩)
  (qss_one (qs_ret (QF.qe (qf_lc rfl sc_by_latest_end.nd (qi_seq (QF.qe (qf_b1 cr_sortedPO kSortP_op kSortP_mono (by rfl) z.sorted_ (by decide +kernel) (qvb 2)))) (blkOk_by (N := N_by_latest_end) (sc := defScope s_by_latest_end) (own := [("_", 4), ("number", 3)]) (by decide +kernel)) ⟨fun _ _ _ _ _ _ => (qc_tup rfl (qcs_cons (qc_name (i := 4) sc_by_latest_end.nd rfl (by first | exact Or.inl rfl | exact Or.inr rfl) (by decide)) (qcs_cons (qc_name (i := 3) sc_by_latest_end.nd rfl (by first | exact Or.inl rfl | exact Or.inr rfl) (by decide)) qcs_nil))), fun _ _ _ _ _ _ => qts_nil, fun _ _ _ _ _ _ => (qv 3)⟩)))))
/-! ### all_numbers -/
abbrev s_all_numbers : Stmt := topS 16
abbrev N_all_numbers : List Str := ["candles"]
abbrev p_all_numbers : List Str := ["candles"]
theorem sc_all_numbers : FnScope N_all_numbers p_all_numbers (defScope s_all_numbers) := ⟨rfl, rfl, rfl, by decide +kernel, rfl, by decide +kernel, by decide +kernel⟩
def w_all_numbers : WS := (wRet (wTupRg (wUn kLen (wVarB 0))))
set_option maxHeartbeats 4000000 in
theorem b_all_numbers {P : Program} {w : World} {K : PySem.W.Frag} {mg : Str → Option Value} {base : Heap} (z : Zs mg)  (f : Addr) (cdv : Value) (A : Around) (outer : List PySem.Env) (s₀ : Shared) (H : Hp) (E : XK) (M W : Addr → Prop) (H0 T : Hp) [ClOk ⟨K, M, W, H0, T, none⟩] (hr : Room 0 (A.deeper (envOfC "all_numbers" (defScope s_all_numbers) s₀.heap.objs.size f cdv))) :
    QSs (cxOf CX0 P w K mg base N_all_numbers "all_numbers" (defScope s_all_numbers) f cdv A outer s₀ H E).nox ⟨K, M, W, H0, T, none⟩ (defBody s_all_numbers) w_all_numbers := by
  
  exact (qss_one (qs_ret (qe_tupRg rfl (by rfl) z.tuple_ (by rfl) z.range_ (qe_b1 call_len_seq kLen_op kLen_mono (by rfl) z.len_ (by decide +kernel) (qvb 0)))))
/-! ### longest -/
abbrev s_longest : Stmt := topS 27
abbrev N_longest : List Str := ["candles"]
abbrev p_longest : List Str := ["candles"]
theorem sc_longest : FnScope N_longest p_longest (defScope s_longest) := ⟨rfl, rfl, rfl, by decide +kernel, rfl, by decide +kernel, by decide +kernel⟩
def w_longest : WS := (wSeq (wDrop (wCallS sp_check_candles (wCons (wVar 0) wNil)))
  (wRet (wCallS sp_planned (wCons (wVar 0) (wCons (wCallS sp_by_latest_end (wCons (wVar 0) (wCons (wCallS sp_all_numbers (wCons (wVar 0) wNil)) wNil))) wNil)))))
set_option maxHeartbeats 4000000 in
theorem b_longest {P : Program} {w : World} {K : PySem.W.Frag} {mg : Str → Option Value} {base : Heap} (z : Zs mg) (h_all_numbers : Ok P w K mg base 1 "all_numbers" p_all_numbers (liftSp K sp_all_numbers)) (h_by_latest_end : Ok P w K mg base 2 "by_latest_end" p_by_latest_end (liftSp K sp_by_latest_end)) (h_check_candles : Ok P w K mg base 4 "check_candles" p_check_candles (liftSp K sp_check_candles)) (h_planned : Ok P w K mg base 2 "planned" p_planned (liftSp K sp_planned)) (f : Addr) (cdv : Value) (A : Around) (outer : List PySem.Env) (s₀ : Shared) (H : Hp) (E : XK) (M W : Addr → Prop) (H0 T : Hp) [ClOk ⟨K, M, W, H0, T, none⟩] (hr : Room 4 (A.deeper (envOfC "longest" (defScope s_longest) s₀.heap.objs.size f cdv))) :
    QSs (cxOf CX0 P w K mg base N_longest "longest" (defScope s_longest) f cdv A outer s₀ H E).nox ⟨K, M, W, H0, T, none⟩ (defBody s_longest) w_longest := by
  obtain ⟨f_all_numbers, fd_all_numbers, F_all_numbers, m_all_numbers, k_all_numbers, d_all_numbers⟩ := h_all_numbers.ex
  obtain ⟨f_by_latest_end, fd_by_latest_end, F_by_latest_end, m_by_latest_end, k_by_latest_end, d_by_latest_end⟩ := h_by_latest_end.ex
  obtain ⟨f_check_candles, fd_check_candles, F_check_candles, m_check_candles, k_check_candles, d_check_candles⟩ := h_check_candles.ex
  obtain ⟨f_planned, fd_planned, F_planned, m_planned, k_planned, d_planned⟩ := h_planned.ex
  exact (qss_cons (qs_expr (qe_call mono_check_candles F_check_candles (hr.mono (by decide)) m_check_candles k_check_candles d_check_candles pass0 (qa_cons (qv 0) qa_nil)))
  (qss_one (qs_ret (qe_call mono_planned F_planned (hr.mono (by decide)) m_planned k_planned d_planned pass0 (qa_cons (qv 0) (qa_cons (qe_call mono_by_latest_end F_by_latest_end (hr.mono (by decide)) m_by_latest_end k_by_latest_end d_by_latest_end pass0 (qa_cons (qv 0) (qa_cons (qe_call mono_all_numbers F_all_numbers (hr.mono (by decide)) m_all_numbers k_all_numbers d_all_numbers pass0 (qa_cons (qv 0) qa_nil)) qa_nil))) qa_nil))))))
/-! ### longest_from -/
abbrev s_longest_from : Stmt := topS 20
abbrev N_longest_from : List Str := ["candles", "lot", "lasts"]
abbrev p_longest_from : List Str := ["candles", "lot", "lasts"]
theorem sc_longest_from : FnScope N_longest_from p_longest_from (defScope s_longest_from) := ⟨rfl, rfl, rfl, by decide +kernel, rfl, by decide +kernel, by decide +kernel⟩
def w_longest_from : WS := (wRet (wOp kIx (w2e (wCallS sp_lit_in_turn (wCons (wVar 0) (wCons (wCallS sp_by_latest_end (wCons (wVar 0) (wCons (wVar 1) wNil))) (wCons (wVar 2) wNil)))) (wC (.int 0)))))
set_option maxHeartbeats 4000000 in
theorem b_longest_from {P : Program} {w : World} {K : PySem.W.Frag} {mg : Str → Option Value} {base : Heap} (z : Zs mg) (h_by_latest_end : Ok P w K mg base 2 "by_latest_end" p_by_latest_end (liftSp K sp_by_latest_end)) (h_lit_in_turn : Ok P w K mg base 1 "lit_in_turn" p_lit_in_turn (liftSp K sp_lit_in_turn)) (f : Addr) (cdv : Value) (A : Around) (outer : List PySem.Env) (s₀ : Shared) (H : Hp) (E : XK) (M W : Addr → Prop) (H0 T : Hp) [ClOk ⟨K, M, W, H0, T, none⟩] (hr : Room 2 (A.deeper (envOfC "longest_from" (defScope s_longest_from) s₀.heap.objs.size f cdv))) :
    QSs (cxOf CX0 P w K mg base N_longest_from "longest_from" (defScope s_longest_from) f cdv A outer s₀ H E).nox ⟨K, M, W, H0, T, none⟩ (defBody s_longest_from) w_longest_from := by
  obtain ⟨f_by_latest_end, fd_by_latest_end, F_by_latest_end, m_by_latest_end, k_by_latest_end, d_by_latest_end⟩ := h_by_latest_end.ex
  obtain ⟨f_lit_in_turn, fd_lit_in_turn, F_lit_in_turn, m_lit_in_turn, k_lit_in_turn, d_lit_in_turn⟩ := h_lit_in_turn.ex
  exact (qss_one (qs_ret (qe_ix ix_seq kIx_op kIx_mono (q2_e (qe_call mono_lit_in_turn F_lit_in_turn (hr.mono (by decide)) m_lit_in_turn k_lit_in_turn d_lit_in_turn pass0 (qa_cons (qv 0) (qa_cons (qe_call mono_by_latest_end F_by_latest_end (hr.mono (by decide)) m_by_latest_end k_by_latest_end d_by_latest_end pass0 (qa_cons (qv 0) (qa_cons (qv 1) qa_nil))) (qa_cons (qv 2) qa_nil)))) (QE.qb qe_int)) (fun _ _ => rfl))))
/-! ### is_candle_number -/
abbrev s_is_candle_number : Stmt := topS 13
abbrev N_is_candle_number : List Str := ["candles", "number"]
abbrev p_is_candle_number : List Str := ["candles", "number"]
theorem sc_is_candle_number : FnScope N_is_candle_number p_is_candle_number (defScope s_is_candle_number) := ⟨rfl, rfl, rfl, by decide +kernel, rfl, by decide +kernel, by decide +kernel⟩
def w_is_candle_number : WS := (wRet (wCallS sp_is_within (wCons (wVar 1) (wCons (wC (.int 0)) (wCons (wOp kSub (w2e (wUn kLen (wVarB 0)) (wC (.int 1)))) wNil)))))
set_option maxHeartbeats 4000000 in
theorem b_is_candle_number {P : Program} {w : World} {K : PySem.W.Frag} {mg : Str → Option Value} {base : Heap} (z : Zs mg) (h_is_within : Ok P w K mg base 2 "is_within" p_is_within (liftSp K sp_is_within)) (f : Addr) (cdv : Value) (A : Around) (outer : List PySem.Env) (s₀ : Shared) (H : Hp) (E : XK) (M W : Addr → Prop) (H0 T : Hp) [ClOk ⟨K, M, W, H0, T, none⟩] (hr : Room 2 (A.deeper (envOfC "is_candle_number" (defScope s_is_candle_number) s₀.heap.objs.size f cdv))) :
    QSs (cxOf CX0 P w K mg base N_is_candle_number "is_candle_number" (defScope s_is_candle_number) f cdv A outer s₀ H E).nox ⟨K, M, W, H0, T, none⟩ (defBody s_is_candle_number) w_is_candle_number := by
  obtain ⟨f_is_within, fd_is_within, F_is_within, m_is_within, k_is_within, d_is_within⟩ := h_is_within.ex
  exact (qss_one (qs_ret (qe_call mono_is_within F_is_within (hr.mono (by decide)) m_is_within k_is_within d_is_within pass0 (qa_cons (qv 1) (qa_cons qe_int (qa_cons (qe_op op_sub (kI_op fun _ _ _ _ => .int _) kI_mono (q2_e (qe_b1 call_len_seq kLen_op kLen_mono (by rfl) z.len_ (by decide +kernel) (qvb 0)) (QE.qb qe_int))) qa_nil))))))
/-! ### _law_taken -/
abbrev s_l_taken : Stmt := topS 30
abbrev N_l_taken : List Str := ["_law_row", "_law_many", "_law_found", "_law_cell"]
abbrev p_l_taken : List Str := ["_law_row", "_law_many"]
theorem sc_l_taken : FnScope N_l_taken p_l_taken (defScope s_l_taken) := ⟨rfl, rfl, rfl, by decide +kernel, rfl, by decide +kernel, by decide +kernel⟩
def w_l_taken : WS := (wSeq (wIfS (wTest (wOp kGt (w2e (wOp kIx (w2v 0 (wC (.int 3)))) (wC (.int 0))))) (wSeq (wAsg (wOp kMod (w2e (wUn kInt (wOp kIx (w2v 0 (wC (.int 3))))) (wVarB 1))) (wName 2))
  (wSeq (wSetI (wOp kDiv (w2e (wOp kIx (w2v 0 (wC (.int 3)))) (wVarB 1))) 0 3)
  (wRet (wVar 2)))) wNext)
  (wSeq (wSetI (wOp kAdd (w2e (wOp kIx (w2v 0 (wC (.int 1)))) (wC (.int 1)))) 0 1)
  (wSeq (wIfS (wTest (wOp kGt (w2e (wOp kIx (w2v 0 (wC (.int 1)))) (wUn kLen (wOp kIx (w2v 0 (wC (.int 0)))))))) (wSeq (wSetI (wOp kMod (w2e (wUn kInt (wOp kAdd (w2e (wOp kMul (w2e (wOp kIx (w2v 0 (wC (.int 2)))) (wC (.int 48271)))) (wC (.int 11))))) (wC (.int 2147483647)))) 0 2)
  (wRet (wOp kMod (w2e (wUn kInt (wOp kDiv (w2e (wOp kIx (w2v 0 (wC (.int 2)))) (wC (.int 7))))) (wVarB 1))))) wNext)
  (wSeq (wAsg (wOp kIx (w2e (wOp kIx (w2v 0 (wC (.int 0)))) (wOp kSub (w2e (wOp kIx (w2v 0 (wC (.int 1)))) (wC (.int 1)))))) (wName 3))
  (wSeq (wSetI (wOp kMod (w2e (wUn kInt (wOp kAdd (w2e (wOp kAdd (w2e (wOp kMul (w2e (wOp kIx (w2v 0 (wC (.int 2)))) (wC (.int 48271)))) (wVarB 3))) (wC (.int 11))))) (wC (.int 2147483647)))) 0 2)
  (wSeq (wIfS (wTest (wOp kGe (w2v 3 (wOp kPow (w2e (wC (.int 10)) (wC (.int 18))))))) (wSetI (wOp kDiv (w2v 3 (wVarB 1))) 0 3) wNext)
  (wRet (wOp kMod (w2e (wUn kInt (wVarB 3)) (wVarB 1))))))))))
set_option maxHeartbeats 4000000 in
theorem b_l_taken {P : Program} {w : World} {K : PySem.W.Frag} {mg : Str → Option Value} {base : Heap} (z : Zs mg)  (f : Addr) (cdv : Value) (A : Around) (outer : List PySem.Env) (s₀ : Shared) (H : Hp) (E : XK) (M W : Addr → Prop) (H0 T : Hp) [ClOk ⟨K, M, W, H0, T, none⟩] (hr : Room 0 (A.deeper (envOfC "_law_taken" (defScope s_l_taken) s₀.heap.objs.size f cdv))) :
    QSs (cxOf CX0 P w K mg base N_l_taken "_law_taken" (defScope s_l_taken) f cdv A outer s₀ H E).nox ⟨K, M, W, H0, T, none⟩ (defBody s_l_taken) w_l_taken := by
  
  exact (qss_cons (qs_if (qt_cmp op_gt (kI_op fun _ _ _ _ => .bl _) kI_mono (q2_e (qe_ix ix_seq kIx_op kIx_mono (q2v 0 (QE.qb qe_int)) (fun _ _ => rfl)) (QE.qb qe_int)) (nomark _)) (qss_cons (qs_set (i := 2) sc_l_taken.nd rfl (by first | exact Or.inl rfl | exact Or.inr rfl) (qe_op op_mod (kI2_op fun _ _ _ _ => .int _) kI2_mono (q2_e (qe_t1 call_int1 kInt_op kInt_mono (by rfl) z.int_ (by decide +kernel) (QE.qb (qe_ix ix_seq kIx_op kIx_mono (q2v 0 (QE.qb qe_int)) (fun _ _ => rfl)))) (qvb 1))))
  (qss_cons (qs_setI (i := 0) (k := 3) rfl (by first | exact Or.inl rfl | exact Or.inr (Or.inl rfl) | exact Or.inr (Or.inr rfl)) (qe_op op_fdiv (kI2_op fun _ _ _ _ => .int _) kI2_mono (q2_e (qe_ix ix_seq kIx_op kIx_mono (q2v 0 (QE.qb qe_int)) (fun _ _ => rfl)) (qvb 1))))
  (qss_one (qs_ret (qv 2))))) qss_nil)
  (qss_cons (qs_setI (i := 0) (k := 1) rfl (by first | exact Or.inl rfl | exact Or.inr (Or.inl rfl) | exact Or.inr (Or.inr rfl)) (qe_op op_addA kAdd_op kAdd_mono (q2_e (qe_ix ix_seq kIx_op kIx_mono (q2v 0 (QE.qb qe_int)) (fun _ _ => rfl)) (QE.qb qe_int))))
  (qss_cons (qs_if (qt_cmp op_gt (kI_op fun _ _ _ _ => .bl _) kI_mono (q2_e (qe_ix ix_seq kIx_op kIx_mono (q2v 0 (QE.qb qe_int)) (fun _ _ => rfl)) (QE.qb (qe_b1 call_len_seq kLen_op kLen_mono (by rfl) z.len_ (by decide +kernel) (QE.qb (qe_ix ix_seq kIx_op kIx_mono (q2v 0 (QE.qb qe_int)) (fun _ _ => rfl)))))) (nomark _)) (qss_cons (qs_setI (i := 0) (k := 2) rfl (by first | exact Or.inl rfl | exact Or.inr (Or.inl rfl) | exact Or.inr (Or.inr rfl)) (qe_op op_mod (kI2_op fun _ _ _ _ => .int _) kI2_mono (q2_e (qe_t1 call_int1 kInt_op kInt_mono (by rfl) z.int_ (by decide +kernel) (QE.qb (qe_op op_addA kAdd_op kAdd_mono (q2_e (qe_op op_mul (kI2_op fun _ _ _ _ => .int _) kI2_mono (q2_e (qe_ix ix_seq kIx_op kIx_mono (q2v 0 (QE.qb qe_int)) (fun _ _ => rfl)) (QE.qb qe_int))) (QE.qb qe_int))))) (QE.qb qe_int))))
  (qss_one (qs_ret (qe_op op_mod (kI2_op fun _ _ _ _ => .int _) kI2_mono (q2_e (qe_t1 call_int1 kInt_op kInt_mono (by rfl) z.int_ (by decide +kernel) (QE.qb (qe_op op_fdiv (kI2_op fun _ _ _ _ => .int _) kI2_mono (q2_e (qe_ix ix_seq kIx_op kIx_mono (q2v 0 (QE.qb qe_int)) (fun _ _ => rfl)) (QE.qb qe_int))))) (qvb 1)))))) qss_nil)
  (qss_cons (qs_set (i := 3) sc_l_taken.nd rfl (by first | exact Or.inl rfl | exact Or.inr rfl) (qe_ix ix_seq kIx_op kIx_mono (q2_e (qe_ix ix_seq kIx_op kIx_mono (q2v 0 (QE.qb qe_int)) (fun _ _ => rfl)) (QE.qb (qe_op op_sub (kI_op fun _ _ _ _ => .int _) kI_mono (q2_e (qe_ix ix_seq kIx_op kIx_mono (q2v 0 (QE.qb qe_int)) (fun _ _ => rfl)) (QE.qb qe_int))))) (fun _ _ => rfl)))
  (qss_cons (qs_setI (i := 0) (k := 2) rfl (by first | exact Or.inl rfl | exact Or.inr (Or.inl rfl) | exact Or.inr (Or.inr rfl)) (qe_op op_mod (kI2_op fun _ _ _ _ => .int _) kI2_mono (q2_e (qe_t1 call_int1 kInt_op kInt_mono (by rfl) z.int_ (by decide +kernel) (QE.qb (qe_op op_addA kAdd_op kAdd_mono (q2_e (qe_op op_addA kAdd_op kAdd_mono (q2_e (qe_op op_mul (kI2_op fun _ _ _ _ => .int _) kI2_mono (q2_e (qe_ix ix_seq kIx_op kIx_mono (q2v 0 (QE.qb qe_int)) (fun _ _ => rfl)) (QE.qb qe_int))) (qvb 3))) (QE.qb qe_int))))) (QE.qb qe_int))))
  (qss_cons (qs_if (qt_cmp op_ge (kI_op fun _ _ _ _ => .bl _) kI_mono (q2v 3 (QE.qb (qe_op op_pow (kI2_op fun _ _ _ _ => .int _) kI2_mono (q2_e qe_int (QE.qb qe_int))))) (nomark _)) (qss_one (qs_setI (i := 0) (k := 3) rfl (by first | exact Or.inl rfl | exact Or.inr (Or.inl rfl) | exact Or.inr (Or.inr rfl)) (qe_op op_fdiv (kI2_op fun _ _ _ _ => .int _) kI2_mono (q2v 3 (qvb 1))))) qss_nil)
  (qss_one (qs_ret (qe_op op_mod (kI2_op fun _ _ _ _ => .int _) kI2_mono (q2_e (qe_t1 call_int1 kInt_op kInt_mono (by rfl) z.int_ (by decide +kernel) (qvb 3)) (qvb 1)))))))))))
/-! ### _law_candles -/
abbrev s_l_candles : Stmt := topS 31
abbrev N_l_candles : List Str := ["_law_row", "_law_least", "_law_most_many", "_law_many", "_law_long", "_law_damp", "_law_found", "_law_k", "_law_length", "_law_soon"]
abbrev p_l_candles : List Str := ["_law_row", "_law_least", "_law_most_many"]
theorem sc_l_candles : FnScope N_l_candles p_l_candles (defScope s_l_candles) := ⟨rfl, rfl, rfl, by decide +kernel, rfl, by decide +kernel, by decide +kernel⟩
def w_l_candles : WS := (wSeq (wAsg (wOp kAdd (w2v 1 (wCallR sp_l_taken 0 (wCons (wOp kAdd (w2e (wOp kSub (w2v 2 (wVarB 1))) (wC (.int 1)))) wNil)))) (wName 3))
  (wSeq (wPar 4 5 (wCons (wOp kIx (w2e (fun ρ Q => (wLst (wCons (wC (.int 3)) (wCons (wC (.int 9)) (wCons (wC (.int 99)) wNil)))) ρ fun xs ρ' => Q (.lst xs) ρ') (wCallR sp_l_taken 0 (wCons (wC (.int 3)) wNil)))) (wCons (wOp kIx (w2e (fun ρ Q => (wLst (wCons (wC (.int 5)) (wCons (wC (.int 30)) (wCons (wC (.int 1000)) wNil)))) ρ fun xs ρ' => Q (.lst xs) ρ') (wCallR sp_l_taken 0 (wCons (wC (.int 3)) wNil)))) wNil)))
  (wSeq (wOwn (wLst wNil) 6)
  (wSeq (wFor (wRng1 (wCons (wVar 3) wNil)) (wName 7) (wSeq (wPar 8 9 (wCons (wOp kAdd (w2e (wC (.int 1)) (wCallR sp_l_taken 0 (wCons (wVar 4) wNil)))) (wCons (wCallR sp_l_taken 0 (wCons (wVar 5) wNil)) wNil)))
  (wDrop (wApp 6 (wTup (wCons (wVar 8) (wCons (wVar 9) (wCons (wOp kAdd (w2e (wC (.int 1)) (wCallR sp_l_taken 0 (wCons (wOp kIx (w2e (fun ρ Q => (wLst (wCons (wC (.int 3)) (wCons (wC (.int 99)) wNil))) ρ fun xs ρ' => Q (.lst xs) ρ') (wCallR sp_l_taken 0 (wCons (wC (.int 2)) wNil)))) wNil)))) wNil))))))))
  (wRet (wUn kTuple (wVarB 6)))))))
set_option maxHeartbeats 4000000 in
theorem b_l_candles {P : Program} {w : World} {K : PySem.W.Frag} {mg : Str → Option Value} {base : Heap} (z : Zs mg) (h_l_taken : Ok P w K mg base 1 "_law_taken" p_l_taken (liftRw K sp_l_taken)) (f : Addr) (cdv : Value) (A : Around) (outer : List PySem.Env) (s₀ : Shared) (H : Hp) (E : XK) (M W : Addr → Prop) (H0 T : Hp) [ClOk ⟨K, M, W, H0, T, none⟩] (hr : Room 1 (A.deeper (envOfC "_law_candles" (defScope s_l_candles) s₀.heap.objs.size f cdv))) :
    QSs (cxOf CX0 P w K mg base N_l_candles "_law_candles" (defScope s_l_candles) f cdv A outer s₀ H E).nox ⟨K, M, W, H0, T, none⟩ (defBody s_l_candles) w_l_candles := by
  obtain ⟨f_l_taken, fd_l_taken, F_l_taken, m_l_taken, k_l_taken, d_l_taken⟩ := h_l_taken.ex
  exact (qss_cons (qs_set (i := 3) sc_l_candles.nd rfl (by first | exact Or.inl rfl | exact Or.inr rfl) (qe_op op_addA kAdd_op kAdd_mono (q2v 1 (QE.qb (qe_callR (i := 0) mono_l_taken F_l_taken (hr.mono (by decide)) m_l_taken k_l_taken d_l_taken pass0 rfl (by first | exact Or.inl rfl | exact Or.inr (Or.inl rfl) | exact Or.inr (Or.inr rfl)) (qa_cons (qe_op op_addA kAdd_op kAdd_mono (q2_e (qe_op op_sub (kI_op fun _ _ _ _ => .int _) kI_mono (q2v 2 (qvb 1))) (QE.qb qe_int))) qa_nil))))))
  (qss_cons (qs_par (i := 4) (j := 5) rfl sc_l_candles.nd rfl rfl (by decide) rfl rfl (qa_cons (qe_ix ix_seq kIx_op kIx_mono (q2_e (QF.qe (qf_lst (qa_cons qe_int (qa_cons qe_int (qa_cons qe_int qa_nil))))) (QE.qb (qe_callR (i := 0) mono_l_taken F_l_taken (hr.mono (by decide)) m_l_taken k_l_taken d_l_taken pass0 rfl (by first | exact Or.inl rfl | exact Or.inr (Or.inl rfl) | exact Or.inr (Or.inr rfl)) (qa_cons qe_int qa_nil)))) (fun _ _ => rfl)) (qa_cons (qe_ix ix_seq kIx_op kIx_mono (q2_e (QF.qe (qf_lst (qa_cons qe_int (qa_cons qe_int (qa_cons qe_int qa_nil))))) (QE.qb (qe_callR (i := 0) mono_l_taken F_l_taken (hr.mono (by decide)) m_l_taken k_l_taken d_l_taken pass0 rfl (by first | exact Or.inl rfl | exact Or.inr (Or.inl rfl) | exact Or.inr (Or.inr rfl)) (qa_cons qe_int qa_nil)))) (fun _ _ => rfl)) qa_nil)) (by rfl))
  (qss_cons (qs_own (i := 6) sc_l_candles.nd rfl (by first | exact Or.inl rfl | exact Or.inr rfl) (qf_lst qa_nil))
  (qss_cons (qs_for PassesOwn.never rfl (qi_range1 (by rfl) z.range_ (qa_cons (qv 3) qa_nil)) (qg_name (i := 7) sc_l_candles.nd rfl (by first | exact Or.inl rfl | exact Or.inr rfl)) (qss_cons (qs_par (i := 8) (j := 9) rfl sc_l_candles.nd rfl rfl (by decide) rfl rfl (qa_cons (qe_op op_addA kAdd_op kAdd_mono (q2_e qe_int (QE.qb (qe_callR (i := 0) mono_l_taken F_l_taken (hr.mono (by decide)) m_l_taken k_l_taken d_l_taken pass0 rfl (by first | exact Or.inl rfl | exact Or.inr (Or.inl rfl) | exact Or.inr (Or.inr rfl)) (qa_cons (qv 4) qa_nil))))) (qa_cons (qe_callR (i := 0) mono_l_taken F_l_taken (hr.mono (by decide)) m_l_taken k_l_taken d_l_taken pass0 rfl (by first | exact Or.inl rfl | exact Or.inr (Or.inl rfl) | exact Or.inr (Or.inr rfl)) (qa_cons (qv 5) qa_nil)) qa_nil)) (by rfl))
  (qss_one (qs_expr (qe_app (i := 6) rfl (by first | exact Or.inl rfl | exact Or.inr (Or.inl rfl) | exact Or.inr (Or.inr rfl)) (qe_tup (qa_cons (qv 8) (qa_cons (qv 9) (qa_cons (qe_op op_addA kAdd_op kAdd_mono (q2_e qe_int (QE.qb (qe_callR (i := 0) mono_l_taken F_l_taken (hr.mono (by decide)) m_l_taken k_l_taken d_l_taken pass0 rfl (by first | exact Or.inl rfl | exact Or.inr (Or.inl rfl) | exact Or.inr (Or.inr rfl)) (qa_cons (qe_ix ix_seq kIx_op kIx_mono (q2_e (QF.qe (qf_lst (qa_cons qe_int (qa_cons qe_int qa_nil)))) (QE.qb (qe_callR (i := 0) mono_l_taken F_l_taken (hr.mono (by decide)) m_l_taken k_l_taken d_l_taken pass0 rfl (by first | exact Or.inl rfl | exact Or.inr (Or.inl rfl) | exact Or.inr (Or.inr rfl)) (qa_cons qe_int qa_nil)))) (fun _ _ => rfl)) qa_nil))))) qa_nil)))) (mk := fun _ _ h1 h2 => pe_bm PySem.F.plainAttrs_list PySem.F.slot_list_append PySem.F.type_list_append mt_append h1 h2))))))
  (qss_one (qs_ret (qe_t1 call_tuple_of kTuple_op kTuple_mono (by rfl) z.tuple_ (by decide +kernel) (qvb 6))))))))
end FW
set_option Elab.async false
set_option linter.all false
set_option maxRecDepth 100000
set_option maxHeartbeats 2000000
namespace FW
open PySem PySem.Spec PyProof.Rows L2 AL
theorem kb_ii : kitB "int" "int" = some true := by decide +kernel
theorem kb_bi : kitB "bool" "int" = some true := by decide +kernel
theorem kb_si : kitB "str" "int" = some false := by decide +kernel
theorem kb_ti : kitB "tuple" "int" = some false := by decide +kernel
theorem kb_li : kitB "list" "int" = some false := by decide +kernel
theorem kb_ni : kitB "NoneType" "int" = some false := by decide +kernel
theorem kb_ib : kitB "int" "bool" = some false := by decide +kernel
theorem kb_bb : kitB "bool" "bool" = some true := by decide +kernel
theorem kb_tb : kitB "tuple" "bool" = some false := by decide +kernel
theorem kb_nb : kitB "NoneType" "bool" = some false := by decide +kernel
theorem kb_lb : kitB "list" "bool" = some false := by decide +kernel
theorem kb_sb : kitB "str" "bool" = some false := by decide +kernel
theorem kb_tt : kitB "tuple" "tuple" = some true := by decide +kernel
theorem kb_lt : kitB "list" "tuple" = some false := by decide +kernel
theorem kb_it : kitB "int" "tuple" = some false := by decide +kernel
theorem kb_nt : kitB "NoneType" "tuple" = some false := by decide +kernel
theorem kb_ll : kitB "list" "list" = some true := by decide +kernel
theorem kb_tl : kitB "tuple" "list" = some false := by decide +kernel
theorem kb_il : kitB "int" "list" = some false := by decide +kernel
theorem kb_nl : kitB "NoneType" "list" = some false := by decide +kernel
theorem read_is_whole : ∀ xs Q, sp_is_whole xs Q → w_is_whole { nx := fun _ => Q .non, rt := fun y _ => Q y } (startE N_is_whole [] xs) := by
  rintro xs Q ⟨x, rfl, hx, q⟩
  cases x with
  | raw v => cases hx
  | dct v => cases hx
  | scr v => cases hx
  | bl b => exact ⟨rfl, true, kb_bi, ⟨rfl, true, kb_bb, q⟩⟩
  | int i => exact ⟨rfl, true, kb_ii, ⟨rfl, false, kb_ib, q⟩⟩
  | non => exact ⟨rfl, false, kb_ni, q⟩
  | str s => exact ⟨rfl, false, kb_si, q⟩
  | tup s => exact ⟨rfl, false, kb_ti, q⟩
  | lst s => exact ⟨rfl, false, kb_li, q⟩
theorem within_t {i lo hi : Int} (h1 : lo ≤ i) (h2 : i ≤ hi) : within (.int i) lo hi = true := by
  show (decide (lo ≤ i) && decide (i ≤ hi)) = true
  rw [decide_eq_true h1, decide_eq_true h2]; rfl
theorem read_is_within : ∀ xs Q, sp_is_within xs Q → w_is_within { nx := fun _ => Q .non, rt := fun y _ => Q y } (startE N_is_within [] xs) := by
  rintro xs Q ⟨⟨x, lo, hi⟩, rfl, hx, q⟩
  refine ⟨x, rfl, hx, ?_⟩
  cases x with
  | int i =>
    have q : Q (.bl (decide (lo ≤ i) && decide (i ≤ hi))) := q
    show if decide (lo ≤ i) = true then Q (.bl (decide (i ≤ hi))) else Q (.bl false)
    by_cases h : lo ≤ i
    · rw [decide_eq_true h] at q ⊢; exact q
    · rw [decide_eq_false h] at q ⊢; exact q
  | raw v => cases hx
  | dct v => cases hx
  | scr v => cases hx
  | _ => exact q
theorem read_is_candle : ∀ xs Q, sp_is_candle xs Q → w_is_candle { nx := fun _ => Q .non, rt := fun y _ => Q y } (startE N_is_candle [] xs) := by
  rintro xs Q ⟨⟨l, d, p⟩, rfl, ⟨h1, h2, h3⟩, q⟩
  refine ⟨rfl, true, kb_tt, ?_⟩
  refine ⟨rfl, rfl, ?_⟩
  refine ⟨rfl, ?_⟩
  refine ⟨(.int l, 1, 99), rfl, rfl, ?_⟩
  show isB (.bl (within (.int l) 1 99)) _
  rw [within_t h1.1 h1.2]
  refine ⟨(.int d, 0, 999), rfl, rfl, ?_⟩
  show isB (.bl (within (.int d) 0 999)) _
  rw [within_t h2.1 h2.2]
  refine ⟨(.int p, 1, 99), rfl, rfl, ?_⟩
  show Q (.bl (within (.int p) 1 99))
  rw [within_t h3.1 h3.2]
  exact q
theorem read_is_candle_number : ∀ xs Q, sp_is_candle_number xs Q → w_is_candle_number { nx := fun _ => Q .non, rt := fun y _ => Q y } (startE N_is_candle_number [] xs) := by
  rintro xs Q ⟨cs, c, x, rfl, hc, hx, q⟩
  rcases hc with rfl | rfl
  · refine ⟨(x, 0, (cs.length : Int) - 1), ?_, hx, q⟩
    show [x, D.int 0, D.int (((cs.map cD).length : Int) - 1)] = _
    rw [List.length_map]
  · refine ⟨(x, 0, (cs.length : Int) - 1), ?_, hx, q⟩
    show [x, D.int 0, D.int (((cs.map cD).length : Int) - 1)] = _
    rw [List.length_map]
theorem at_get {cs : List Cd} {n : Nat} (h : n < cs.length) : cs[n]? = some (at' cs n) := by
  unfold at'
  rw [List.getD_eq_getElem?_getD, List.getElem?_eq_getElem h]; rfl
theorem at_mem {cs : List Cd} {n : Nat} (h : n < cs.length) : at' cs n ∈ cs := List.mem_of_getElem? (at_get h)
theorem at_good {cs : List Cd} (G : Goods cs) {n : Nat} (h : n < cs.length) : good (at' cs n) := G.all _ (at_mem h)
theorem at_csD {cs : List Cd} {n : Nat} (h : n < cs.length) : atI (cs.map cD) (n : Int) = some (cD (at' cs n)) := atI_nat (by rw [List.getElem?_map, at_get h]; rfl)
theorem ix_cs {cs : List Cd} {c : D} (hc : isCs c cs) {n : Nat} (h : n < cs.length) {P : D → Prop} (p : P (cD (at' cs n))) : kIx c (nD n) P := by
  rcases hc with rfl | rfl
  · exact ⟨cD (at' cs n), at_csD h, p⟩
  · exact ⟨cD (at' cs n), at_csD h, p⟩
theorem small {n : Nat} (h : n ≤ 1000) : n ≤ sizeLine := Nat.le_of_lt (small1000 h)
theorem read_check_candles : ∀ xs Q, sp_check_candles xs Q → w_check_candles { nx := fun _ => Q .non, rt := fun y _ => Q y } (startE N_check_candles [] xs) := by
  rintro xs Q ⟨cs, rfl, G, q⟩
  refine ⟨rfl, true, kb_tt, ?_⟩
  show wLoop _ _ _ (enums 0 (cs.map cD)) _
  rw [enums_map]
  refine loop_inv (enc := fun p : Cd × Nat => .tup [.int (p.2 : Nat), cD p.1]) (I := fun _ ρ => ∃ a b, ρ = [.d (csD cs), a, b]) ?_ ?_ _ ⟨.un, .un, rfl⟩
  · rintro pre ⟨c, k⟩ post e K hK ρ ⟨a, b, rfl⟩
    have hm : (c, k) ∈ cs.zipIdx 0 := by rw [e]; exact List.mem_append_right _ List.mem_cons_self
    have h2 := List.mem_zipIdx hm
    have hk : k < 12 := by have := h2.2.1; have := G.len; omega
    have hc : c ∈ cs := by rw [h2.2.2]; exact List.getElem_mem _
    refine ⟨rfl, ?_⟩
    show if decide ((12 : Int) ≤ (k : Int)) = true then _ else _
    rw [decide_eq_false (show ¬ (12 : Int) ≤ (k : Int) by omega)]
    refine ⟨c, rfl, G.all c hc, ?_⟩
    exact hK _ ⟨_, _, rfl⟩
  · rintro ρ ⟨a, b, rfl⟩
    exact q
theorem read_latest_end : ∀ xs Q, sp_latest_end xs Q → w_latest_end { nx := fun _ => Q .non, rt := fun y _ => Q y } (startE N_latest_end [] xs) := by
  rintro xs Q ⟨⟨l, d, p⟩, rfl, _, q⟩
  exact ⟨rfl, q⟩
theorem filter_true {α : Type} (xs : List α) : xs.filter (fun _ => true) = xs := by
  induction xs with
  | nil => rfl
  | cons x r ih => rw [List.filter_cons_of_pos rfl, ih]
theorem map_int (f : Nat → Int) (ns : List Nat) : (ns.map fun n => D.int (f n)) = (ns.map f).map D.int := by rw [List.map_map]; rfl
theorem lot_len {n : Nat} : ∀ (lot : List Nat) (a : Nat), lot.Pairwise (· < ·) → (∀ k ∈ lot, a ≤ k ∧ k < n) → lot.length ≤ n - a
  | [], a, _, _ => Nat.zero_le _
  | x :: r, a, h, hk => by
    have h2 := List.pairwise_cons.mp h
    have hx := hk x List.mem_cons_self
    have ih := lot_len r (x + 1) h2.2 fun k hm => ⟨h2.1 k hm, (hk k (List.mem_cons_of_mem _ hm)).2⟩
    rw [List.length_cons]
    omega
theorem isLot.len {n : Nat} {lot : List Nat} (h : isLot n lot) : lot.length ≤ n := by
  have := lot_len lot 0 h.1 fun k hk => ⟨Nat.zero_le _, h.2 k hk⟩
  omega
theorem inD_lot {i : Int} : ∀ (lot : List Nat), 0 ≤ i → inD (.int i) (lot.map nD) = decide (i.toNat ∈ lot)
  | [], _ => by simp [inD, inV]
  | n :: r, h => by
    have ih := inD_lot r h
    unfold inD inV at ih ⊢
    rw [List.map_cons, List.map_cons, List.any_cons, ih]
    show ((n : Int) == i || decide (i.toNat ∈ r)) = _
    by_cases e : (n : Int) = i
    · have e2 : i.toNat = n := by omega
      rw [e2]; simp [e]
    · have e2 : ¬ i.toNat = n := by omega
      simp [e, e2]
theorem flat_nD (lot : List Nat) : (lot.map nD).all D.flat = true := by
  rw [List.all_map, List.all_eq_true]
  intro n _; rfl
theorem inD_ints {i : Int} : ∀ (ns : List Int), inD (.int i) (ns.map D.int) = decide (i ∈ ns)
  | [] => by simp [inD, inV]
  | n :: r => by
    have ih := inD_ints (i := i) r
    unfold inD inV at ih ⊢
    rw [List.map_cons, List.map_cons, List.any_cons, ih]
    show (n == i || decide (i ∈ r)) = _
    by_cases e : n = i
    · subst e; simp
    · have e2 : ¬ i = n := fun z => e z.symm
      simp [e, e2]
theorem flat_ints (ns : List Int) : (ns.map D.int).all D.flat = true := by
  rw [List.all_map, List.all_eq_true]
  intro n _; rfl
theorem emod_row {x many : Int} (h : 0 < many) : 0 ≤ x % many ∧ x % many < many := ⟨Int.emod_nonneg _ (by omega), Int.emod_lt_of_pos _ h⟩
theorem atI_menu {xs : List Int} {n : Int} (h0 : 0 ≤ n) (h1 : n < xs.length) : ∃ v, v ∈ xs ∧ atI (xs.map D.int) n = some (.int v) := by
  have hk : n.toNat < xs.length := by omega
  refine ⟨xs[n.toNat], List.getElem_mem _, ?_⟩
  have := atI_nat (xs := xs.map D.int) (j := n.toNat) (v := .int xs[n.toNat]) (by rw [List.getElem?_map, List.getElem?_eq_getElem hk]; rfl)
  rw [Int.toNat_of_nonneg h0] at this
  exact this
theorem read_l_taken : ∀ row xs Q, sp_l_taken row xs Q → w_l_taken { nx := fun ρ => ownE ρ[0]? fun w row' => w = true ∧ Q .non row', rt := fun y ρ => ownE ρ[0]? fun w row' => w = true ∧ Q y row' } (startR N_l_taken row xs) := by
  rintro row xs Q ⟨⟨ns, p, m, r, rfl, hp⟩, many, rfl, h0, h1, q⟩
  have hd : CDiv r many := ⟨h0, h1⟩
  refine ⟨.int r, rfl, ?_⟩
  show if decide (0 < r) = true then _ else _
  by_cases hr : 0 < r
  · rw [decide_eq_true hr]
    refine ⟨.int r, rfl, h0, ?_⟩
    refine ⟨.int r, rfl, ⟨h0, h1⟩, ?_⟩
    refine ⟨(by show (3 : Nat) < 4; decide), ?_⟩
    exact ⟨rfl, q _ _ (emod_row h0).1 (emod_row h0).2 ⟨ns, p, m, r / many, rfl, hp⟩⟩
  · rw [decide_eq_false hr]
    refine ⟨.int p, rfl, ?_⟩
    refine ⟨(by show (1 : Nat) < 4; decide), ?_⟩
    refine ⟨.int (p + 1), rfl, ?_⟩
    refine ⟨.scr ns, rfl, ?_⟩
    show if decide ((ns.length : Int) < p + 1) = true then _ else _
    by_cases hl : (ns.length : Int) < p + 1
    · rw [decide_eq_true hl]
      refine ⟨.int m, rfl, ⟨.inr ⟨by decide, by decide⟩, ?_⟩⟩
      refine ⟨(by show (0 : Int) < 2147483647; decide), ?_⟩
      refine ⟨(by show (2 : Nat) < 4; decide), ?_⟩
      refine ⟨.int _, rfl, ⟨by decide, by decide⟩, ?_⟩
      refine ⟨h0, ?_⟩
      exact ⟨rfl, q _ _ (emod_row h0).1 (emod_row h0).2 ⟨ns, p + 1, _, r, rfl, by omega⟩⟩
    · rw [decide_eq_false hl]
      refine ⟨.scr ns, rfl, ?_⟩
      refine ⟨.int (p + 1), rfl, ?_⟩
      have hk : p.toNat < ns.length := by omega
      refine ⟨ns[p.toNat], ?_, ?_⟩
      · have := atI_nat (xs := ns) (List.getElem?_eq_getElem hk)
        rw [Int.toNat_of_nonneg hp] at this
        rw [show p + 1 - 1 = p by omega]
        exact this
      generalize ns[p.toNat] = cell
      refine ⟨.int m, rfl, ⟨.inr ⟨by decide, by decide⟩, ?_⟩⟩
      refine ⟨(by show (0 : Int) < 2147483647; decide), ?_⟩
      refine ⟨(by show (2 : Nat) < 4; decide), ?_⟩
      refine ⟨⟨by decide, by decide, by decide⟩, ?_⟩
      show if decide ((10 : Int) ^ (18 : Int).toNat ≤ cell) = true then _ else _
      by_cases hc : (10 : Int) ^ (18 : Int).toNat ≤ cell
      · rw [decide_eq_true hc]
        refine ⟨⟨h0, h1⟩, ?_⟩
        refine ⟨(by show (3 : Nat) < 4; decide), ?_⟩
        refine ⟨h0, ?_⟩
        exact ⟨rfl, q _ _ (emod_row h0).1 (emod_row h0).2 ⟨ns, p + 1, _, _, rfl, by omega⟩⟩
      · rw [decide_eq_false hc]
        refine ⟨h0, ?_⟩
        exact ⟨rfl, q _ _ (emod_row h0).1 (emod_row h0).2 ⟨ns, p + 1, _, _, rfl, by omega⟩⟩
theorem read_l_candles : ∀ row xs Q, sp_l_candles row xs Q → w_l_candles { nx := fun ρ => ownE ρ[0]? fun w row' => w = true ∧ Q .non row', rt := fun y ρ => ownE ρ[0]? fun w row' => w = true ∧ Q y row' } (startR N_l_candles row xs) := by
  rintro row xs Q ⟨hrow, a, b, rfl, h0, h1, h2, q⟩
  refine ⟨hrow, b - a + 1, rfl, by omega, by omega, fun n row1 n0 n1 hrow1 => ?_⟩
  refine ⟨by decide, ?_⟩
  refine ⟨hrow1, 3, rfl, by decide, by decide, fun i row2 i0 i1 hrow2 => ?_⟩
  obtain ⟨lg, hlg, elg⟩ := atI_menu (xs := [3, 9, 99]) i0 i1
  refine ⟨.int lg, elg, ?_⟩
  refine ⟨by decide, ?_⟩
  refine ⟨hrow2, 3, rfl, by decide, by decide, fun j row3 j0 j1 hrow3 => ?_⟩
  obtain ⟨dm, hdm, edm⟩ := atI_menu (xs := [5, 30, 1000]) j0 j1
  refine ⟨.int dm, edm, ?_⟩
  refine ⟨by decide, ?_⟩
  refine ⟨⟨by omega, by omega⟩, ?_⟩
  have hlg2 : 0 < lg ∧ lg ≤ 99 := by
    rcases (show lg = 3 ∨ lg = 9 ∨ lg = 99 by simpa using hlg) with rfl | rfl | rfl <;> exact ⟨by decide, by decide⟩
  have hdm2 : 0 < dm ∧ dm ≤ 1000 := by
    rcases (show dm = 5 ∨ dm = 30 ∨ dm = 1000 by simpa using hdm) with rfl | rfl | rfl <;> exact ⟨by decide, by decide⟩
  rw [intsD_map]
  have hn : (a + n).toNat ≤ 12 := by omega
  refine loop_inv (enc := fun k : Nat => .int (k : Nat)) (I := fun pre ρ => ∃ (row : List D) (cs : List Cd) (x y z : En), ρ = [.own true row, .d (.int a), .d (.int b), .d (.int (a + n)), .d (.int lg), .d (.int dm), .own false (cs.map cD), x, y, z] ∧ isRow row ∧ cs.length = pre.length ∧ ∀ c ∈ cs, good c) ?_ ?_ _ ⟨row3, [], .un, .un, .un, rfl, hrow3, rfl, fun c h => nomatch h⟩
  · rintro pre k post e K hK ρ ⟨row, cs, x, y, z, rfl, hrow, hl, hg⟩
    have hp : pre.length < 12 := by
      have := congrArg List.length e
      rw [List.length_range, List.length_append, List.length_cons] at this
      omega
    refine ⟨hrow, lg, rfl, hlg2.1, by omega, fun u row4 u0 u1 hrow4 => ?_⟩
    refine ⟨hrow4, dm, rfl, hdm2.1, by omega, fun v row5 v0 v1 hrow5 => ?_⟩
    refine ⟨by decide, ?_⟩
    refine ⟨hrow5, 2, rfl, by decide, by decide, fun w row6 w0 w1 hrow6 => ?_⟩
    obtain ⟨pr, hpr, epr⟩ := atI_menu (xs := [3, 99]) w0 w1
    refine ⟨.int pr, epr, ?_⟩
    have hpr2 : 0 < pr ∧ pr ≤ 99 := by
      rcases (show pr = 3 ∨ pr = 99 by simpa using hpr) with rfl | rfl <;> exact ⟨by decide, by decide⟩
    refine ⟨hrow6, pr, rfl, hpr2.1, by omega, fun t row7 t0 t1 hrow7 => ?_⟩
    refine ⟨small (n := 3) (by decide), ?_⟩
    refine ⟨by rw [List.length_map]; exact Nat.lt_of_lt_of_le (show cs.length < 13 by omega) (small (by decide)), ?_⟩
    refine hK _ ⟨row7, cs ++ [(1 + u, v, 1 + t)], .d (.int (k : Nat)), .d (.int (1 + u)), .d (.int v), ?_, hrow7, by rw [List.length_append, List.length_append, hl]; rfl, fun c hc => ?_⟩
    · rw [List.map_append]; rfl
    · rcases List.mem_append.mp hc with hc | hc
      · exact hg c hc
      · rw [List.mem_singleton.mp hc]
        exact ⟨⟨by show 1 ≤ 1 + u; omega, by show 1 + u ≤ 99; omega⟩, ⟨v0, by show v ≤ 999; omega⟩, ⟨by show 1 ≤ 1 + t; omega, by show 1 + t ≤ 99; omega⟩⟩
  · rintro ρ ⟨row, cs, x, y, z, rfl, hrow, hl, hg⟩
    rw [List.length_range] at hl
    exact ⟨rfl, q cs row ⟨by omega, hg⟩ (by omega) (by omega) hrow⟩
theorem eqv_self {x : D} (h : okD x = true) : eqD x x = true := by
  unfold okD at h
  rw [Bool.and_eq_true] at h
  exact PySem.SeqAt.eqv_refl _ (PySem.SeqAt.canLay_of_shaped h.2)
theorem okD_bl (b : Bool) : okD (.bl b) = true := rfl
theorem okD_int (b : Int) : okD (.int b) = true := rfl
theorem kit_bool {x : D} (h : x.isRaw = false) : ∃ b, kitB x.ty "bool" = some b := by
  cases x <;> first | exact ⟨_, kb_nb⟩ | exact ⟨_, kb_bb⟩ | exact ⟨_, kb_ib⟩ | exact ⟨_, kb_sb⟩ | exact ⟨_, kb_tb⟩ | exact ⟨_, kb_lb⟩ | cases h
theorem kb_st : kitB "str" "tuple" = some false := by decide +kernel
theorem kb_sl : kitB "str" "list" = some false := by decide +kernel
theorem kb_bt : kitB "bool" "tuple" = some false := by decide +kernel
theorem kb_bl : kitB "bool" "list" = some false := by decide +kernel
theorem perm_map_inv {α β : Type} {f : α → β} (g : β → α) (hg : ∀ a, g (f a) = a) {l : List α} {m : List β} (h : m.Perm (l.map f)) : ∃ l' : List α, m = l'.map f ∧ l'.Perm l := by
  refine ⟨m.map g, ?_, ?_⟩
  · rw [List.map_map]
    have e : ∀ x ∈ m, (f ∘ g) x = x := fun x hx => by
      obtain ⟨a, _, e⟩ := List.mem_map.mp (h.mem_iff.mp hx)
      show f (g x) = x
      rw [← e, hg]
    clear h
    induction m with
    | nil => rfl
    | cons x r ih => rw [List.map_cons, e x List.mem_cons_self, ← ih fun y hy => e y (List.mem_cons_of_mem _ hy)]
  · have h2 := h.map g
    rw [List.map_map] at h2
    have e : l.map (g ∘ f) = l := by
      have : (g ∘ f) = id := by funext a; exact hg a
      rw [this, List.map_id]
    rw [e] at h2
    exact h2
/-- the pairs (latest end, number) -/
def endP (cs : List Cd) (n : Nat) : Int × Int := (endC (at' cs n), (n : Int))
theorem read_by_latest_end : ∀ xs Q, sp_by_latest_end xs Q → w_by_latest_end { nx := fun _ => Q .non, rt := fun y _ => Q y } (startE N_by_latest_end [] xs) := by
  rintro xs Q ⟨cs, ns, c, d, rfl, hc, hd, N, q⟩
  have h12 := small (n := 26) (by decide)
  have hg := N.len
  have main : ∀ d, wMake (wName 3) wYes (wTup (wCons (wCallS sp_latest_end (wCons (wOp kIx (w2v 0 (wVarB 3))) wNil)) (wCons (wVar 3) wNil))) [3] (fun zs ρ' => (wRet (fun ρ Q => (wLc (wSeqI (fun ρ Q => (wUnF kSortP (wVarB 2)) ρ fun xs ρ' => Q (.lst xs) ρ')) (wgTup 2 (wgCons (wName 4) (wgCons (wName 3) wgNil))) wYes (wVar 3) [4, 3]) ρ fun xs ρ' => Q (.lst xs) ρ')) { nx := fun _ => Q .non, rt := fun y _ => Q y } (ρ'.set 2 (.d (.lst zs)))) (ns.map nD) [] [.d c, .d d, .un, .un, .un] := by
    intro d
    refine make_map (enc := nD) (fun _ => true) (fun n => AL.pairD (endP cs n)) ns [] ?_ (by simp; omega) ?_
    · intro n hn C N' h1 h2
      refine ix_cs hc (N.lt n hn) ⟨at' cs n, rfl, trivial, ?_⟩
      exact ⟨small (n := 2) (by decide), h1 rfl _ rfl⟩
    · rw [List.nil_append, filter_true]
      refine ⟨ns.map (endP cs), by rw [List.map_map]; rfl, fun qs hp hs => ?_⟩
      obtain ⟨ms, rfl, hns⟩ := perm_map_inv (fun p : Int × Int => p.2.toNat) (fun a => Int.toNat_natCast a) hp
      have hlen : ms.length ≤ 13 := by rw [hns.length_eq]; exact hg
      show wMake _ _ _ _ _ ((ms.map (endP cs)).map AL.pairD) [] _
      rw [List.map_map]
      refine make_map (enc := fun n => AL.pairD (endP cs n)) (fun _ => true) nD ms [] ?_ (by simp; omega) ?_
      · intro n hn C N' h1 h2
        refine ⟨rfl, ?_⟩
        exact h1 rfl _ rfl
      · rw [List.nil_append, filter_true]
        exact q ms hns (List.pairwise_map.mp hs)
  rcases hd with rfl | rfl
  · exact main _
  · exact main _
theorem turn_len (cs : List Cd) : ∀ (ns : List Nat) (s : Int × List (Int × Int)), (ns.foldl (turn1 cs) s).2.length ≤ s.2.length + ns.length
  | [], s => Nat.le_refl _
  | n :: r, s => by
    have ih := turn_len cs r (turn1 cs s n)
    have h1 : (turn1 cs s n).2.length ≤ s.2.length + 1 := by
      unfold turn1
      simp only
      generalize (if (at' cs n).2.1 < s.1 then (at' cs n).2.1 else s.1) = t
      split
      · show (s.2 ++ [_]).length ≤ _
        rw [List.length_append]; exact Nat.le_refl _
      · exact Nat.le_succ _
    rw [List.foldl_cons, List.length_cons]
    omega
theorem read_lit_in_turn : ∀ xs Q, sp_lit_in_turn xs Q → w_lit_in_turn { nx := fun _ => Q .non, rt := fun y _ => Q y } (startE N_lit_in_turn [] xs) := by
  rintro xs Q ⟨cs, ns, c0, d, T, rfl, hc, hd, N, q⟩
  have h12 := small (n := 26) (by decide)
  have hl := N.len
  have main : ∀ d, wLoop (wName 4) (wSeq (wAsg (wOp kIx (w2v 0 (wVarB 4))) (wgTup 3 (wgCons (wName 5) (wgCons (wName 6) (wgCons (wName 7) wgNil)))))
      (wSeq (wAsg (wCl kMin2 (wCons (wVar 2) (wCons (wVar 6) wNil))) (wName 8))
      (wIfS (wTest (wOp kGt (w2e (wOp kAdd (w2v 8 (wVarB 5))) (wVarB 2)))) (wSeq (wDrop (wApp 3 (wTup (wCons (wVar 8) (wCons (wVar 4) wNil)))))
      (wAsg (wOp kAdd (w2v 8 (wVarB 5))) (wName 2))) wNext)))
      { nx := fun ρ => (wRet (wTup (wCons (wVar 2) (wCons (wVar 3) wNil)))) { nx := fun _ => Q .non, rt := fun y _ => Q y } ρ, rt := fun y _ => Q y } (ns.map nD) [.d c0, .d d, .d (.int T), .own false [], .un, .un, .un, .un, .un] := by
    intro d
    refine loop_inv (enc := nD) (I := fun pre ρ => ∃ a b c e f, ρ = [.d c0, .d d, .d (.int (pre.foldl (turn1 cs) (T, [])).1), .own false ((pre.foldl (turn1 cs) (T, [])).2.map AL.pairD), a, b, c, e, f]) ?_ ?_ _ ⟨.un, .un, .un, .un, .un, rfl⟩
    · rintro pre n post e K hK ρ ⟨a, b, c, e', f, rfl⟩
      have hm : n ∈ ns := by rw [e]; exact List.mem_append_right _ List.mem_cons_self
      have hp : pre.length < ns.length := by rw [e, List.length_append, List.length_cons]; omega
      have hb := turn_len cs pre (T, [])
      generalize hs : pre.foldl (turn1 cs) (T, []) = s at hK hb ⊢
      have hf : (pre ++ [n]).foldl (turn1 cs) (T, []) = turn1 cs s n := by rw [List.foldl_append, hs]; rfl
      refine ix_cs hc (N.lt n hm) ?_
      refine ⟨rfl, ?_⟩
      generalize ht : (if (at' cs n).2.1 < s.1 then (at' cs n).2.1 else s.1) = t
      show if decide (s.1 < (if (at' cs n).2.1 < s.1 then (at' cs n).2.1 else s.1) + (at' cs n).1) = true then _ else _
      rw [ht]
      by_cases hd : s.1 < t + (at' cs n).1
      · rw [decide_eq_true hd]
        have hb1 : turn1 cs s n = (t + (at' cs n).1, s.2 ++ [(t, (n : Int))]) := by unfold turn1; simp only; rw [ht, if_pos hd]
        refine ⟨small (n := 2) (by decide), ?_⟩
        refine ⟨by rw [List.length_map]; exact Nat.lt_of_lt_of_le (show s.2.length < 14 by simp at hb; omega) (small (by decide)), ?_⟩
        refine hK _ ⟨.d (nD n), .d (.int (at' cs n).1), .d (.int (at' cs n).2.1), .d (.int (at' cs n).2.2), .d (.int t), ?_⟩
        rw [hf, hb1, List.map_append, ← ht]; rfl
      · rw [decide_eq_false hd]
        have hb1 : turn1 cs s n = s := by unfold turn1; simp only; rw [ht, if_neg hd]
        refine hK _ ⟨.d (nD n), .d (.int (at' cs n).1), .d (.int (at' cs n).2.1), .d (.int (at' cs n).2.2), .d (.int t), ?_⟩
        rw [hf, hb1, ← ht]; rfl
    · rintro ρ ⟨a, b, c, e', f, rfl⟩
      exact ⟨small (n := 2) (by decide), q⟩
  rcases hd with rfl | rfl
  · exact ⟨Nat.zero_le _, main _⟩
  · exact ⟨Nat.zero_le _, main _⟩
theorem read_all_numbers : ∀ xs Q, sp_all_numbers xs Q → w_all_numbers { nx := fun _ => Q .non, rt := fun y _ => Q y } (startE N_all_numbers [] xs) := by
  rintro xs Q ⟨cs, rfl, G, q⟩
  have hl := G.len
  have hlen : ((cs.map cD).length : Int) = (cs.length : Int) := by rw [List.length_map]
  refine ⟨⟨by omega, by show ((cs.map cD).length : Int) ≤ 1000; omega⟩, ?_⟩
  have e : intsD 0 ((cs.map cD).length : Int).toNat = (List.range cs.length).map nD := by
    rw [hlen, Int.toNat_natCast, intsD_map]; rfl
  show Q (.tup (intsD 0 ((cs.map cD).length : Int).toNat))
  rw [e]
  exact q
theorem read_planned : ∀ xs Q, sp_planned xs Q → w_planned { nx := fun _ => Q .non, rt := fun y _ => Q y } (startE N_planned [] xs) := by
  rintro xs Q ⟨cs, ns, d, rfl, hd, N, q⟩
  have h12 := small (n := 26) (by decide)
  have hl := N.len
  refine ⟨cs, ns, _, d, 0, rfl, .inl rfl, hd, N, ?_⟩
  refine ⟨rfl, ?_⟩
  refine ⟨(turnL cs 0 ns).2, rfl, fun qs hp hs => ?_⟩
  have hlen : qs.length ≤ 13 := by
    rw [hp.length_eq]
    have := turn_len cs ns (0, [])
    unfold turnL
    simp at this
    omega
  show wMake _ _ _ _ _ (qs.map AL.pairD) [] _
  refine make_map (enc := AL.pairD) (fun _ => true) stepD qs [] ?_ (by simp; omega) ?_
  · rintro ⟨t, n⟩ hm C N h1 h2
    refine ⟨rfl, ?_⟩
    exact ⟨small (n := 2) (by decide), h1 rfl _ rfl⟩
  · rw [List.nil_append, filter_true]
    exact ⟨small (n := 2) (by decide), q qs hp hs⟩
theorem nums_all {cs : List Cd} (G : Gd cs) : Nums cs (List.range cs.length) := ⟨fun n h => List.mem_range.mp h, by rw [List.length_range]; exact G.len⟩
theorem nums_perm {cs : List Cd} {a b : List Nat} (N : Nums cs a) (p : b.Perm a) : Nums cs b := ⟨fun n h => N.lt n (p.mem_iff.mp h), by rw [p.length_eq]; exact N.len⟩
theorem nums_lot {cs : List Cd} (G : Gd cs) {lot : List Nat} (h : isLot cs.length lot) : Nums cs lot := ⟨h.2, Nat.le_trans h.len G.len⟩
theorem read_longest : ∀ xs Q, sp_longest xs Q → w_longest { nx := fun _ => Q .non, rt := fun y _ => Q y } (startE N_longest [] xs) := by
  rintro xs Q ⟨cs, rfl, G, q⟩
  have N := nums_all G.gd
  refine ⟨cs, rfl, G, ?_⟩
  refine ⟨cs, rfl, G.gd, ?_⟩
  refine ⟨cs, List.range cs.length, _, lotD (List.range cs.length), rfl, .inl rfl, .inr rfl, N, fun ns hp hr => ?_⟩
  exact ⟨cs, ns, _, rfl, .inl rfl, nums_perm N hp, fun qs h1 h2 => q _ qs ⟨ns, ⟨hp, hr⟩, rfl, h1, h2⟩⟩
end FW
set_option Elab.async false
set_option linter.all false
set_option maxRecDepth 100000
set_option maxHeartbeats 2000000
namespace FW
open PySem PySem.Spec PyProof.Rows L2 AL
theorem at_goodG {cs : List Cd} (G : Gd cs) {n : Nat} (h : n < cs.length) : good (at' cs n) := G.all _ (at_mem h)
/-! ### the mathematics of turns -/
theorem turn1_eq (cs : List Cd) (s : Int × List (Int × Int)) (n : Nat) : ∃ t, (t = if (at' cs n).2.1 < s.1 then (at' cs n).2.1 else s.1) ∧ ((s.1 < t + (at' cs n).1 ∧ turn1 cs s n = (t + (at' cs n).1, s.2 ++ [(t, (n : Int))])) ∨ (¬ s.1 < t + (at' cs n).1 ∧ turn1 cs s n = s)) := by
  refine ⟨_, rfl, ?_⟩
  unfold turn1
  simp only
  generalize (if (at' cs n).2.1 < s.1 then (at' cs n).2.1 else s.1) = t
  by_cases h : s.1 < t + (at' cs n).1
  · exact .inl ⟨h, by rw [if_pos h]⟩
  · exact .inr ⟨h, by rw [if_neg h]⟩
/-- the lengths of those that end later -/
def later (cs : List Cd) (e : Int) (ns : List Nat) : Int := lens cs (ns.filter fun n => decide (e < endC (at' cs n)))
theorem later_app (cs : List Cd) (e : Int) (a b : List Nat) : later cs e (a ++ b) = later cs e a + later cs e b := by
  unfold later lens
  rw [List.filter_append, List.map_append, List.sum_append]
theorem later_one (cs : List Cd) (e : Int) (n : Nat) : later cs e [n] = if e < endC (at' cs n) then (at' cs n).1 else 0 := by
  unfold later lens
  by_cases h : e < endC (at' cs n)
  · rw [if_pos h, List.filter_cons_of_pos (by simp [h])]; simp
  · rw [if_neg h, List.filter_cons_of_neg (by simp [h])]; rfl
/-- no turn passes a bound -/
theorem turn_le {cs : List Cd} (G : Gd cs) {e : Int} (he : 0 ≤ e) : ∀ (r : List Nat) (B : Int) (s : Int × List (Int × Int)), (∀ n ∈ r, n < cs.length) → 0 ≤ B → s.1 ≤ e + B → (r.foldl (turn1 cs) s).1 ≤ e + B + later cs e r
  | [], B, s, _, _, h => by show s.1 ≤ e + B + later cs e []; unfold later lens; simp; exact h
  | n :: r, B, s, hn, hB, h => by
    have g := at_goodG G (hn n List.mem_cons_self)
    have g1 := g.1.1
    obtain ⟨t, ht, hc⟩ := turn1_eq cs s n
    have e1 : later cs e (n :: r) = later cs e [n] + later cs e r := later_app cs e [n] r
    rw [List.foldl_cons, e1, later_one]
    have hend : endC (at' cs n) = (at' cs n).2.1 + (at' cs n).1 := rfl
    have ht2 : t ≤ s.1 ∧ t ≤ (at' cs n).2.1 := by rw [ht]; split <;> omega
    by_cases hd : e < endC (at' cs n)
    · rw [if_pos hd]
      have ih := turn_le G he r (B + (at' cs n).1) (turn1 cs s n) (fun m hm => hn m (List.mem_cons_of_mem _ hm)) (by omega) (by
        rcases hc with ⟨_, hc⟩ | ⟨_, hc⟩
        · rw [hc]; show t + (at' cs n).1 ≤ _; omega
        · rw [hc]; omega)
      omega
    · rw [if_neg hd]
      have ih := turn_le G he r B (turn1 cs s n) (fun m hm => hn m (List.mem_cons_of_mem _ hm)) hB (by
        rcases hc with ⟨_, hc⟩ | ⟨_, hc⟩
        · rw [hc]; show t + (at' cs n).1 ≤ _; omega
        · rw [hc]; exact h)
      omega
theorem turn_ge {cs : List Cd} (G : Gd cs) : ∀ (r pre : List Nat), (∀ n ∈ pre ++ r, n < cs.length) → (pre ++ r).Pairwise (fun i j => endC (at' cs i) ≤ endC (at' cs j)) →
    (∃ e, (e = 0 ∨ ∃ n ∈ pre, e = endC (at' cs n)) ∧ (pre.foldl (turn1 cs) (0, [])).1 = e + later cs e pre) →
    ∃ e, (e = 0 ∨ ∃ n ∈ pre ++ r, e = endC (at' cs n)) ∧ ((pre ++ r).foldl (turn1 cs) (0, [])).1 = e + later cs e (pre ++ r)
  | [], pre, _, _, h => by rw [List.append_nil]; exact h
  | n :: r, pre, hn, hp, ⟨e, he, hT⟩ => by
    have hnl : n < cs.length := hn n (List.mem_append_right _ List.mem_cons_self)
    have g := at_goodG G hnl
    have g1 := g.1.1
    have g2 := g.2.1.1
    have hend : endC (at' cs n) = (at' cs n).2.1 + (at' cs n).1 := rfl
    have hle : ∀ j ∈ pre, endC (at' cs j) ≤ endC (at' cs n) := fun j hj => (List.pairwise_append.mp hp).2.2 j hj n List.mem_cons_self
    have hz : later cs (endC (at' cs n)) pre = 0 := by
      unfold later
      have : pre.filter (fun k => decide (endC (at' cs n) < endC (at' cs k))) = [] := by
        rw [List.filter_eq_nil_iff]
        intro k hk
        have := hle k hk
        simp; omega
      rw [this]; rfl
    have hTE : (pre.foldl (turn1 cs) (0, [])).1 ≤ endC (at' cs n) := by
      have := turn_le G (e := endC (at' cs n)) (by omega) pre 0 (0, []) (fun m hm => hn m (List.mem_append_left _ hm)) (by omega) (by show (0 : Int) ≤ _; omega)
      omega
    have e2 : pre ++ n :: r = (pre ++ [n]) ++ r := by rw [List.append_assoc]; rfl
    rw [e2]
    refine turn_ge G r (pre ++ [n]) (by rw [← e2]; exact hn) (by rw [← e2]; exact hp) ?_
    obtain ⟨t, ht, hc⟩ := turn1_eq cs (pre.foldl (turn1 cs) (0, [])) n
    rw [List.foldl_append]
    show ∃ e, _ ∧ (turn1 cs (pre.foldl (turn1 cs) (0, [])) n).1 = _
    generalize pre.foldl (turn1 cs) (0, []) = s at *
    by_cases hd : s.1 ≤ (at' cs n).2.1
    · have ht2 : t = s.1 := by rw [ht, if_neg (by omega)]
      rcases hc with ⟨h1, hc⟩ | ⟨h1, _⟩
      · have hlt : e < endC (at' cs n) := by
          have h3 : e ≤ endC (at' cs n) := by
            rcases he with rfl | ⟨j, hj, rfl⟩
            · omega
            · exact hle j hj
          by_cases h4 : e = endC (at' cs n)
          · rw [h4, hz] at hT; omega
          · omega
        refine ⟨e, ?_, ?_⟩
        · rcases he with h | ⟨j, hj, h⟩
          · exact .inl h
          · exact .inr ⟨j, List.mem_append_left _ hj, h⟩
        · rw [hc, later_app, later_one, if_pos hlt]
          show t + _ = _
          omega
      · omega
    · have ht2 : t = (at' cs n).2.1 := by rw [ht, if_pos (by omega)]
      refine ⟨endC (at' cs n), .inr ⟨n, List.mem_append_right _ List.mem_cons_self, rfl⟩, ?_⟩
      rw [later_app, later_one, if_neg (by omega), hz]
      rcases hc with ⟨h1, hc⟩ | ⟨h1, hc⟩
      · rw [hc]; show t + _ = _; omega
      · rw [hc]; omega
theorem cs_eq (cs : List Cd) : (List.range cs.length).map (at' cs) = cs := by
  apply List.ext_getElem?
  intro i
  rw [List.getElem?_map]
  by_cases h : i < cs.length
  · rw [List.getElem?_range h, at_get h]; rfl
  · rw [List.getElem?_eq_none_iff.mpr (Nat.le_of_not_lt h), List.getElem?_eq_none_iff.mpr (by rw [List.length_range]; omega)]; rfl
theorem perm_sum : ∀ {a b : List Int}, a.Perm b → a.sum = b.sum := fun h => by
  induction h with
  | nil => rfl
  | cons x _ ih => rw [List.sum_cons, List.sum_cons, ih]
  | swap x y l => simp only [List.sum_cons]; omega
  | trans _ _ h1 h2 => exact h1.trans h2
theorem later_all {cs : List Cd} {ns : List Nat} (h : ns.Perm (List.range cs.length)) (e : Int) : e + later cs e ns = bndE cs e := by
  unfold later lens bndE
  have h1 : ((ns.filter fun n => decide (e < endC (at' cs n))).map fun n => (at' cs n).1).sum = (((List.range cs.length).filter fun n => decide (e < endC (at' cs n))).map fun n => (at' cs n).1).sum := perm_sum ((h.filter _).map _)
  rw [h1]
  have h2 : (cs.filter fun c => decide (e < endC c)).map (·.1) = ((List.range cs.length).filter fun n => decide (e < endC (at' cs n))).map fun n => (at' cs n).1 := by
    have h3 : cs.filter (fun c => decide (e < endC c)) = (((List.range cs.length).map (at' cs)).filter fun c => decide (e < endC c)) := by rw [cs_eq]
    rw [h3, List.filter_map, List.map_map]
    rfl
  rw [h2]

/-! ### the best of candles -/
def oneE (e : Int) (c : Cd) : Int := if e < endC c then c.1 else 0
def sumE (cs : List Cd) (e : Int) : Int := (cs.map (oneE e)).sum
theorem bndE_eq (cs : List Cd) (e : Int) : bndE cs e = e + sumE cs e := by
  unfold bndE sumE
  congr 1
  induction cs with
  | nil => rfl
  | cons c r ih =>
    rw [List.map_cons, List.sum_cons]
    unfold oneE
    by_cases h : e < endC c
    · rw [List.filter_cons_of_pos (by simp [h]), if_pos h, List.map_cons, List.sum_cons, ih]; rfl
    · rw [List.filter_cons_of_neg (by simp [h]), if_neg h, ih]; unfold oneE; omega
theorem sumE_app (a b : List Cd) (e : Int) : sumE (a ++ b) e = sumE a e + sumE b e := by unfold sumE; rw [List.map_append, List.sum_append]
theorem sumE_one (c : Cd) (e : Int) : sumE [c] e = oneE e c := by unfold sumE; simp
theorem sumE_cons (c : Cd) (r : List Cd) (e : Int) : sumE (c :: r) e = oneE e c + sumE r e := by unfold sumE; simp
theorem sumE_perm {a b : List Cd} (h : a.Perm b) (e : Int) : sumE a e = sumE b e := perm_sum (h.map _)
theorem oneE_nn {c : Cd} (g : good c) (e : Int) : 0 ≤ oneE e c ∧ oneE e c ≤ c.1 := by
  have := g.1.1
  unfold oneE
  split <;> constructor <;> omega
abbrev Alls (cs : List Cd) : Prop := ∀ c ∈ cs, good c
theorem sumE_nn : ∀ {cs : List Cd}, Alls cs → ∀ e, 0 ≤ sumE cs e ∧ sumE cs e ≤ 99 * cs.length
  | [], _, e => by unfold sumE; simp
  | c :: r, h, e => by
    have ih := sumE_nn (cs := r) (fun x hx => h x (List.mem_cons_of_mem _ hx)) e
    have g := h c List.mem_cons_self
    have := oneE_nn g e
    have := g.1.2
    rw [sumE_cons, List.length_cons]
    constructor <;> omega
theorem min_foldl : ∀ (l : List Int) (a : Int), (l.foldl (fun a b => if b < a then b else a) a ≤ a ∧ ∀ x ∈ l, l.foldl (fun a b => if b < a then b else a) a ≤ x) ∧ (l.foldl (fun a b => if b < a then b else a) a ∈ a :: l)
  | [], a => ⟨⟨Int.le_refl _, fun _ h => nomatch h⟩, List.mem_cons_self⟩
  | b :: l, a => by
    obtain ⟨⟨h1, h2⟩, h3⟩ := min_foldl l (if b < a then b else a)
    rw [List.foldl_cons]
    generalize l.foldl (fun a b => if b < a then b else a) (if b < a then b else a) = m at *
    refine ⟨⟨?_, fun x hx => ?_⟩, ?_⟩
    · split at h1 <;> omega
    · rcases List.mem_cons.mp hx with rfl | hx
      · split at h1 <;> omega
      · exact h2 x hx
    · rcases List.mem_cons.mp h3 with h3 | h3
      · by_cases z : b < a
        · rw [if_pos z] at h3; rw [h3]; exact List.mem_cons_of_mem _ List.mem_cons_self
        · rw [if_neg z] at h3; rw [h3]; exact List.mem_cons_self
      · exact List.mem_cons_of_mem _ (List.mem_cons_of_mem _ h3)
theorem best_is (cs : List Cd) : isBest cs (best cs) := by
  unfold best
  obtain ⟨⟨h1, h2⟩, h3⟩ := min_foldl (cs.map fun c => bndE cs (endC c)) (bndE cs 0)
  refine ⟨fun e he => ?_, ?_⟩
  · rcases List.mem_cons.mp he with rfl | he
    · exact h1
    · obtain ⟨c, hc, rfl⟩ := List.mem_map.mp he
      exact h2 _ (List.mem_map.mpr ⟨c, hc, rfl⟩)
  · rcases List.mem_cons.mp h3 with h | h
    · exact ⟨0, List.mem_cons_self, h⟩
    · obtain ⟨c, hc, e⟩ := List.mem_map.mp h
      exact ⟨endC c, List.mem_cons_of_mem _ (List.mem_map.mpr ⟨c, hc, rfl⟩), e.symm⟩
theorem best_uniq {cs : List Cd} {a b : Int} (h1 : isBest cs a) (h2 : isBest cs b) : a = b := by
  obtain ⟨e1, m1, q1⟩ := h1.2
  obtain ⟨e2, m2, q2⟩ := h2.2
  have := h1.1 e2 m2
  have := h2.1 e1 m1
  omega
theorem max_of {α : Type} (f : α → Int) : ∀ (l : List α), l ≠ [] → ∃ m ∈ l, ∀ x ∈ l, f x ≤ f m
  | [], h => absurd rfl h
  | [a], _ => ⟨a, List.mem_cons_self, fun x hx => by rw [List.mem_singleton.mp hx]; exact Int.le_refl _⟩
  | a :: b :: r, _ => by
    obtain ⟨m, hm, h⟩ := max_of f (b :: r) (by simp)
    by_cases z : f a ≤ f m
    · exact ⟨m, List.mem_cons_of_mem _ hm, fun x hx => (List.mem_cons.mp hx).elim (fun e => by rw [e]; exact z) (h x)⟩
    · exact ⟨a, List.mem_cons_self, fun x hx => (List.mem_cons.mp hx).elim (fun e => by rw [e]; exact Int.le_refl _) (fun hx => by have := h x hx; omega)⟩
theorem end_pos {c : Cd} (g : good c) : 0 < endC c := by
  have := g.1.1
  have := g.2.1.1
  show 0 < c.2.1 + c.1
  omega
theorem bnd_down {cs : List Cd} (G : Alls cs) {e : Int} (he : 0 ≤ e) : ∃ e' ∈ (0 : Int) :: cs.map endC, bndE cs e' ≤ bndE cs e := by
  by_cases h : cs.filter (fun c => decide (endC c ≤ e)) = []
  · refine ⟨0, List.mem_cons_self, ?_⟩
    have e1 : ∀ c ∈ cs, oneE 0 c = oneE e c := fun c hc => by
      have h1 := List.filter_eq_nil_iff.mp h c hc
      have := end_pos (G c hc)
      unfold oneE
      rw [if_pos this, if_pos (by simp at h1; exact h1)]
    rw [bndE_eq, bndE_eq]
    unfold sumE
    rw [List.map_congr_left e1]
    omega
  · obtain ⟨m, hm, hx⟩ := max_of endC _ h
    have hm := List.mem_filter.mp hm
    have hme : endC m ≤ e := by simpa using hm.2
    refine ⟨endC m, List.mem_cons_of_mem _ (List.mem_map.mpr ⟨m, hm.1, rfl⟩), ?_⟩
    have e1 : ∀ c ∈ cs, oneE (endC m) c = oneE e c := fun c hc => by
      unfold oneE
      by_cases z : e < endC c
      · rw [if_pos z, if_pos (by omega)]
      · have := hx c (List.mem_filter.mpr ⟨hc, by simp; omega⟩)
        rw [if_neg z, if_neg (by omega)]
    rw [bndE_eq, bndE_eq]
    unfold sumE
    rw [List.map_congr_left e1]
    omega
theorem le_best {cs : List Cd} (G : Alls cs) {t : Int} : t ≤ best cs ↔ ∀ e, 0 ≤ e → t ≤ bndE cs e := by
  obtain ⟨h1, e, he, h2⟩ := best_is cs
  constructor
  · intro h e he
    obtain ⟨e', m, hl⟩ := bnd_down G he
    have := h1 e' m
    omega
  · intro h
    rw [h2]
    refine h e ?_
    rcases List.mem_cons.mp he with rfl | he
    · exact Int.le_refl _
    · obtain ⟨c, hc, rfl⟩ := List.mem_map.mp he
      exact Int.le_of_lt (end_pos (G c hc))
theorem best_at {cs : List Cd} (G : Alls cs) : ∃ e, 0 ≤ e ∧ best cs = bndE cs e := by
  obtain ⟨_, e, he, h2⟩ := best_is cs
  refine ⟨e, ?_, h2⟩
  rcases List.mem_cons.mp he with rfl | he
  · exact Int.le_refl _
  · obtain ⟨c, hc, rfl⟩ := List.mem_map.mp he
    exact Int.le_of_lt (end_pos (G c hc))
theorem best_nn {cs : List Cd} (G : Alls cs) : 0 ≤ best cs := (le_best G).mpr fun e he => by
  rw [bndE_eq]
  have := (sumE_nn G e).1
  omega
theorem best_le {cs : List Cd} (G : Alls cs) {e : Int} (he : 0 ≤ e) : best cs ≤ bndE cs e := (le_best G).mp (Int.le_refl _) e he
theorem best_hi {cs : List Cd} (G : Alls cs) : best cs ≤ 99 * cs.length := by
  have := best_le G (Int.le_refl 0)
  rw [bndE_eq] at this
  have := (sumE_nn G 0).2
  omega
theorem best_mono {a b : List Cd} (Ga : Alls a) (Gb : Alls b) {k : Int} (h : ∀ e, 0 ≤ e → ∃ e', 0 ≤ e' ∧ bndE a e' ≤ bndE b e + k) : best a ≤ best b + k := by
  obtain ⟨e, he, h2⟩ := best_at Gb
  obtain ⟨e', he', h3⟩ := h e he
  have := best_le Ga he'
  omega
theorem best_mono0 {a b : List Cd} (Ga : Alls a) (Gb : Alls b) (h : ∀ e, 0 ≤ e → sumE a e ≤ sumE b e) : best a ≤ best b := by
  have := best_mono (k := 0) Ga Gb fun e he => ⟨e, he, by rw [bndE_eq, bndE_eq]; have := h e he; omega⟩
  omega
theorem best_perm {a b : List Cd} (Ga : Alls a) (h : a.Perm b) : best a = best b := by
  have Gb : Alls b := fun c hc => Ga c (h.mem_iff.mpr hc)
  have h1 := best_mono0 Ga Gb fun e _ => Int.le_of_eq (sumE_perm h e)
  have h2 := best_mono0 Gb Ga fun e _ => Int.le_of_eq (sumE_perm h.symm e)
  omega
theorem best_nil : best [] = 0 := by unfold best; rfl
theorem pick_all (cs : List Cd) : pick cs (List.range cs.length) = cs := cs_eq cs
theorem alls_pick {cs : List Cd} (G : Alls cs) {ns : List Nat} (h : ∀ n ∈ ns, n < cs.length) : Alls (pick cs ns) := fun c hc => by
  obtain ⟨n, hn, rfl⟩ := List.mem_map.mp hc
  exact G _ (at_mem (h n hn))
theorem later_pick (cs : List Cd) (e : Int) : ∀ ns : List Nat, later cs e ns = sumE (pick cs ns) e
  | [] => rfl
  | n :: r => by
    have h := later_app cs e [n] r
    rw [List.singleton_append] at h
    rw [h, later_one, later_pick cs e r]
    show _ = sumE (at' cs n :: pick cs r) e
    rw [sumE_cons]; rfl
theorem turn_le_best {cs : List Cd} (G : Gd cs) {ns : List Nat} (hn : ∀ n ∈ ns, n < cs.length) : (turnM cs ns).1 ≤ best (pick cs ns) := by
  refine (le_best (alls_pick G.all hn)).mpr fun e he => ?_
  have := turn_le G he ns 0 (0, []) hn (by omega) (by show (0 : Int) ≤ _; omega)
  rw [bndE_eq, ← later_pick]
  unfold turnM
  omega
theorem rising_le {cs : List Cd} {ns : List Nat} (h : risingE cs ns) : ns.Pairwise fun i j => endC (at' cs i) ≤ endC (at' cs j) :=
  h.imp fun {i j} q => by
    rcases q with q | q
    · exact Int.le_of_lt q
    · exact Int.le_of_eq q.1
theorem turn_best {cs : List Cd} (G : Gd cs) {ns : List Nat} (hn : ∀ n ∈ ns, n < cs.length) (h : ns.Pairwise fun i j => endC (at' cs i) ≤ endC (at' cs j)) : (turnM cs ns).1 = best (pick cs ns) := by
  have h1 := turn_le_best G hn
  obtain ⟨e, he, hT⟩ := turn_ge G ns [] (by simpa using hn) (by simpa using h) ⟨0, .inl rfl, rfl⟩
  rw [List.nil_append] at he hT
  have h0 : 0 ≤ e := by
    rcases he with rfl | ⟨n, hm, rfl⟩
    · exact Int.le_refl _
    · exact Int.le_of_lt (end_pos (at_goodG G (hn n hm)))
  have h2 := best_le (alls_pick G.all hn) h0
  rw [bndE_eq, ← later_pick] at h2
  unfold turnM at h1 ⊢
  omega
theorem pick_perm {cs : List Cd} {a b : List Nat} (h : a.Perm b) : (pick cs a).Perm (pick cs b) := h.map _
theorem turn_best_perm {cs : List Cd} (G : Gd cs) {ms ns : List Nat} (hn : ∀ n ∈ ns, n < cs.length) (p : ms.Perm ns) (h : risingE cs ms) : (turnM cs ms).1 = best (pick cs ns) := by
  have hm : ∀ n ∈ ms, n < cs.length := fun n h => hn n (p.mem_iff.mp h)
  rw [turn_best G hm (rising_le h), best_perm (alls_pick G.all hm) (pick_perm p)]
theorem longestR_best {cs : List Cd} (G : Goods cs) {t : Int} {qs : List (Int × Int)} (h : LongestR cs t qs) : t = best cs := by
  obtain ⟨ns, hr, rfl, _, _⟩ := h
  have e := turn_best_perm G.gd (fun n hn => List.mem_range.mp hn) hr.1 hr.2
  rw [pick_all] at e
  exact e
/-! ### candles told otherwise -/
theorem csd_app (cs : List Cd) (c : Cd) : D.tup (cs.map cD ++ [cD c]) = csD (cs ++ [c]) := by unfold csD; rw [List.map_append]; rfl
theorem alls_app {a b : List Cd} (Ga : Alls a) (Gb : Alls b) : Alls (a ++ b) := fun c hc => (List.mem_append.mp hc).elim (Ga c) (Gb c)
theorem alls_one {c : Cd} (g : good c) : Alls [c] := fun x hx => by rw [List.mem_singleton.mp hx]; exact g
theorem oneE_mono {c c' : Cd} (g : good c') (h1 : c.1 ≤ c'.1) (h2 : c.2.1 ≤ c'.2.1) (e : Int) : oneE e c ≤ oneE e c' := by
  have := g.1.1
  have a1 : endC c = c.2.1 + c.1 := rfl
  have a2 : endC c' = c'.2.1 + c'.1 := rfl
  unfold oneE
  split <;> split <;> omega
theorem best_app_mono {cs : List Cd} (G : Alls cs) {c c' : Cd} (g : good c) (g' : good c') (h1 : c.1 ≤ c'.1) (h2 : c.2.1 ≤ c'.2.1) : best (cs ++ [c]) ≤ best (cs ++ [c']) :=
  best_mono0 (alls_app G (alls_one g)) (alls_app G (alls_one g')) fun e _ => by
    rw [sumE_app, sumE_app, sumE_one, sumE_one]
    have := oneE_mono g' h1 h2 e
    omega
theorem best_app_ge {cs : List Cd} (G : Alls cs) {c : Cd} (g : good c) : best cs ≤ best (cs ++ [c]) ∧ best (cs ++ [c]) ≤ best cs + c.1 := by
  have G2 := alls_app G (alls_one g)
  refine ⟨best_mono0 G G2 fun e _ => ?_, best_mono G2 G fun e he => ⟨e, he, ?_⟩⟩
  · rw [sumE_app, sumE_one]
    have := oneE_nn g e
    omega
  · rw [bndE_eq, bndE_eq, sumE_app, sumE_one]
    have := oneE_nn g e
    omega
theorem eqD_int (a b : Int) : eqD (.int a) (.int b) = decide (a = b) := by
  by_cases h : a = b
  · subst h; rw [eqv_self (okD_int a), decide_eq_true rfl]
  · rw [decide_eq_false h]
    show (a == b) = false
    simp [h]
theorem eqD_bl (a b : Bool) : eqD (.bl a) (.bl b) = (a == b) := by cases a <;> cases b <;> rfl
theorem good1 {m d : Int} (h1 : 1 ≤ m) (h2 : m ≤ 99) (h3 : 0 ≤ d) (h4 : d ≤ 999) : good (m, d, 1) := ⟨⟨h1, h2⟩, ⟨h3, h4⟩, ⟨Int.le_refl _, by show (1 : Int) ≤ 99; decide⟩⟩
/-- max(0, a), min(b, a) as they are told -/
def mx (a : Int) : Int := if a > 0 then a else 0
def mn (b a : Int) : Int := if a < b then a else b
def wo (l : List Nat) (n : Nat) : List Nat := l.filter fun k => !decide (k = n)
theorem wo_perm {n : Nat} : ∀ {l : List Nat}, l.Nodup → n ∈ l → (n :: wo l n).Perm l
  | [], _, h => by cases h
  | a :: l, hd, h => by
    have hd' := List.nodup_cons.mp hd
    by_cases e : a = n
    · subst e
      have : wo (a :: l) a = l := by
        unfold wo
        rw [List.filter_cons_of_neg (by simp), List.filter_eq_self.mpr fun k hk => ?_]
        have : k ≠ a := fun z => hd'.1 (by rw [← z]; exact hk)
        simp [this]
      rw [this]
    · have e2 : wo (a :: l) n = a :: wo l n := by
        unfold wo
        rw [List.filter_cons_of_pos (by simp [e])]
      rw [e2]
      rcases List.mem_cons.mp h with z | z
      · exact absurd z.symm e
      · exact (List.Perm.swap a n _).trans ((wo_perm hd'.2 z).cons a)
theorem later_perm {cs : List Cd} {e : Int} {a b : List Nat} (h : a.Perm b) : later cs e a = later cs e b := by
  unfold later lens
  exact perm_sum ((h.filter _).map _)
theorem later_nn {cs : List Cd} (G : Gd cs) {e : Int} : ∀ {l : List Nat}, (∀ n ∈ l, n < cs.length) → 0 ≤ later cs e l
  | [], _ => Int.le_refl _
  | a :: l, h => by
    have := later_app cs e [a] l
    rw [List.singleton_append] at this
    rw [this, later_one]
    have h1 := later_nn G (e := e) fun n hn => h n (List.mem_cons_of_mem _ hn)
    have h2 := (at_goodG G (h a List.mem_cons_self)).1.1
    split <;> omega
theorem sub_le {cs : List Cd} (G : Gd cs) {e : Int} : ∀ {l m : List Nat}, l.Nodup → (∀ x ∈ l, x ∈ m) → m.Nodup → (∀ x ∈ m, x < cs.length) → later cs e l ≤ later cs e m := by
  intro l
  induction l with
  | nil => intro m _ _ _ hm; exact later_nn G hm
  | cons a l ih =>
    intro m hl hs hm hb
    have hl' := List.nodup_cons.mp hl
    have pm := wo_perm hm (hs a List.mem_cons_self)
    have q := ih (m := wo m a) hl'.2 (fun x hx => List.mem_filter.mpr ⟨hs x (List.mem_cons_of_mem _ hx), by
      have : x ≠ a := fun z => hl'.1 (by rw [← z]; exact hx)
      simp [this]⟩) ((List.nodup_cons.mp (pm.nodup_iff.mpr hm)).2) fun x hx => hb x (List.mem_filter.mp hx).1
    have a1 := later_app cs e [a] l
    have a2 := later_app cs e [a] (wo m a)
    rw [List.singleton_append] at a1 a2
    rw [← later_perm pm, a1, a2]
    omega
theorem pick_sub {cs : List Cd} (G : Gd cs) {l : List Nat} (nd : l.Nodup) (h : ∀ n ∈ l, n < cs.length) (e : Int) : sumE (pick cs l) e ≤ sumE cs e := by
  have := sub_le G (e := e) nd (fun x hx => List.mem_range.mpr (h x hx)) List.nodup_range fun x hx => List.mem_range.mp hx
  rw [later_pick, later_pick, pick_all] at this
  exact this
theorem isLot.nd {n : Nat} {l : List Nat} (h : isLot n l) : l.Nodup := h.1.imp fun {a b} h => Nat.ne_of_lt h
theorem best_pick_le {cs : List Cd} (G : Gd cs) {l : List Nat} (nd : l.Nodup) (h : ∀ n ∈ l, n < cs.length) : best (pick cs l) ≤ best cs := best_mono0 (alls_pick G.all h) G.all fun e _ => pick_sub G nd h e
theorem range_at {n k : Nat} {pre post : List Nat} (e : List.range n = pre ++ k :: post) : pre = List.range k ∧ k = pre.length ∧ k < n := by
  have h1 : (List.range n)[pre.length]? = some k := by rw [e, List.getElem?_append_right (Nat.le_refl _), Nat.sub_self]; rfl
  have hlt : pre.length < n := by
    have := congrArg List.length e
    rw [List.length_range, List.length_append, List.length_cons] at this
    omega
  rw [List.getElem?_range hlt] at h1
  have hk : pre.length = k := Option.some.inj h1
  have h2 := congrArg (List.take pre.length) e
  rw [List.take_left, List.take_range, Nat.min_eq_left (by omega)] at h2
  rw [← hk]
  exact ⟨h2.symm, rfl, hlt⟩
/-! ### one candle exchanged -/
theorem repl_sum {cs : List Cd} {n : Nat} (h : n < cs.length) (c : Cd) (e : Int) : sumE (repl cs n c) e = sumE cs e - oneE e (at' cs n) + oneE e c := by
  have e1 : cs = cs.take n ++ at' cs n :: cs.drop (n + 1) := by
    have e : cs.drop n = at' cs n :: cs.drop (n + 1) := by
      rw [List.drop_eq_getElem_cons h]
      have := at_get h
      rw [List.getElem?_eq_getElem h] at this
      rw [Option.some.inj this]
    rw [← e, List.take_append_drop]
  have e2 := congrArg (fun l => sumE l e) e1
  simp only [sumE_app, sumE_cons] at e2
  unfold repl
  rw [sumE_app, sumE_cons]
  omega
theorem repl_alls {cs : List Cd} (G : Alls cs) {n : Nat} {c : Cd} (g : good c) : Alls (repl cs n c) := fun x hx => by
  rcases List.mem_append.mp hx with z | z
  · exact G x (List.mem_of_mem_take z)
  · rcases List.mem_cons.mp z with rfl | z
    · exact g
    · exact G x (List.mem_of_mem_drop z)
theorem best_repl_mono {cs : List Cd} (G : Alls cs) {n : Nat} (h : n < cs.length) {c c' : Cd} (g : good c) (g' : good c') (h1 : c.1 ≤ c'.1) (h2 : c.2.1 ≤ c'.2.1) : best (repl cs n c) ≤ best (repl cs n c') :=
  best_mono0 (repl_alls G g) (repl_alls G g') fun e _ => by
    rw [repl_sum h, repl_sum h]
    have := oneE_mono g' h1 h2 e
    omega
theorem repl_same {cs : List Cd} (G : Alls cs) {n : Nat} (h : n < cs.length) {c : Cd} (g : good c) (h1 : c.1 = (at' cs n).1) (h2 : c.2.1 = (at' cs n).2.1) : best (repl cs n c) = best cs := by
  have e : ∀ e, sumE (repl cs n c) e = sumE cs e := fun e => by
    rw [repl_sum h]
    have a1 : endC c = c.2.1 + c.1 := rfl
    have a2 : endC (at' cs n) = (at' cs n).2.1 + (at' cs n).1 := rfl
    unfold oneE
    rw [a1, a2, h1, h2]
    omega
  have b1 := best_mono0 (repl_alls G g) G fun x _ => Int.le_of_eq (e x)
  have b2 := best_mono0 G (repl_alls (n := n) G g) fun x _ => Int.le_of_eq (e x).symm
  omega
theorem best_repl_ge {cs : List Cd} (G : Alls cs) {n : Nat} (h : n < cs.length) {c : Cd} (g : good c) (h1 : (at' cs n).1 ≤ c.1) (h2 : (at' cs n).2.1 ≤ c.2.1) : best cs ≤ best (repl cs n c) := best_mono0 G (repl_alls G g) fun e _ => by
  rw [repl_sum h]
  have := oneE_mono g h1 h2 e
  omega
theorem best_repl_le {cs : List Cd} (G : Alls cs) {n : Nat} (h : n < cs.length) {c : Cd} (g : good c) {k : Int} (hk : 0 ≤ k) (h1 : (at' cs n).1 ≤ c.1) (h2 : (at' cs n).2.1 ≤ c.2.1) (h3 : endC c ≤ endC (at' cs n) + k) (h4 : c.1 ≤ (at' cs n).1 + k) : best (repl cs n c) ≤ best cs + k :=
  best_mono (repl_alls G g) G fun e he => by
    by_cases z : e < endC (at' cs n)
    · refine ⟨e, he, ?_⟩
      rw [bndE_eq, bndE_eq, repl_sum h]
      have := oneE_nn g e
      have o : oneE e (at' cs n) = (at' cs n).1 := by unfold oneE; rw [if_pos z]
      omega
    · refine ⟨e + k, by omega, ?_⟩
      rw [bndE_eq, bndE_eq, repl_sum h]
      have o : oneE (e + k) c = 0 := by unfold oneE; rw [if_neg (by omega)]
      have o2 : oneE (e + k) (at' cs n) = 0 := by unfold oneE; rw [if_neg (by omega)]
      have dn : ∀ l : List Cd, Alls l → sumE l (e + k) ≤ sumE l e := fun l => by
        induction l with
        | nil => intro _; exact Int.le_refl _
        | cons a r ih =>
          intro hl
          have ih := ih fun x hx => hl x (List.mem_cons_of_mem _ hx)
          have g1 := (hl a List.mem_cons_self).1.1
          rw [sumE_cons, sumE_cons]
          have : oneE (e + k) a ≤ oneE e a := by unfold oneE; split <;> split <;> omega
          omega
      have := dn cs G
      omega
theorem sIx_nat (len d n : Nat) : HT.sIx len d (some (n : Int)) = min n len := by
  unfold HT.sIx
  simp only
  rw [if_neg (by omega), Int.toNat_natCast]
theorem sIx_none (len d : Nat) : HT.sIx len d none = d := rfl
theorem cut_take {xs : List D} {n : Nat} : AL.cutD xs none (some (n : Int)) = xs.take n := by
  unfold AL.cutD
  rw [sIx_none, sIx_nat, List.drop_zero, Nat.sub_zero]
  by_cases h : n ≤ xs.length
  · rw [Nat.min_eq_left h]
  · rw [Nat.min_eq_right (by omega), List.take_of_length_le (Nat.le_refl _), List.take_of_length_le (by omega)]
theorem cut_drop {xs : List D} {n : Nat} (h : n ≤ xs.length) : AL.cutD xs (some (n : Int)) none = xs.drop n := by
  unfold AL.cutD
  rw [sIx_nat, sIx_none, Nat.min_eq_left h, List.take_of_length_le (by rw [List.length_drop]; exact Nat.le_refl _)]
theorem cut_len (xs : List D) (a b : Option Int) : (AL.cutD xs a b).length ≤ xs.length := by
  unfold AL.cutD
  rw [List.length_take, List.length_drop]
  omega
theorem repl_csD {cs : List Cd} {n : Nat} (h : n < cs.length) (c : Cd) : D.tup (AL.cutD (cs.map cD) none (some (n : Int)) ++ [cD c] ++ AL.cutD (cs.map cD) (some ((n : Int) + 1)) none) = csD (repl cs n c) := by
  have e : ((n : Int) + 1) = ((n + 1 : Nat) : Int) := rfl
  rw [e, cut_take, cut_drop (by rw [List.length_map]; omega)]
  unfold csD repl
  rw [List.map_append, List.map_cons, List.map_take, List.map_drop, List.append_assoc]; rfl
theorem repl_len {cs : List Cd} {n : Nat} (h : n < cs.length) (c : Cd) : (repl cs n c).length = cs.length := by unfold repl; rw [List.length_append, List.length_cons, List.length_take, List.length_drop]; omega
theorem sum_lens {cs : List Cd} (G : Alls cs) : best cs ≤ (cs.map fun c => c.1).sum := by
  have h := best_le G (Int.le_refl 0)
  have e : ∀ c ∈ cs, oneE 0 c = c.1 := fun c hc => by unfold oneE; rw [if_pos (end_pos (G c hc))]
  rw [bndE_eq] at h
  unfold sumE at h
  rw [List.map_congr_left e, Int.zero_add] at h
  exact h
theorem take_goods {cs : List Cd} (G : Goods cs) (n : Nat) : Goods (cs.take n) := ⟨by rw [List.length_take]; have := G.len; omega, fun c hc => G.all c (List.mem_of_mem_take hc)⟩
theorem nums_plain : ∀ l : List Nat, D.plains (l.map nD) = true
  | [] => rfl
  | _ :: l => by show (true && D.plains (l.map nD)) = true; rw [nums_plain l]; rfl
theorem nums_lay : ∀ l : List Nat, PyData.canLayAll0 (D.pys (l.map nD)) = true
  | [] => rfl
  | _ :: l => by show (true && PyData.canLayAll0 (D.pys (l.map nD))) = true; rw [nums_lay l]; rfl
theorem nums_depthP : ∀ l : List Nat, PyData.depthAll (D.pys (l.map nD)) = 0
  | [] => rfl
  | _ :: l => by show max 0 (PyData.depthAll (D.pys (l.map nD))) = 0; rw [nums_depthP l]; rfl
theorem okD_nums (ns : List Nat) : okD (.lst (ns.map nD)) = true ∧ okD (lotD ns) = true := by
  have h1 : D.plains (ns.map nD) = true := nums_plain ns
  have h2 : PyData.canLayAll0 (D.pys (ns.map nD)) = true := nums_lay ns
  have h3 : decide (PyData.depthAll (D.pys (ns.map nD)) + 1 ≤ 64) = true := decide_eq_true (by rw [nums_depthP]; decide)
  constructor
  · show (D.plains (ns.map nD) && (PyData.canLayAll0 (D.pys (ns.map nD)) && decide (PyData.depthAll (D.pys (ns.map nD)) + 1 ≤ 64))) = true
    rw [h1, h2, h3]; rfl
  · show (D.plains (ns.map nD) && (PyData.canLayAll0 (D.pys (ns.map nD)) && decide (PyData.depthAll (D.pys (ns.map nD)) + 1 ≤ 64))) = true
    rw [h1, h2, h3]; rfl
/-! ### without one -/
theorem minus_wo (l : List Nat) (n : Nat) : minus l [n] = wo l n := by
  unfold minus wo
  refine List.filter_congr fun k _ => ?_
  by_cases h : k = n <;> simp [h]
theorem minus_sum {cs : List Cd} {l : List Nat} (nd : l.Nodup) {n : Nat} (h : n ∈ l) (e : Int) : sumE (pick cs (minus l [n])) e = sumE (pick cs l) e - oneE e (at' cs n) := by
  have p := sumE_perm (pick_perm (cs := cs) (wo_perm nd h)) e
  rw [minus_wo]
  have q : sumE (pick cs (n :: wo l n)) e = oneE e (at' cs n) + sumE (pick cs (wo l n)) e := sumE_cons _ _ _
  omega
theorem split_at {cs : List Cd} {n : Nat} (h : n < cs.length) : cs = cs.take n ++ at' cs n :: cs.drop (n + 1) := by
  have e : cs.drop n = at' cs n :: cs.drop (n + 1) := by
    rw [List.drop_eq_getElem_cons h]
    have := at_get h
    rw [List.getElem?_eq_getElem h] at this
    rw [Option.some.inj this]
  rw [← e, List.take_append_drop]
/-- without the candle n -/
def cutOut (cs : List Cd) (n : Nat) : List Cd := cs.take n ++ cs.drop (n + 1)
theorem cutOut_alls {cs : List Cd} (G : Alls cs) (n : Nat) : Alls (cutOut cs n) := fun x hx => (List.mem_append.mp hx).elim (fun z => G x (List.mem_of_mem_take z)) fun z => G x (List.mem_of_mem_drop z)
theorem cutOut_len {cs : List Cd} {n : Nat} : (cutOut cs n).length ≤ cs.length := by unfold cutOut; rw [List.length_append, List.length_take, List.length_drop]; omega
theorem cutOut_sum {cs : List Cd} {n : Nat} (h : n < cs.length) (e : Int) : sumE (cutOut cs n) e = sumE cs e - oneE e (at' cs n) := by
  have e2 := congrArg (fun l => sumE l e) (split_at h)
  simp only [sumE_app, sumE_cons] at e2
  unfold cutOut
  rw [sumE_app]
  omega
theorem best_same {a b : List Cd} (Ga : Alls a) (Gb : Alls b) (h : ∀ e, sumE a e = sumE b e) : best a = best b := by
  have h1 := best_mono0 Ga Gb fun e _ => Int.le_of_eq (h e)
  have h2 := best_mono0 Gb Ga fun e _ => Int.le_of_eq (h e).symm
  omega
theorem cutOut_best {cs : List Cd} (G : Alls cs) {n : Nat} (h : n < cs.length) : best (cutOut cs n) = best (pick cs (minus (List.range cs.length) [n])) := by
  refine best_same (cutOut_alls G n) (alls_pick G fun k hk => List.mem_range.mp (List.mem_filter.mp hk).1) fun e => ?_
  rw [cutOut_sum h, minus_sum List.nodup_range (List.mem_range.mpr h), pick_all]
theorem cutOut_csD {cs : List Cd} {n : Nat} (h : n < cs.length) : D.tup (AL.cutD (cs.map cD) none (some (n : Int)) ++ AL.cutD (cs.map cD) (some ((n : Int) + 1)) none) = csD (cutOut cs n) := by
  have e : ((n : Int) + 1) = ((n + 1 : Nat) : Int) := rfl
  rw [e, cut_take, cut_drop (by rw [List.length_map]; omega)]
  unfold csD cutOut
  rw [List.map_append, List.map_take, List.map_drop]
theorem best_pos {cs : List Cd} (G : Alls cs) (h : cs ≠ []) : 1 ≤ best cs := (le_best G).mpr fun e he => by
  rw [bndE_eq]
  cases cs with
  | nil => exact absurd rfl h
  | cons c r =>
    have g := G c List.mem_cons_self
    have g1 := g.1.1
    have nn := (sumE_nn (cs := r) (fun x hx => G x (List.mem_cons_of_mem _ hx)) e).1
    rw [sumE_cons]
    have o := oneE_nn g e
    by_cases z : e = 0
    · have : oneE e c = c.1 := by unfold oneE; rw [z, if_pos (end_pos g)]
      omega
    · omega
theorem best_price {cs : List Cd} (G : Alls cs) {n : Nat} (h : n < cs.length) {a b p q : Int} (g : good (a, b, p)) (g' : good (a, b, q)) : best (repl cs n (a, b, p)) = best (repl cs n (a, b, q)) :=
  best_same (repl_alls G g) (repl_alls G g') fun e => by rw [repl_sum h, repl_sum h]; rfl
theorem minus_minus (l a : List Nat) (n : Nat) : minus (minus l a) [n] = minus l (a ++ [n]) := by
  unfold minus
  rw [List.filter_filter]
  refine List.filter_congr fun k _ => ?_
  by_cases h : k = n <;> by_cases h2 : k ∈ a <;> simp [h, h2]
theorem minus_nil (l : List Nat) : minus l [] = l := by
  unfold minus
  rw [List.filter_eq_self]
  intro k _; rfl
/-! ### what a watch may last yet that lasts to T -/
theorem bnd_downT {cs : List Cd} {T e : Int} (he : T ≤ e) : ∃ e' ∈ T :: (cs.filter fun c => decide (T < endC c)).map endC, bndE cs e' ≤ bndE cs e := by
  by_cases h : (cs.filter fun c => decide (T < endC c)).filter (fun c => decide (endC c ≤ e)) = []
  · refine ⟨T, List.mem_cons_self, ?_⟩
    have e1 : ∀ c ∈ cs, oneE T c = oneE e c := fun c hc => by
      unfold oneE
      by_cases z : T < endC c
      · have h1 := List.filter_eq_nil_iff.mp h c (List.mem_filter.mpr ⟨hc, decide_eq_true z⟩)
        rw [if_pos z, if_pos (by simpa using h1)]
      · rw [if_neg z, if_neg (by omega)]
    rw [bndE_eq, bndE_eq]
    unfold sumE
    rw [List.map_congr_left e1]
    omega
  · obtain ⟨m, hm, hx⟩ := max_of endC _ h
    have hm := List.mem_filter.mp hm
    have hm1 := List.mem_filter.mp hm.1
    have hme : endC m ≤ e := by simpa using hm.2
    have hmt : T < endC m := by simpa using hm1.2
    refine ⟨endC m, List.mem_cons_of_mem _ (List.mem_map.mpr ⟨m, hm.1, rfl⟩), ?_⟩
    have e1 : ∀ c ∈ cs, oneE (endC m) c = oneE e c := fun c hc => by
      unfold oneE
      by_cases z : e < endC c
      · rw [if_pos z, if_pos (by omega)]
      · by_cases zt : T < endC c
        · have := hx c (List.mem_filter.mpr ⟨List.mem_filter.mpr ⟨hc, decide_eq_true zt⟩, by simp; omega⟩)
          rw [if_neg z, if_neg (by omega)]
        · rw [if_neg z, if_neg (by omega)]
    rw [bndE_eq, bndE_eq]
    unfold sumE
    rw [List.map_congr_left e1]
    omega
theorem bestT_is (cs : List Cd) (T : Int) : (∀ e ∈ T :: (cs.filter fun c => decide (T < endC c)).map endC, bestT cs T ≤ bndE cs e) ∧ ∃ e ∈ T :: (cs.filter fun c => decide (T < endC c)).map endC, bestT cs T = bndE cs e := by
  unfold bestT
  obtain ⟨⟨h1, h2⟩, h3⟩ := min_foldl ((cs.filter fun c => decide (T < endC c)).map fun c => bndE cs (endC c)) (bndE cs T)
  refine ⟨fun e he => ?_, ?_⟩
  · rcases List.mem_cons.mp he with rfl | he
    · exact h1
    · obtain ⟨c, hc, rfl⟩ := List.mem_map.mp he
      exact h2 _ (List.mem_map.mpr ⟨c, hc, rfl⟩)
  · rcases List.mem_cons.mp h3 with h | h
    · exact ⟨T, List.mem_cons_self, h⟩
    · obtain ⟨c, hc, e⟩ := List.mem_map.mp h
      exact ⟨endC c, List.mem_cons_of_mem _ (List.mem_map.mpr ⟨c, hc, rfl⟩), e.symm⟩
theorem memT_le {cs : List Cd} {T e : Int} (he : e ∈ T :: (cs.filter fun c => decide (T < endC c)).map endC) : T ≤ e := by
  rcases List.mem_cons.mp he with rfl | he
  · exact Int.le_refl _
  · obtain ⟨c, hc, rfl⟩ := List.mem_map.mp he
    have := (List.mem_filter.mp hc).2
    exact Int.le_of_lt (by simpa using this)
theorem le_bestT {cs : List Cd} {t T : Int} : t ≤ bestT cs T ↔ ∀ e, T ≤ e → t ≤ bndE cs e := by
  obtain ⟨h1, e, he, h2⟩ := bestT_is cs T
  constructor
  · intro h e he
    obtain ⟨e', m, hl⟩ := bnd_downT he
    have := h1 e' m
    omega
  · intro h
    rw [h2]
    exact h e (memT_le he)
theorem bestT_le {cs : List Cd} {T e : Int} (he : T ≤ e) : bestT cs T ≤ bndE cs e := le_bestT.mp (Int.le_refl _) e he
theorem bestT_at (cs : List Cd) (T : Int) : ∃ e, T ≤ e ∧ bestT cs T = bndE cs e := by
  obtain ⟨_, e, he, h2⟩ := bestT_is cs T
  exact ⟨e, memT_le he, h2⟩
theorem bestT_zero {cs : List Cd} (G : Alls cs) : bestT cs 0 = best cs := by
  have h1 : bestT cs 0 ≤ best cs := (le_best G).mpr fun e he => bestT_le he
  have h2 : best cs ≤ bestT cs 0 := le_bestT.mpr fun e he => best_le G he
  omega
theorem bestT_ge {cs : List Cd} (G : Alls cs) (T : Int) : T ≤ bestT cs T := le_bestT.mpr fun e he => by
  rw [bndE_eq]
  have := (sumE_nn G e).1
  omega
theorem bestT_mono0 {a b : List Cd} {T : Int} (h : ∀ e, T ≤ e → sumE a e ≤ sumE b e) : bestT a T ≤ bestT b T := le_bestT.mpr fun e he => by
  have := bestT_le (cs := a) he
  have := h e he
  rw [bndE_eq] at *
  omega
theorem bestT_same {a b : List Cd} {T : Int} (h : ∀ e, sumE a e = sumE b e) : bestT a T = bestT b T := by
  have h1 := bestT_mono0 (T := T) (a := a) (b := b) fun e _ => Int.le_of_eq (h e)
  have h2 := bestT_mono0 (T := T) (a := b) (b := a) fun e _ => Int.le_of_eq (h e).symm
  omega
theorem bestT_perm {a b : List Cd} (h : a.Perm b) (T : Int) : bestT a T = bestT b T := bestT_same fun e => sumE_perm h e
theorem bestT_nil (T : Int) : bestT [] T = T := by
  have h1 := bestT_le (cs := []) (Int.le_refl T)
  have h2 := bestT_ge (cs := []) (fun _ h => nomatch h) T
  rw [bndE_eq] at h1
  unfold sumE at h1
  simp at h1
  omega
/-- a candle lit while the watch lasts: what may be doesn't grow -/
theorem bestT_light {cs : List Cd} (G : Alls cs) {c : Cd} (g : good c) {T t : Int} (h1 : t ≤ T) (h2 : t ≤ c.2.1) : bestT cs (if T < t + c.1 then t + c.1 else T) ≤ bestT (c :: cs) T := le_bestT.mpr fun e he => by
  have hend : endC c = c.2.1 + c.1 := rfl
  rw [bndE_eq, sumE_cons]
  have hn := oneE_nn g e
  by_cases z : T < t + c.1
  · rw [if_pos z]
    by_cases z2 : t + c.1 ≤ e
    · have := bestT_le (cs := cs) z2
      rw [bndE_eq] at this
      omega
    · have h3 := bestT_le (cs := cs) (Int.le_refl (t + c.1))
      rw [bndE_eq] at h3
      have h4 : sumE cs (t + c.1) ≤ sumE cs e := by
        have key : ∀ l : List Cd, Alls l → sumE l (t + c.1) ≤ sumE l e := by
          intro l
          induction l with
          | nil => intro _; exact Int.le_refl _
          | cons x r ih =>
            intro hl
            have hr := ih fun y hy => hl y (List.mem_cons_of_mem _ hy)
            have gx := (hl x List.mem_cons_self).1.1
            rw [sumE_cons, sumE_cons]
            have : oneE (t + c.1) x ≤ oneE e x := by
              unfold oneE
              by_cases a : t + c.1 < endC x
              · rw [if_pos a, if_pos (by omega)]; exact Int.le_refl _
              · rw [if_neg a]; split <;> omega
            omega
        exact key cs G
      have h5 : oneE e c = c.1 := by
        unfold oneE
        rw [if_pos (by omega)]
      omega
  · rw [if_neg z]
    have := bestT_le (cs := cs) he
    rw [bndE_eq] at this
    omega
theorem turn_lo (cs : List Cd) : ∀ (r : List Nat) (s : Int × List (Int × Int)), s.1 ≤ (r.foldl (turn1 cs) s).1
  | [], s => Int.le_refl _
  | n :: r, s => by
    rw [List.foldl_cons]
    have ih := turn_lo cs r (turn1 cs s n)
    obtain ⟨t, ht, hc⟩ := turn1_eq cs s n
    rcases hc with ⟨h1, hc⟩ | ⟨_, hc⟩
    · rw [hc] at ih ⊢
      have ih : t + (at' cs n).1 ≤ _ := ih
      omega
    · rw [hc] at ih ⊢
      exact ih
theorem turn_geT {cs : List Cd} (G : Gd cs) {T : Int} (hT0 : 0 ≤ T) : ∀ (r pre : List Nat), (∀ n ∈ pre ++ r, n < cs.length) → (pre ++ r).Pairwise (fun i j => endC (at' cs i) ≤ endC (at' cs j)) →
    (∃ e, (e = T ∨ (T ≤ e ∧ ∃ n ∈ pre, e = endC (at' cs n))) ∧ (pre.foldl (turn1 cs) (T, [])).1 = e + later cs e pre) →
    ∃ e, T ≤ e ∧ ((pre ++ r).foldl (turn1 cs) (T, [])).1 = e + later cs e (pre ++ r)
  | [], pre, _, _, h => by
    rw [List.append_nil]
    obtain ⟨e, he, hT⟩ := h
    exact ⟨e, by rcases he with rfl | he <;> omega, hT⟩
  | n :: r, pre, hn, hp, ⟨e, he, hT⟩ => by
    have hnl : n < cs.length := hn n (List.mem_append_right _ List.mem_cons_self)
    have g := at_goodG G hnl
    have g1 := g.1.1
    have g2 := g.2.1.1
    have hend : endC (at' cs n) = (at' cs n).2.1 + (at' cs n).1 := rfl
    have hle : ∀ j ∈ pre, endC (at' cs j) ≤ endC (at' cs n) := fun j hj => (List.pairwise_append.mp hp).2.2 j hj n List.mem_cons_self
    have heT : T ≤ e := by rcases he with rfl | he <;> omega
    have hlow := turn_lo cs pre (T, [])
    have e2 : pre ++ n :: r = (pre ++ [n]) ++ r := by rw [List.append_assoc]; rfl
    rw [e2]
    refine turn_geT G hT0 r (pre ++ [n]) (by rw [← e2]; exact hn) (by rw [← e2]; exact hp) ?_
    obtain ⟨t, ht, hc⟩ := turn1_eq cs (pre.foldl (turn1 cs) (T, [])) n
    rw [List.foldl_append]
    show ∃ e, _ ∧ (turn1 cs (pre.foldl (turn1 cs) (T, [])) n).1 = _
    by_cases hle0 : endC (at' cs n) ≤ T
    · have hs : ¬ (pre.foldl (turn1 cs) (T, [])).1 < t + (at' cs n).1 := by
        have : t ≤ (at' cs n).2.1 := by rw [ht]; split <;> omega
        have h0 : T ≤ (pre.foldl (turn1 cs) (T, [])).1 := hlow
        omega
      refine ⟨e, ?_, ?_⟩
      · rcases he with h | ⟨h, j, hj, h'⟩
        · exact .inl h
        · exact .inr ⟨h, j, List.mem_append_left _ hj, h'⟩
      · rcases hc with ⟨h1, _⟩ | ⟨_, hc⟩
        · exact absurd h1 hs
        · rw [hc, later_app, later_one, if_neg (by omega)]
          omega
    have hz : later cs (endC (at' cs n)) pre = 0 := by
      unfold later
      have : pre.filter (fun k => decide (endC (at' cs n) < endC (at' cs k))) = [] := by
        rw [List.filter_eq_nil_iff]
        intro k hk
        have := hle k hk
        simp; omega
      rw [this]; rfl
    have hTE : (pre.foldl (turn1 cs) (T, [])).1 ≤ endC (at' cs n) := by
      have := turn_le G (e := endC (at' cs n)) (by omega) pre 0 (T, []) (fun m hm => hn m (List.mem_append_left _ hm)) (by omega) (by show T ≤ _; omega)
      omega
    generalize pre.foldl (turn1 cs) (T, []) = s at *
    by_cases hd : s.1 ≤ (at' cs n).2.1
    · have ht2 : t = s.1 := by rw [ht, if_neg (by omega)]
      rcases hc with ⟨h1, hc⟩ | ⟨h1, _⟩
      · have hlt : e < endC (at' cs n) := by
          have h3 : e ≤ endC (at' cs n) := by
            rcases he with rfl | ⟨_, j, hj, rfl⟩
            · omega
            · exact hle j hj
          by_cases h4 : e = endC (at' cs n)
          · rw [h4, hz] at hT; omega
          · omega
        refine ⟨e, ?_, ?_⟩
        · rcases he with h | ⟨h, j, hj, h'⟩
          · exact .inl h
          · exact .inr ⟨h, j, List.mem_append_left _ hj, h'⟩
        · rw [hc, later_app, later_one, if_pos hlt]
          show t + _ = _
          omega
      · omega
    · have ht2 : t = (at' cs n).2.1 := by rw [ht, if_pos (by omega)]
      refine ⟨endC (at' cs n), .inr ⟨by omega, n, List.mem_append_right _ List.mem_cons_self, rfl⟩, ?_⟩
      rw [later_app, later_one, if_neg (by omega), hz]
      rcases hc with ⟨h1, hc⟩ | ⟨h1, hc⟩
      · rw [hc]; show t + _ = _; omega
      · rw [hc]; omega
theorem turnT_best_perm {cs : List Cd} (G : Gd cs) {T : Int} (hT : 0 ≤ T) {ms ns : List Nat} (hn : ∀ n ∈ ns, n < cs.length) (p : ms.Perm ns) (h : risingE cs ms) : (turnL cs T ms).1 = bestT (pick cs ns) T := by
  have hm : ∀ n ∈ ms, n < cs.length := fun n h => hn n (p.mem_iff.mp h)
  rw [bestT_perm (pick_perm p).symm]
  have h1 : (turnL cs T ms).1 ≤ bestT (pick cs ms) T := le_bestT.mpr fun e he => by
    have := turn_le G (e := e) (by omega) ms 0 (T, []) hm (by omega) (by show T ≤ _; omega)
    rw [bndE_eq, ← later_pick]
    unfold turnL
    omega
  obtain ⟨e, he, h2⟩ := turn_geT G hT ms [] (by simpa using hm) (by simpa using rising_le h) ⟨T, .inl rfl, by unfold later lens; simp⟩
  rw [List.nil_append] at h2
  have h3 := bestT_le (cs := pick cs ms) he
  rw [bndE_eq, ← later_pick] at h3
  unfold turnL at h1 ⊢
  omega
end FW
set_option Elab.async false
set_option linter.all false
set_option maxRecDepth 100000
set_option maxHeartbeats 2000000
namespace FW
open PySem PySem.Spec PyProof.Rows L2 AL
theorem read_longest_from : ∀ xs Q, sp_longest_from xs Q → w_longest_from { nx := fun _ => Q .non, rt := fun y _ => Q y } (startE N_longest_from [] xs) := by
  rintro xs Q ⟨cs, ns, c, d, T, rfl, hc, hd, G, N, hT, q⟩
  refine ⟨cs, ns, c, d, rfl, hc, hd, N, fun ms hp hr => ?_⟩
  refine ⟨cs, ms, c, _, T, rfl, hc, .inl rfl, nums_perm N hp, ?_⟩
  refine ⟨.int (turnL cs T ms).1, rfl, ?_⟩
  show Q (.int (turnL cs T ms).1)
  rw [turnT_best_perm G hT N.lt hp hr]
  exact q
theorem keep_t {cs : List Cd} {t : Int} (h : t ≤ best cs) : keepB cs t = true := decide_eq_true h
theorem keep_f {cs : List Cd} {t : Int} (h : best cs < t) : keepB cs t = false := decide_eq_false (by omega)
theorem gd_app {cs : List Cd} (G : Goods cs) {c : Cd} (g : good c) : Gd (cs ++ [c]) := ⟨by have := G.len; rw [List.length_append, List.length_singleton]; omega, fun x hx => by
  rcases List.mem_append.mp hx with h | h
  · exact G.all x h
  · rw [List.mem_singleton.mp h]; exact g⟩
end FW
set_option Elab.async false
set_option linter.all false
set_option maxRecDepth 100000
set_option maxHeartbeats 4000000
/-! a night as an object -/
namespace FW
open PySem PySem.Spec PyProof.Rows L2 AL
/-- a night: its candles, the ends of the lit, the lost, the time, the deeds -/
structure NSt where
  cs : List D
  ends : List (Int × Int)
  lost : List Int
  now : Int
  done : List D
structure NdN where
  a : Addr
  l1 : Addr
  d : Addr
  l2 : Addr
  l3 : Addr
def nF (nd : NdN) (b : Addr) : Prop := b = nd.a ∨ b = nd.l1 ∨ b = nd.d ∨ b = nd.l2 ∨ b = nd.l3
def nflds (nd : NdN) (z : Int) : List (Str × V) := [("candles", .ref nd.l1), ("ends", .ref nd.d), ("lost", .ref nd.l2), ("now", .int z), ("done", .ref nd.l3)]
def endKs (es : List (Int × Int)) : List (L2.Key × V) := es.map fun p => (Sum.inl p.1, V.int p.2)
structure nAt (K : PySem.W.Frag) (C : Addr) (st : NSt) (nd : NdN) (M : Addr → Prop) (H : Hp) (a : Addr) : Prop where
  self : a = nd.a
  ob : ∃ dx, H nd.a = some (.ins C dx (nflds nd st.now))
  l1 : ∃ vs, H nd.l1 = some (.lst vs) ∧ RpAll K M H vs st.cs
  d : H nd.d = some (.dK (endKs st.ends))
  l2 : H nd.l2 = some (.lst (st.lost.map V.int))
  l3 : ∃ vs, H nd.l3 = some (.lst vs) ∧ RpAll K M H vs st.done
  ne : nd.l1 ≠ nd.l2 ∧ nd.l1 ≠ nd.l3 ∧ nd.l2 ≠ nd.l3
theorem nAt_stab (K : PySem.W.Frag) (C : Addr) (st : NSt) (nd : NdN) : StabO (nF nd) (nAt K C st nd) := by
  refine ⟨fun M H M' H' a s e h => ?_, fun M H a h b hb ps => ?_⟩
  · obtain ⟨h1, ⟨dx, h2⟩, ⟨vs, h3, r3⟩, h4, h5, ⟨us, h6, r6⟩, h7⟩ := h
    exact ⟨h1, ⟨dx, by rw [e _ (.inl rfl)]; exact h2⟩, ⟨vs, by rw [e _ (.inr (.inl rfl))]; exact h3, r3.step s⟩, by rw [e _ (.inr (.inr (.inl rfl)))]; exact h4, by rw [e _ (.inr (.inr (.inr (.inl rfl))))]; exact h5, ⟨us, by rw [e _ (.inr (.inr (.inr (.inr rfl))))]; exact h6, r6.step s⟩, h7⟩
  · obtain ⟨h1, ⟨dx, h2⟩, ⟨vs, h3, r3⟩, h4, h5, ⟨us, h6, r6⟩, h7⟩ := h
    rcases hb with rfl | rfl | rfl | rfl | rfl
    · rw [h2]; exact fun z => by cases z
    · rw [h3]; exact fun z => by cases z
    · rw [h4]; exact fun z => by cases z
    · rw [h5]; exact fun z => by cases z
    · rw [h6]; exact fun z => by cases z
/-- no field's name -/
def nNm (m : Str) : Bool := !(m == "candles" || m == "ends" || m == "lost" || m == "now" || m == "done")
theorem nflds_no {nd : NdN} {z : Int} {m : Str} (h : nNm m = true) : (nflds nd z).lookup m = none := by
  unfold nNm at h
  simp only [Bool.not_eq_true', Bool.or_eq_false_iff] at h
  obtain ⟨⟨⟨⟨h1, h2⟩, h3⟩, h4⟩, h5⟩ := h
  unfold nflds
  simp only [List.lookup, h1, h2, h3, h4, h5]
theorem nObjC {K : PySem.W.Frag} {C : Addr} (cl : Cls K C) : ObjC K C nNm nF (nAt K C) where
  cl := cl
  stab := nAt_stab K C
  ins := fun st nd M H a h => by
    obtain ⟨dx, h2⟩ := h.ob
    exact ⟨dx, _, by rw [h.self]; exact h2, fun m hm => nflds_no hm⟩
  self := fun st nd M H M' H' a b st' h h' => by rw [h.self, h'.self]
theorem lk_candles (nd : NdN) (z : Int) : (nflds nd z).lookup ("candles" : Str) = some (.ref nd.l1) := by rfl
theorem lk_ends (nd : NdN) (z : Int) : (nflds nd z).lookup ("ends" : Str) = some (.ref nd.d) := by rfl
theorem lk_lost (nd : NdN) (z : Int) : (nflds nd z).lookup ("lost" : Str) = some (.ref nd.l2) := by rfl
theorem lk_now (nd : NdN) (z : Int) : (nflds nd z).lookup ("now" : Str) = some (.int z) := by rfl
theorem lk_done (nd : NdN) (z : Int) : (nflds nd z).lookup ("done" : Str) = some (.ref nd.l3) := by rfl
theorem put_now (nd : NdN) (z y : Int) : putF "now" (.int y) (nflds nd z) = nflds nd y := by rfl
end FW
set_option Elab.async false
set_option linter.all false
set_option maxRecDepth 100000
set_option maxHeartbeats 4000000
namespace FW
open PySem PySem.Spec PyProof.Rows L2 AL
abbrev s_n (j : Nat) : Stmt := inClass (topS 24) j
/-- what the methods ask of the class -/
structure NTxt (K : PySem.W.Frag) (mg : Str → Option Value) (C : Addr) : Prop where
  cl : Cls K C
  nC : NoAttr K C "candles"
  nE : NoAttr K C "ends"
  nL : NoAttr K C "lost"
  nN : NoAttr K C "now"
  nD : NoAttr K C "done"
  list_ : mg "list" = none
section
variable {P : Program} {w : World} {K : PySem.W.Frag} {mg : Str → Option Value} {base : Heap} {C : Addr}
/-! ### time -/
theorem sc_time : FnScope ["self"] ["self"] (defScope (s_n 5)) := ⟨rfl, rfl, rfl, by decide +kernel, rfl, by decide +kernel, by decide +kernel⟩
def sp_time : OSp NSt := fun st xs Q => xs = [] ∧ Q (.int st.now) st
theorem mono_time : MonoO sp_time := fun st xs P P' h q => ⟨q.1, h _ _ q.2⟩
/-- nothing is changed -/
theorem n_same {st : NSt} {nd : NdN} {M : Addr → Prop} {H : Hp} {a : Addr} (h : nAt K C st nd M H a) (hF : ∀ b, nF nd b → M b) (hM : ∀ p, M p → ∃ o, H p = some o ∧ MutO o) : ∀ b, nF nd b → ∃ o, H b = some o ∧ MutO o := fun b hb => hM b (hF b hb)
theorem ok_time {f : Addr} {fd : FuncData} (F : Fun K "time" "Night.time" (s_n 5) f fd) (T : NTxt K mg C) : FnOk P w K mg base CX0 1 f fd ["self"] (liftOb K nF (nAt K C) sp_time) := by
  refine F.ok sc_time (fun vs H Q E h => ?_) (fun cdv A outer s H vs Q E hr h => ?_)
  · obtain ⟨M, nd, st, a, us, xs, rfl, _, _, _, r, rfl, _⟩ := h
    cases r
    rfl
  · obtain ⟨M, nd, st, a, us, xs, rfl, hM, hF, S, r, rfl, q⟩ := h
    cases r
    obtain rfl := S.self
    obtain ⟨dx, h1⟩ := S.ob
    refine ⟨_, pss_one (ps_ret (pe_fld (pv 0) rfl)), ?_⟩
    exact ⟨_, rfl, _, C, dx, _, _, rfl, h1, T.cl, T.nN, lk_now _ _, q _ H (fun b o _ h => h) (n_same S hF hM) S (.int _)⟩
/-! ### is_dry -/
theorem sc_dry : FnScope ["self", "number"] ["self", "number"] (defScope (s_n 11)) := ⟨rfl, rfl, rfl, by decide +kernel, rfl, by decide +kernel, by decide +kernel⟩
def sp_dry : OSp NSt := fun st xs Q => ∃ (n : Nat) (l d p : Int), xs = [.int (n : Int)] ∧ st.cs[n]? = some (.tup [.int l, .int d, .int p]) ∧ Q (.bl (decide (st.now ≤ d))) st
theorem mono_dry : MonoO sp_dry := fun st xs P P' h ⟨n, l, d, p, a, b, q⟩ => ⟨n, l, d, p, a, b, h _ _ q⟩
theorem ok_dry {f : Addr} {fd : FuncData} (F : Fun K "is_dry" "Night.is_dry" (s_n 11) f fd) (T : NTxt K mg C) : FnOk P w K mg base CX0 1 f fd ["self", "number"] (liftOb K nF (nAt K C) sp_dry) := by
  refine F.ok sc_dry (fun vs H Q E h => ?_) (fun cdv A outer s H vs Q E hr h => ?_)
  · obtain ⟨M, nd, st, a, us, xs, rfl, _, _, _, r, n, l, d, p, rfl, _⟩ := h
    rw [List.length_cons, r.length]; rfl
  · obtain ⟨M, nd, st, a, us, xs, rfl, hM, hF, S, r, n, l, d, p, rfl, hn, q⟩ := h
    cases r with
    | cons r0 r1 =>
      cases r1
      cases r0
      obtain rfl := S.self
      obtain ⟨dx, h1⟩ := S.ob
      obtain ⟨vs, hl, rr⟩ := S.l1
      obtain ⟨v, hv, rv⟩ := rr.get hn
      refine ⟨_, pss_one (ps_ret (pe_cmpR op_le (pe_fld (pv 0) rfl) (pe_ix ix_seq (pe_ix ix_seq (pe_fld (pv 0) rfl) (pv 1) (fun _ _ => rfl)) pe_int (fun _ _ => rfl)) (nomark _))), ?_⟩
      refine ⟨_, rfl, _, C, dx, _, _, rfl, h1, T.cl, T.nN, lk_now _ _, ?_⟩
      refine ⟨_, rfl, _, C, dx, _, _, rfl, h1, T.cl, T.nC, lk_candles _ _, ?_⟩
      refine ⟨_, rfl, ?_⟩
      refine .inl ⟨_, vs, (n : Int), v, rfl, rfl, .of hl, atI_nat hv, ?_⟩
      cases rv with
      | tup ht rt =>
        rename_i t ws
        cases rt with
        | cons a1 rt =>
          cases rt with
          | cons a2 rt =>
            cases a2
            refine .inr (.inl ⟨t, _, 1, .int d, rfl, rfl, .of ht, atI_nat (j := 1) rfl, ?_⟩)
            exact ⟨st.now, d, rfl, rfl, q _ H (fun b o _ h => h) (n_same S hF hM) S (.bl _)⟩
/-! ### deeds -/
theorem sc_deeds : FnScope ["self"] ["self"] (defScope (s_n 8)) := ⟨rfl, rfl, rfl, by decide +kernel, rfl, by decide +kernel, by decide +kernel⟩
def sp_deeds : OSp NSt := fun st xs Q => xs = [] ∧ st.done.length ≤ 1000 ∧ Q (.lst st.done) st
theorem mono_deeds : MonoO sp_deeds := fun st xs P P' h q => ⟨q.1, q.2.1, h _ _ q.2.2⟩
theorem ok_deeds {f : Addr} {fd : FuncData} (F : Fun K "deeds" "Night.deeds" (s_n 8) f fd) (T : NTxt K mg C) : FnOk P w K mg base CX0 1 f fd ["self"] (liftOb K nF (nAt K C) sp_deeds) := by
  refine F.ok sc_deeds (fun vs H Q E h => ?_) (fun cdv A outer s H vs Q E hr h => ?_)
  · obtain ⟨M, nd, st, a, us, xs, rfl, _, _, _, r, rfl, _⟩ := h
    cases r
    rfl
  · obtain ⟨M, nd, st, a, us, xs, rfl, hM, hF, S, r, rfl, hlen, q⟩ := h
    cases r
    obtain rfl := S.self
    obtain ⟨dx, h1⟩ := S.ob
    obtain ⟨vs, hl, rr⟩ := S.l3
    refine ⟨_, pss_one (ps_ret (pe_callTy call_list_of (by rfl) T.list_ (by rfl) (pa_cons (pe_fld (pv 0) rfl) pa_nil))), ?_⟩
    refine ⟨_, rfl, _, C, dx, _, _, rfl, h1, T.cl, T.nD, lk_done _ _, ?_⟩
    refine ⟨_, vs, rfl, .inl (.of hl), fun l hn => ?_⟩
    have sm := same_upd (o := .lst vs) hn
    have nl : ∀ b, nF nd b → b ≠ l := fun b hb z => by
      obtain ⟨o, h, _⟩ := hM b (hF b hb)
      rw [z, hn] at h; cases h
    have hM' : ∀ p, M p → ∃ o, upd H l (.lst vs) p = some o ∧ MutO o := fun p hp => by
      obtain ⟨o, h, m⟩ := hM p hp
      exact ⟨o, sm p o h, m⟩
    refine q _ _ (fun b o _ h => sm b o h) (fun b hb => hM' b (hF b hb)) ((nAt_stab K C st nd).1 M H M _ _ (step_same sm) (fun b hb => upd_ne (nl b hb)) S) (.lst (fun z => ?_) upd_same (rr.step (step_same sm)))
    obtain ⟨o, h, _⟩ := hM l z
    rw [hn] at h; cases h
/-! ### is_left -/
theorem sc_left : FnScope ["self", "number"] ["self", "number"] (defScope (s_n 12)) := ⟨rfl, rfl, rfl, by decide +kernel, rfl, by decide +kernel, by decide +kernel⟩
def leftB (st : NSt) (n : Int) : Bool := !decide (n ∈ st.ends.map (·.1)) && !decide (n ∈ st.lost)
def sp_left : OSp NSt := fun st xs Q => ∃ n : Int, xs = [.int n] ∧ Q (.bl (leftB st n)) st
theorem mono_left : MonoO sp_left := fun st xs P P' h ⟨n, a, q⟩ => ⟨n, a, h _ _ q⟩
theorem valV_ends (es : List (Int × Int)) (n : Int) : (valV (endKs es) (Sum.inl n : L2.Key)).isSome = decide (n ∈ es.map (·.1)) := by
  induction es with
  | nil => rfl
  | cons p r ih =>
    unfold valV endKs at ih ⊢
    rw [List.map_cons, List.find?_cons]
    by_cases h : p.1 = n
    · subst h
      rw [decide_eq_true rfl]
      simp
    · have e : decide ((Sum.inl p.1 : L2.Key) = Sum.inl n) = false := decide_eq_false fun z => h (Sum.inl.inj z)
      rw [e]
      rw [ih, List.map_cons]
      have h2 : ¬ n = p.1 := fun z => h z.symm
      simp [h2]
theorem inV_ints (n : Int) : ∀ l : List Int, inV (.int n) (l.map V.int) = decide (n ∈ l)
  | [] => by simp [inV]
  | k :: r => by
    have ih := inV_ints n r
    unfold inV at ih ⊢
    rw [List.map_cons, List.any_cons, ih]
    by_cases h : n = k
    · subst h; simp [eqV]
    · have h2 : ¬ k = n := fun z => h z.symm
      simp [h, h2, eqV]
theorem ok_left {f : Addr} {fd : FuncData} (F : Fun K "is_left" "Night.is_left" (s_n 12) f fd) (T : NTxt K mg C) : FnOk P w K mg base CX0 1 f fd ["self", "number"] (liftOb K nF (nAt K C) sp_left) := by
  refine F.ok sc_left (fun vs H Q E h => ?_) (fun cdv A outer s H vs Q E hr h => ?_)
  · obtain ⟨M, nd, st, a, us, xs, rfl, _, _, _, r, n, rfl, _⟩ := h
    rw [List.length_cons, r.length]; rfl
  · obtain ⟨M, nd, st, a, us, xs, rfl, hM, hF, S, r, n, rfl, q⟩ := h
    cases r with
    | cons r0 r1 =>
      cases r1
      cases r0
      obtain rfl := S.self
      obtain ⟨dx, h1⟩ := S.ob
      have hu := hu_of hr
      have fin : ∀ b, b = leftB st n → Q (.bl b) H := fun b e => by
        subst e
        exact q _ H (fun b o _ h => h) (n_same S hF hM) S (.bl _)
      refine ⟨_, pss_one (ps_ret (pe_and (pe_cmp (pc_dnotin hu (pv 1) (pe_fld (pv 0) rfl))) (pe_one (pe_cmpR op_notIn_seq (pv 1) (pe_fld (pv 0) rfl) (by rfl))))), ?_⟩
      refine ⟨_, rfl, _, rfl, _, C, dx, _, _, rfl, h1, T.cl, T.nE, lk_ends _ _, _, _, rfl, DGet.k (k := Sum.inl n) S.d, _, rfl, ?_⟩
      rw [valV_ends]
      by_cases h : n ∈ st.ends.map (·.1)
      · rw [decide_eq_true h]
        exact fin _ (by unfold leftB; rw [decide_eq_true h]; rfl)
      · rw [decide_eq_false h]
        refine ⟨_, rfl, _, rfl, _, C, dx, _, _, rfl, h1, T.cl, T.nL, lk_lost _ _, ?_⟩
        refine ⟨_, _, rfl, .inl (.of S.l2), rfl, ?_, ?_⟩
        · rw [List.all_map, List.all_eq_true]; intro _ _; rfl
        · rw [inV_ints]
          exact fin _ (by unfold leftB; rw [decide_eq_false h]; rfl)
end
end FW
set_option Elab.async false
set_option linter.all false
set_option maxRecDepth 100000
set_option maxHeartbeats 4000000
/-! a deed carried out -/
namespace FW
open PySem PySem.Spec PyProof.Rows L2 AL
/-- what is written is of the object -/
structure Put (nd : NdN) (M : Addr → Prop) (H H' : Hp) : Prop where
  s : Step M H M H'
  k : ∀ b o, ¬ nF nd b → H b = some o → H' b = some o
  n : ∀ b, nF nd b → ∃ o, H' b = some o ∧ MutO o
theorem Put.trans {nd : NdN} {M : Addr → Prop} {H H1 H2 : Hp} (a : Put nd M H H1) (b : Put nd M H1 H2) : Put nd M H H2 :=
  ⟨a.s.trans b.s, fun c o h e => b.k c o h (a.k c o h e), b.n⟩
theorem Put.one {nd : NdN} {M : Addr → Prop} {H : Hp} {p : Addr} {o : HO} (hF : ∀ b, nF nd b → M b) (n : ∀ b, nF nd b → ∃ o, H b = some o ∧ MutO o) (hp : nF nd p) (m : MutO o) : Put nd M H (upd H p o) := by
  obtain ⟨o0, h0, m0⟩ := n p hp
  refine ⟨⟨fun b o1 hb h => ⟨hb, ?_⟩, fun b xs h => ?_, fun b o1 u h => ?_⟩, fun b o1 hb h => ?_, fun b hb => ?_⟩
  · rw [upd_ne (fun z => hb (by rw [z]; exact hF _ hp))]; exact h
  · rw [upd_ne (fun z => by rw [z, h0] at h; cases h; exact m0)]; exact h
  · rw [upd_ne (fun z => by rw [z, h0] at h; cases h; exact m0)]; exact h
  · rw [upd_ne (fun z => hb (by rw [z]; exact hp))]; exact h
  · by_cases z : b = p
    · subst z; exact ⟨o, upd_same, m⟩
    · obtain ⟨o1, h1, m1⟩ := n b hb
      exact ⟨o1, by rw [upd_ne z]; exact h1, m1⟩
theorem ite_t {b : Bool} {p q : Prop} (e : b = true) (h : p) : if b = true then p else q := by rw [if_pos e]; exact h
theorem ite_f {b : Bool} {p q : Prop} (e : b = false) (h : q) : if b = true then p else q := by rw [e]; exact h
theorem str_ne {x y : Str} (h : ¬ x = y) : decide (V.str x = V.str y) = false := decide_eq_false fun z => h (by injection z)
section
variable {K : PySem.W.Frag} {C : Addr} {M : Addr → Prop} {nd : NdN} {st : NSt} {H : Hp} {a : Addr}
theorem RpAll.snoc {vs : List V} {ds : List D} {v : V} {d : D} (h : RpAll K M H vs ds) (r : Rp K M H v d) : RpAll K M H (vs ++ [v]) (ds ++ [d]) := by
  induction ds generalizing vs with
  | nil => cases h; exact .cons r .nil
  | cons x xs ih => cases h with | cons h1 h2 => exact .cons h1 (ih h2)
/-- the parts lie apart -/
structure Apart (nd : NdN) : Prop where
  a1 : nd.a ≠ nd.l1
  ad : nd.a ≠ nd.d
  a2 : nd.a ≠ nd.l2
  a3 : nd.a ≠ nd.l3
  d1 : nd.d ≠ nd.l1
  d2 : nd.d ≠ nd.l2
  d3 : nd.d ≠ nd.l3
  l12 : nd.l1 ≠ nd.l2
  l13 : nd.l1 ≠ nd.l3
  l23 : nd.l2 ≠ nd.l3
theorem nAt.apart (S : nAt K C st nd M H a) : Apart nd := by
  obtain ⟨h1, ⟨dx, h2⟩, ⟨vs, h3, r3⟩, h4, h5, ⟨us, h6, r6⟩, h7, h8, h9⟩ := S
  exact ⟨fun z => by (rw [z, h3] at h2; cases h2), fun z => by (rw [z, h4] at h2; cases h2), fun z => by (rw [z, h5] at h2; cases h2), fun z => by (rw [z, h6] at h2; cases h2),
    fun z => by (rw [z, h3] at h4; cases h4), fun z => by (rw [z, h5] at h4; cases h4), fun z => by (rw [z, h6] at h4; cases h4), h7, h8, h9⟩
theorem put_done (S : nAt K C st nd M H a) (hF : ∀ b, nF nd b → M b) (n : ∀ b, nF nd b → ∃ o, H b = some o ∧ MutO o) {vs ws : List V} {ds : List D} (hl : H nd.l3 = some (.lst vs)) (r : RpAll K M H ws ds) :
    Put nd M H (upd H nd.l3 (.lst ws)) ∧ nAt K C { st with done := ds } nd M (upd H nd.l3 (.lst ws)) a := by
  have p := Put.one (o := .lst ws) hF n (.inr (.inr (.inr (.inr rfl)))) trivial
  have A := S.apart
  obtain ⟨h1, ⟨dx, h2⟩, ⟨us, h3, r3⟩, h4, h5, _, h7⟩ := S
  exact ⟨p, h1, ⟨dx, by rw [upd_ne A.a3]; exact h2⟩, ⟨us, by rw [upd_ne A.l13]; exact h3, r3.step p.s⟩, by rw [upd_ne A.d3]; exact h4, by rw [upd_ne A.l23]; exact h5, ⟨ws, upd_same, r.step p.s⟩, h7⟩
theorem put_cs (S : nAt K C st nd M H a) (hF : ∀ b, nF nd b → M b) (n : ∀ b, nF nd b → ∃ o, H b = some o ∧ MutO o) {ws : List V} {ds : List D} (r : RpAll K M H ws ds) :
    Put nd M H (upd H nd.l1 (.lst ws)) ∧ nAt K C { st with cs := ds } nd M (upd H nd.l1 (.lst ws)) a := by
  have p := Put.one (o := .lst ws) hF n (.inr (.inl rfl)) trivial
  have A := S.apart
  obtain ⟨h1, ⟨dx, h2⟩, _, h4, h5, ⟨us, h3, r3⟩, h7⟩ := S
  exact ⟨p, h1, ⟨dx, by rw [upd_ne A.a1]; exact h2⟩, ⟨ws, upd_same, r.step p.s⟩, by rw [upd_ne A.d1]; exact h4, by rw [upd_ne A.l12.symm]; exact h5, ⟨us, by rw [upd_ne A.l13.symm]; exact h3, r3.step p.s⟩, h7⟩
theorem put_lost (S : nAt K C st nd M H a) (hF : ∀ b, nF nd b → M b) (n : ∀ b, nF nd b → ∃ o, H b = some o ∧ MutO o) (ns : List Int) :
    Put nd M H (upd H nd.l2 (.lst (ns.map V.int))) ∧ nAt K C { st with lost := ns } nd M (upd H nd.l2 (.lst (ns.map V.int))) a := by
  have p := Put.one (o := .lst (ns.map V.int)) hF n (.inr (.inr (.inr (.inl rfl)))) trivial
  have A := S.apart
  obtain ⟨h1, ⟨dx, h2⟩, ⟨us, h3, r3⟩, h4, h5, ⟨ws, h6, r6⟩, h7⟩ := S
  exact ⟨p, h1, ⟨dx, by rw [upd_ne A.a2]; exact h2⟩, ⟨us, by rw [upd_ne A.l12]; exact h3, r3.step p.s⟩, by rw [upd_ne A.d2]; exact h4, upd_same, ⟨ws, by rw [upd_ne A.l23.symm]; exact h6, r6.step p.s⟩, h7⟩
theorem put_ends (S : nAt K C st nd M H a) (hF : ∀ b, nF nd b → M b) (n : ∀ b, nF nd b → ∃ o, H b = some o ∧ MutO o) (es : List (Int × Int)) :
    Put nd M H (upd H nd.d (.dK (endKs es))) ∧ nAt K C { st with ends := es } nd M (upd H nd.d (.dK (endKs es))) a := by
  have p := Put.one (o := .dK (endKs es)) hF n (.inr (.inr (.inl rfl))) trivial
  have A := S.apart
  obtain ⟨h1, ⟨dx, h2⟩, ⟨us, h3, r3⟩, h4, h5, ⟨ws, h6, r6⟩, h7⟩ := S
  exact ⟨p, h1, ⟨dx, by rw [upd_ne A.ad]; exact h2⟩, ⟨us, by rw [upd_ne A.d1.symm]; exact h3, r3.step p.s⟩, upd_same, by rw [upd_ne A.d2.symm]; exact h5, ⟨ws, by rw [upd_ne A.d3.symm]; exact h6, r6.step p.s⟩, h7⟩
theorem put_time (S : nAt K C st nd M H a) (hF : ∀ b, nF nd b → M b) (n : ∀ b, nF nd b → ∃ o, H b = some o ∧ MutO o) (z : Int)
    (put : HO) (hput : ∃ dx', put = .ins C dx' (nflds nd z)) :
    Put nd M H (upd H nd.a put) ∧ nAt K C { st with now := z } nd M (upd H nd.a put) a := by
  obtain ⟨dx', rfl⟩ := hput
  have p := Put.one (o := .ins C dx' (nflds nd z)) hF n (.inl rfl) trivial
  have A := S.apart
  obtain ⟨h1, _, ⟨us, h3, r3⟩, h4, h5, ⟨ws, h6, r6⟩, h7⟩ := S
  exact ⟨p, h1, ⟨dx', upd_same⟩, ⟨us, by rw [upd_ne A.a1.symm]; exact h3, r3.step p.s⟩, by rw [upd_ne A.ad.symm]; exact h4, by rw [upd_ne A.a2.symm]; exact h5, ⟨ws, by rw [upd_ne A.a3.symm]; exact h6, r6.step p.s⟩, h7⟩
end
/-- a deed -/
inductive Deed where
  | light (n : Nat)
  | wait (k : Int)
  | get (c : D)
  | lose (n : Int)
def Deed.d : Deed → D
  | .light n => .tup [.str "light", .int (n : Int)]
  | .wait k => .tup [.str "wait", .int k]
  | .get c => .tup [.str "get", c]
  | .lose n => .tup [.str "lose", .int n]
def lenOf (cs : List D) (n : Nat) : Int := match cs[n]? with
  | some (.tup [.int l, .int _, .int _]) => l
  | _ => 0
theorem lenOf_at {cs : List D} {n : Nat} {l d p : Int} (h : cs[n]? = some (.tup [.int l, .int d, .int p])) : lenOf cs n = l := by
  unfold lenOf
  rw [h]
/-- what a deed makes of the night, but for the list of deeds -/
def turn (st : NSt) : Deed → NSt
  | .light n => { st with ends := st.ends ++ [((n : Int), st.now + lenOf st.cs n)] }
  | .wait k => { st with now := st.now + k }
  | .get c => { st with cs := st.cs ++ [c] }
  | .lose n => { st with lost := st.lost ++ [n] }
def after (st : NSt) (e : Deed) : NSt := { turn st e with done := st.done ++ [e.d] }
/-- what a deed asks to be carried out -/
def CanC (st : NSt) : Deed → Prop
  | .light n => (∃ l d p : Int, st.cs[n]? = some (.tup [.int l, .int d, .int p])) ∧ (n : Int) ∉ st.ends.map (·.1) ∧ st.ends.length < 1000
  | .wait _ => True
  | .get _ => st.cs.length < 1000
  | .lose _ => st.lost.length < 1000
section
variable {P : Program} {w : World} {K : PySem.W.Frag} {mg : Str → Option Value} {base : Heap} {C : Addr}
theorem sc_carry : FnScope ["self", "deed", "word", "thing"] ["self", "deed"] (defScope (s_n 14)) := ⟨rfl, rfl, rfl, by decide +kernel, rfl, by decide +kernel, by decide +kernel⟩
def sp_carry : OSp NSt := fun st xs Q => ∃ e : Deed, xs = [e.d] ∧ CanC st e ∧ st.done.length < 1000 ∧ Q .non (after st e)
theorem mono_carry : MonoO sp_carry := fun st xs P P' h ⟨e, a, b, c, q⟩ => ⟨e, a, b, c, h _ _ q⟩
theorem lk_time (nd : NdN) (z : Int) : (nflds nd z).length < 1000 := by show 5 < 1000; decide
theorem put_new {es : List (Int × Int)} {n y : Int} (h : n ∉ es.map (·.1)) : putK (endKs es) (Sum.inl n : L2.Key) (V.int y) = endKs (es ++ [(n, y)]) := by
  rw [putK_new _ (by have := valV_ends es n; rw [decide_eq_false h] at this; cases e : valV (endKs es) (Sum.inl n : L2.Key) with
    | none => rfl
    | some v => rw [e] at this; cases this)]
  unfold endKs
  rw [List.map_append]
  rfl
theorem ok_carry {f : Addr} {fd : FuncData} (F : Fun K "carry_out" "Night.carry_out" (s_n 14) f fd) (T : NTxt K mg C) : FnOk P w K mg base CX0 1 f fd ["self", "deed"] (liftOb K nF (nAt K C) sp_carry) := by
  refine F.ok sc_carry (fun vs H Q E h => ?_) (fun cdv A outer s H vs Q E hr h => ?_)
  · obtain ⟨M, nd, st, a, us, xs, rfl, _, _, _, r, e, rfl, _⟩ := h
    rw [List.length_cons, r.length]; rfl
  · obtain ⟨M, nd, st, a, us, xs, rfl, hM, hF, S, r, e, rfl, hc, hd, q⟩ := h
    cases r with
    | cons r0 r1 =>
      cases r1
      obtain rfl := S.self
      have hu := hu_of hr
      have n0 := n_same S hF hM
      -- the list of deeds at the end
      have fin : ∀ (u : V) (H' : Hp) (st' : NSt), Put nd M H H' → nAt K C st' nd M H' nd.a → Rp K M H u e.d → st'.done = st.done → { st' with done := st.done ++ [e.d] } = after st e → ∃ vs, H' nd.l3 = some (.lst vs) ∧ vs.length < sizeLine ∧ Q .non (upd H' nd.l3 (.lst (vs ++ [u]))) := fun u H' st' p S' ru e1 e2 => by
        obtain ⟨vs, h3, r3⟩ := S'.l3
        obtain ⟨p2, S2⟩ := put_done S' hF p.n h3 (RpAll.snoc r3 (ru.step p.s))
        rw [e1] at S2
        rw [e2] at S2
        refine ⟨vs, h3, ?_, q _ _ (p.trans p2).k (p.trans p2).n S2 .non⟩
        have := r3.length
        rw [e1] at this
        rw [this]
        exact small1000 (Nat.le_of_lt hd)
      refine ⟨_, pss_cons (ps_asg (pv 1) (pg_tup rfl (pgs_cons (pg_name (i := 2) sc_carry.nd rfl (Or.inl rfl)) (pgs_cons (pg_name (i := 3) sc_carry.nd rfl (Or.inl rfl)) pgs_nil))))
        (pss_cons (ps_if (pt_cmpR op_eq (pv 2) pe_str (nomark _))
          (pss_one (ps_dput hu (pe_fld (pv 0) rfl) (pv 3) (pe_op op_add (pe_fld (pv 0) rfl) (pe_ix ix_seq (pe_ix ix_seq (pe_fld (pv 0) rfl) (pv 3) (fun _ _ => rfl)) pe_int (fun _ _ => rfl))) rfl))
          (pss_one (ps_if (pt_cmpR op_eq (pv 2) pe_str (nomark _))
            (pss_one (ps_fldaug (pv 0) (pv 3) in_add))
            (pss_one (ps_if (pt_cmpR op_eq (pv 2) pe_str (nomark _))
              (pss_one (ps_expr (pe_bm PySem.F.plainAttrs_list PySem.F.slot_list_append PySem.F.type_list_append mt_append (pe_fld (pv 0) rfl) (pa_cons (pv 3) pa_nil))))
              (pss_one (ps_expr (pe_bm PySem.F.plainAttrs_list PySem.F.slot_list_append PySem.F.type_list_append mt_append (pe_fld (pv 0) rfl) (pa_cons (pv 3) pa_nil)))))))))
        (pss_one (ps_expr (pe_bm PySem.F.plainAttrs_list PySem.F.slot_list_append PySem.F.type_list_append mt_append (pe_fld (pv 0) rfl) (pa_cons (pv 1) pa_nil))))), ?_⟩
      obtain ⟨dx, h1⟩ := S.ob
      cases e with
      | wait k =>
        have ru := r0
        cases r0 with
        | tup ht rt =>
          cases rt with
          | cons a1 rt =>
            cases rt with
            | cons a2 rt =>
              cases rt
              cases a1
              cases a2
              rename_i t
              refine ⟨_, rfl, t, _, rfl, .of ht, rfl, _, _, rfl, _, _, rfl, rfl, ?_⟩
              refine ⟨_, rfl, rfl, _, rfl, ite_f (str_ne (by decide)) ?_⟩
              refine ⟨_, rfl, rfl, _, rfl, ite_t (decide_eq_true rfl) ?_⟩
              refine ⟨_, rfl, _, C, dx, _, _, rfl, h1, T.cl, T.nN, lk_now _ _, _, rfl, _, _, rfl, rfl, dx, _, h1, lk_time _ _, ?_⟩
              obtain ⟨p, S'⟩ := put_time S hF n0 (st.now + k) _ ⟨dx, rfl⟩
              obtain ⟨vs, e3, hz, z⟩ := fin _ _ _ p S' ru rfl rfl
              obtain ⟨dx2, h2⟩ := S'.ob
              exact ⟨_, rfl, _, C, dx2, _, _, rfl, h2, T.cl, T.nD, lk_done _ _, .inl ⟨rfl, _, SqL.of e3⟩, _, rfl, _, vs, _, rfl, rfl, e3, hz, z⟩
      | light n =>
        have ru := r0
        cases r0 with
        | tup ht rt =>
          cases rt with
          | cons a1 rt =>
            cases rt with
            | cons a2 rt =>
              cases rt
              cases a1
              cases a2
              rename_i t
              refine ⟨_, rfl, t, _, rfl, .of ht, rfl, _, _, rfl, _, _, rfl, rfl, ?_⟩
              refine ⟨_, rfl, rfl, _, rfl, ite_t (decide_eq_true rfl) ?_⟩
              obtain ⟨⟨l, d, p, hn⟩, hnew, hlen⟩ := hc
              obtain ⟨vs0, hl0, rr0⟩ := S.l1
              obtain ⟨v0, hv0, rv0⟩ := rr0.get hn
              refine ⟨_, rfl, _, C, dx, _, _, rfl, h1, T.cl, T.nN, lk_now _ _, ?_⟩
              refine ⟨_, rfl, _, C, dx, _, _, rfl, h1, T.cl, T.nC, lk_candles _ _, ?_⟩
              refine ⟨_, rfl, ?_⟩
              refine .inl ⟨_, vs0, (n : Int), v0, rfl, rfl, .of hl0, atI_nat hv0, ?_⟩
              cases rv0 with
              | tup ht0 rt0 =>
                rename_i t0 ws0
                cases rt0 with
                | cons b1 rt0 =>
                  cases b1
                  refine .inr (.inl ⟨t0, _, 0, .int l, rfl, rfl, .of ht0, atI_nat (j := 0) rfl, ?_⟩)
                  refine ⟨st.now, l, rfl, rfl, ?_⟩
                  refine ⟨_, rfl, _, C, dx, _, _, rfl, h1, T.cl, T.nE, lk_ends _ _, ?_⟩
                  obtain ⟨p, S'⟩ := put_ends S hF n0 (st.ends ++ [((n : Int), st.now + l)])
                  obtain ⟨vs, e3, hz, z⟩ := fin _ _ _ p S' ru rfl (by simp only [after, turn, lenOf_at hn])
                  refine ⟨_, rfl, nd.d, upd H nd.d (.dK (putK (endKs st.ends) (Sum.inl (n : Int) : L2.Key) (V.int (st.now + l)))), rfl, DPut.k (k := Sum.inl (n : Int)) S.d (by unfold endKs; rw [List.length_map]; exact small1000 (Nat.le_of_lt hlen)), ?_⟩
                  rw [put_new hnew]
                  obtain ⟨dx2, h2⟩ := S'.ob
                  exact ⟨_, rfl, _, C, dx2, _, _, rfl, h2, T.cl, T.nD, lk_done _ _, .inl ⟨rfl, _, SqL.of e3⟩, _, rfl, _, vs, _, rfl, rfl, e3, hz, z⟩
      | get c =>
        have ru := r0
        cases r0 with
        | tup ht rt =>
          cases rt with
          | cons a1 rt =>
            cases rt with
            | cons a2 rt =>
              cases rt
              cases a1
              rename_i t u
              refine ⟨_, rfl, t, _, rfl, .of ht, rfl, _, _, rfl, _, _, rfl, rfl, ?_⟩
              refine ⟨_, rfl, rfl, _, rfl, ite_f (str_ne (by decide)) ?_⟩
              refine ⟨_, rfl, rfl, _, rfl, ite_f (str_ne (by decide)) ?_⟩
              refine ⟨_, rfl, rfl, _, rfl, ite_t (decide_eq_true rfl) ?_⟩
              obtain ⟨vs0, hl0, rr0⟩ := S.l1
              refine ⟨_, rfl, _, C, dx, _, _, rfl, h1, T.cl, T.nC, lk_candles _ _, .inl ⟨rfl, _, SqL.of hl0⟩, _, rfl, _, vs0, _, rfl, rfl, hl0, (by rw [rr0.length]; exact small1000 (Nat.le_of_lt hc)), ?_⟩
              obtain ⟨p, S'⟩ := put_cs S hF n0 (RpAll.snoc rr0 a2)
              obtain ⟨vs, e3, hz, z⟩ := fin _ _ _ p S' ru rfl rfl
              obtain ⟨dx2, h2⟩ := S'.ob
              exact ⟨_, rfl, _, C, dx2, _, _, rfl, h2, T.cl, T.nD, lk_done _ _, .inl ⟨rfl, _, SqL.of e3⟩, _, rfl, _, vs, _, rfl, rfl, e3, hz, z⟩
      | lose n =>
        have ru := r0
        cases r0 with
        | tup ht rt =>
          cases rt with
          | cons a1 rt =>
            cases rt with
            | cons a2 rt =>
              cases rt
              cases a1
              cases a2
              rename_i t
              refine ⟨_, rfl, t, _, rfl, .of ht, rfl, _, _, rfl, _, _, rfl, rfl, ?_⟩
              refine ⟨_, rfl, rfl, _, rfl, ite_f (str_ne (by decide)) ?_⟩
              refine ⟨_, rfl, rfl, _, rfl, ite_f (str_ne (by decide)) ?_⟩
              refine ⟨_, rfl, rfl, _, rfl, ite_f (str_ne (by decide)) ?_⟩
              refine ⟨_, rfl, _, C, dx, _, _, rfl, h1, T.cl, T.nL, lk_lost _ _, .inl ⟨rfl, _, SqL.of S.l2⟩, _, rfl, _, _, _, rfl, rfl, S.l2, (by rw [List.length_map]; exact small1000 (Nat.le_of_lt hc)), ?_⟩
              obtain ⟨p, S'⟩ := put_lost S hF n0 (st.lost ++ [n])
              obtain ⟨vs, e3, hz, z⟩ := fin _ _ _ p S' ru rfl rfl
              rw [List.map_append] at p S' e3 z
              obtain ⟨dx2, h2⟩ := S'.ob
              exact ⟨_, rfl, _, C, dx2, _, _, rfl, h2, T.cl, T.nD, lk_done _ _, .inl ⟨rfl, _, SqL.of e3⟩, _, rfl, _, vs, _, rfl, rfl, e3, hz, z⟩
end
end FW
set_option Elab.async false
set_option linter.all false
set_option maxRecDepth 100000
set_option maxHeartbeats 4000000
/-! deeds taken back -/
namespace FW
open PySem PySem.Spec PyProof.Rows L2 AL
theorem RpAll.unsnoc {K : PySem.W.Frag} {M : Addr → Prop} {H : Hp} {ds : List D} {d : D} : ∀ {vs : List V}, RpAll K M H vs (ds ++ [d]) → ∃ ws u, vs = ws ++ [u] ∧ RpAll K M H ws ds ∧ Rp K M H u d := by
  induction ds with
  | nil =>
    intro vs h
    cases h with
    | cons h1 h2 => cases h2; exact ⟨[], _, rfl, .nil, h1⟩
  | cons x xs ih =>
    intro vs h
    cases h with
    | cons h1 h2 =>
      obtain ⟨ws, u, rfl, r, ru⟩ := ih h2
      exact ⟨_ :: ws, u, rfl, .cons h1 r, ru⟩
theorem last_snoc {α : Type} (ws : List α) (u : α) : (ws ++ [u])[(ws ++ [u]).length - 1]? = some u := by simp
theorem drop_new {es : List (Int × Int)} {n y : Int} (h : n ∉ es.map (·.1)) : dropK (endKs (es ++ [(n, y)])) (Sum.inl n : L2.Key) = endKs es := by
  unfold endKs dropK
  rw [List.map_append, List.filter_append]
  have e1 : List.filter (fun kv : L2.Key × V => decide (kv.1 ≠ Sum.inl n)) (es.map fun p => ((Sum.inl p.1 : L2.Key), V.int p.2)) = es.map fun p => ((Sum.inl p.1 : L2.Key), V.int p.2) := by
    rw [List.filter_eq_self]
    intro x hx
    obtain ⟨p, hp, rfl⟩ := List.mem_map.mp hx
    exact decide_eq_true fun z => h (List.mem_map.mpr ⟨p, hp, Sum.inl.inj z⟩)
  rw [e1]
  simp
theorem val_new {es : List (Int × Int)} {n y : Int} : (valV (endKs (es ++ [(n, y)])) (Sum.inl n : L2.Key)).isSome = true := by
  rw [valV_ends]
  exact decide_eq_true (List.mem_map.mpr ⟨(n, y), List.mem_append_right _ List.mem_cons_self, rfl⟩)
/-- n deeds lead from st0 here -/
inductive Runs (st0 : NSt) : Nat → NSt → Prop
  | zero : Runs st0 0 st0
  | succ {n : Nat} {st : NSt} {e : Deed} : Runs st0 n st → CanC st e → Runs st0 (n + 1) (after st e)
section
variable {P : Program} {w : World} {K : PySem.W.Frag} {mg : Str → Option Value} {base : Heap} {C : Addr}
theorem sc_take : FnScope ["self", "many", "_", "word", "thing"] ["self", "many"] (defScope (s_n 15)) := ⟨rfl, rfl, rfl, by decide +kernel, rfl, by decide +kernel, by decide +kernel⟩
def sp_take : OSp NSt := fun st xs Q => ∃ (st0 : NSt) (n : Nat), xs = [.int (n : Int)] ∧ n ≤ 100000 ∧ Runs st0 n st ∧ Q .non st0
theorem mono_take : MonoO sp_take := fun st xs P P' h ⟨st0, n, a, b, c, q⟩ => ⟨st0, n, a, b, c, h _ _ q⟩
theorem ok_take {f : Addr} {fd : FuncData} (F : Fun K "take_back" "Night.take_back" (s_n 15) f fd) (T : NTxt K mg C) (hrange : mg "range" = none) : FnOk P w K mg base CX0 1 f fd ["self", "many"] (liftOb K nF (nAt K C) sp_take) := by
  refine F.ok sc_take (fun vs H Q E h => ?_) (fun cdv A outer s H vs Q E hr h => ?_)
  · obtain ⟨M, nd, st, a, us, xs, rfl, _, _, _, r, st0, n, rfl, _⟩ := h
    rw [List.length_cons, r.length]; rfl
  · obtain ⟨M, nd, st, a, us, xs, rfl, hM, hF, S, r, st0, n, rfl, hn, hR, q⟩ := h
    cases r with
    | cons r0 r1 =>
      cases r1
      cases r0
      obtain rfl := S.self
      have hu := hu_of hr
      have n0 := n_same S hF hM
      refine ⟨_, pss_one (ps_for PassesOwn.never rfl (pi_range1 (by rfl) hrange (pa_cons (pv 1) pa_nil)) (pg_name (i := 2) sc_take.nd rfl (Or.inl rfl))
        (pss_cons (ps_asg (pe_bm0 PySem.F.plainAttrs_list PySem.F.slot_list_pop PySem.F.type_list_pop mt_pop (pe_fld (pv 0) rfl)) (pg_tup rfl (pgs_cons (pg_name (i := 3) sc_take.nd rfl (Or.inl rfl)) (pgs_cons (pg_name (i := 4) sc_take.nd rfl (Or.inl rfl)) pgs_nil))))
        (pss_one (ps_if (pt_cmpR op_eq (pv 3) pe_str (nomark _))
          (pss_one (ps_ddel (pe_fld (pv 0) rfl) (pv 4)))
          (pss_one (ps_if (pt_cmpR op_eq (pv 3) pe_str (nomark _))
            (pss_one (ps_fldaug (pv 0) (pv 4) in_sub))
            (pss_one (ps_if (pt_cmpR op_eq (pv 3) pe_str (nomark _))
              (pss_one (ps_expr (pe_bm0 PySem.F.plainAttrs_list PySem.F.slot_list_pop PySem.F.type_list_pop mt_pop (pe_fld (pv 0) rfl))))
              (pss_one (ps_expr (pe_bm0 PySem.F.plainAttrs_list PySem.F.slot_list_pop PySem.F.type_list_pop mt_pop (pe_fld (pv 0) rfl)))))))))))), ?_⟩
      refine ⟨_, rfl, (n : Int), rfl, by omega, by omega, for_range (lo := 0) (n := (n : Int).toNat) (fun i σ H2 => ∃ (st1 : NSt) (m : Nat) (x y z : Option V), σ = [some (.ref nd.a), some (.int (n : Int)), x, y, z] ∧ (∀ b, nF nd b → ∃ o, H2 b = some o ∧ MutO o) ∧ (∀ b o, ¬ nF nd b → H b = some o → H2 b = some o) ∧ nAt K C st1 nd M H2 nd.a ∧ m + i = n ∧ Runs st0 m st1)
        ⟨st, n, none, none, none, rfl, n0, fun b o _ h => h, S, rfl, hR⟩ ?_ ?_⟩
      · rintro i σ H2 hi ⟨st1, m, x, y, z, rfl, n2, k2, S2, hm, R⟩
        cases R with
        | zero => exfalso; omega
        | @succ m st2 e R hc =>
          obtain ⟨vs, h3, r3⟩ := S2.l3
          obtain ⟨ws, u, rfl, rw3, ru⟩ := RpAll.unsnoc r3
          obtain ⟨p, Sx⟩ := put_done S2 hF n2 h3 rw3
          obtain ⟨dx, h1⟩ := S2.ob
          obtain ⟨dx2, h2⟩ := Sx.ob
          have ed : (ws ++ [u]).dropLast = ws := List.dropLast_concat
          -- the end of a turn
          have fin : ∀ (x y z : Option V) (H' : Hp), Put nd M (upd H2 nd.l3 (.lst ws)) H' → nAt K C st2 nd M H' nd.a → ∃ (st1 : NSt) (m' : Nat) (x' y' z' : Option V), [some (V.ref nd.a), some (V.int (n : Int)), x, y, z] = [some (.ref nd.a), some (.int (n : Int)), x', y', z'] ∧ (∀ b, nF nd b → ∃ o, H' b = some o ∧ MutO o) ∧ (∀ b o, ¬ nF nd b → H b = some o → H' b = some o) ∧ nAt K C st1 nd M H' nd.a ∧ m' + (i + 1) = n ∧ Runs st0 m' st1 :=
            fun x y z H' p' S' => ⟨st2, m, x, y, z, rfl, p'.n, fun b o hb h => (p.trans p').k b o hb (k2 b o hb h), S', by omega, R⟩
          refine ⟨_, rfl, _, C, dx, _, _, rfl, h1, T.cl, T.nD, lk_done _ _, .inl ⟨rfl, _, SqL.of h3⟩, ?_⟩
          refine ⟨_, _, u, rfl, rfl, h3, last_snoc _ _, ?_⟩
          rw [ed]
          have ru2 := ru.step p.s
          cases e with
          | light j =>
            cases ru2 with
            | tup ht rt =>
              cases rt with
              | cons a1 rt =>
                cases rt with
                | cons a2 rt =>
                  cases rt
                  cases a1
                  cases a2
                  rename_i t
                  refine ⟨t, _, rfl, .of ht, rfl, _, _, rfl, _, _, rfl, rfl, ?_⟩
                  refine ⟨_, rfl, rfl, _, rfl, ite_t (decide_eq_true rfl) ?_⟩
                  obtain ⟨p', S'⟩ := put_ends Sx hF p.n st2.ends
                  refine ⟨_, rfl, _, C, dx2, _, _, rfl, h2, T.cl, T.nE, lk_ends _ _, ?_⟩
                  have hd2 : (upd H2 nd.l3 (.lst ws)) nd.d = some (.dK (endKs (st2.ends ++ [((j : Int), st2.now + lenOf st2.cs j)]))) := Sx.d
                  refine ⟨_, rfl, nd.d, endKs (st2.ends ++ [((j : Int), st2.now + lenOf st2.cs j)]), (Sum.inl (j : Int) : L2.Key), rfl, hd2, rfl, val_new, ?_⟩
                  rw [drop_new hc.2.1]
                  exact fin _ _ _ _ p' S'
          | wait k =>
            cases ru2 with
            | tup ht rt =>
              cases rt with
              | cons a1 rt =>
                cases rt with
                | cons a2 rt =>
                  cases rt
                  cases a1
                  cases a2
                  rename_i t
                  refine ⟨t, _, rfl, .of ht, rfl, _, _, rfl, _, _, rfl, rfl, ?_⟩
                  refine ⟨_, rfl, rfl, _, rfl, ite_f (str_ne (by decide)) ?_⟩
                  refine ⟨_, rfl, rfl, _, rfl, ite_t (decide_eq_true rfl) ?_⟩
                  obtain ⟨p', S'⟩ := put_time Sx hF p.n st2.now _ ⟨dx2, rfl⟩
                  have h2' : (upd H2 nd.l3 (.lst ws)) nd.a = some (.ins C dx2 (nflds nd (st2.now + k))) := h2
                  refine ⟨_, rfl, _, C, dx2, _, _, rfl, h2', T.cl, T.nN, lk_now _ (st2.now + k), _, rfl, st2.now + k, k, rfl, rfl, dx2, _, h2', lk_time _ _, ?_⟩
                  have ek : st2.now + k - k = st2.now := by omega
                  rw [put_now, ek]
                  exact fin _ _ _ _ p' S'
          | get c =>
            cases ru2 with
            | tup ht rt =>
              cases rt with
              | cons a1 rt =>
                cases rt with
                | cons a2 rt =>
                  cases rt
                  cases a1
                  rename_i t u2
                  refine ⟨t, _, rfl, .of ht, rfl, _, _, rfl, _, _, rfl, rfl, ?_⟩
                  refine ⟨_, rfl, rfl, _, rfl, ite_f (str_ne (by decide)) ?_⟩
                  refine ⟨_, rfl, rfl, _, rfl, ite_f (str_ne (by decide)) ?_⟩
                  refine ⟨_, rfl, rfl, _, rfl, ite_t (decide_eq_true rfl) ?_⟩
                  obtain ⟨vs1, hl1, rr1⟩ := Sx.l1
                  obtain ⟨ws1, u1, rfl, rw1, ru1⟩ := RpAll.unsnoc rr1
                  obtain ⟨p', S'⟩ := put_cs Sx hF p.n rw1
                  refine ⟨_, rfl, _, C, dx2, _, _, rfl, h2, T.cl, T.nC, lk_candles _ _, .inl ⟨rfl, _, SqL.of hl1⟩, _, _, u1, rfl, rfl, hl1, last_snoc _ _, ?_⟩
                  rw [show (ws1 ++ [u1]).dropLast = ws1 from List.dropLast_concat]
                  exact fin _ _ _ _ p' S'
          | lose j =>
            cases ru2 with
            | tup ht rt =>
              cases rt with
              | cons a1 rt =>
                cases rt with
                | cons a2 rt =>
                  cases rt
                  cases a1
                  cases a2
                  rename_i t
                  refine ⟨t, _, rfl, .of ht, rfl, _, _, rfl, _, _, rfl, rfl, ?_⟩
                  refine ⟨_, rfl, rfl, _, rfl, ite_f (str_ne (by decide)) ?_⟩
                  refine ⟨_, rfl, rfl, _, rfl, ite_f (str_ne (by decide)) ?_⟩
                  refine ⟨_, rfl, rfl, _, rfl, ite_f (str_ne (by decide)) ?_⟩
                  obtain ⟨p', S'⟩ := put_lost Sx hF p.n st2.lost
                  have hl2 : (upd H2 nd.l3 (.lst ws)) nd.l2 = some (.lst ((st2.lost ++ [j]).map V.int)) := Sx.l2
                  rw [show (st2.lost ++ [j]).map V.int = st2.lost.map V.int ++ [V.int j] from by rw [List.map_append]; rfl] at hl2
                  refine ⟨_, rfl, _, C, dx2, _, _, rfl, h2, T.cl, T.nL, lk_lost _ _, .inl ⟨rfl, _, SqL.of hl2⟩, _, _, V.int j, rfl, rfl, hl2, last_snoc _ _, ?_⟩
                  rw [show (st2.lost.map V.int ++ [V.int j]).dropLast = st2.lost.map V.int from List.dropLast_concat]
                  exact fin _ _ _ _ p' S'
      · rintro σ H2 ⟨st1, m, x, y, z, rfl, n2, k2, S2, hm, R⟩
        have em : m = 0 := by omega
        subst em
        cases R
        exact q _ H2 k2 n2 S2 .non
end
end FW
set_option Elab.async false
set_option linter.all false
set_option maxRecDepth 100000
set_option maxHeartbeats 4000000
/-! methods that call methods -/
namespace FW
open PySem PySem.Spec PyProof.Rows L2 AL
def lastOf (st : NSt) : Int := ((st.ends.map (·.2)).max?).getD 0
def sp_lasts : OSp NSt := fun st xs Q => xs = [] ∧ Q (.int (lastOf st)) st
theorem mono_lasts : MonoO sp_lasts := fun st xs P P' h q => ⟨q.1, h _ _ q.2⟩
section
variable {P : Program} {w : World} {K : PySem.W.Frag} {mg : Str → Option Value} {base : Heap} {C : Addr}
theorem sc_flame : FnScope ["self"] ["self"] (defScope (s_n 10)) := ⟨rfl, rfl, rfl, by decide +kernel, rfl, by decide +kernel, by decide +kernel⟩
def sp_flame : OSp NSt := fun st xs Q => xs = [] ∧ Q (.bl (decide (st.now ≤ lastOf st))) st
theorem mono_flame : MonoO sp_flame := fun st xs P P' h q => ⟨q.1, h _ _ q.2⟩
theorem ok_flame {f fL : Addr} {fd fdL : FuncData} (F : Fun K "has_flame" "Night.has_flame" (s_n 10) f fd) (T : NTxt K mg C) (mL : Meth K C "lasts" fL) (bL : Binds K fdL ["self"] []) (GL : FnOk P w K mg base CX0 1 fL fdL ["self"] (liftOb K nF (nAt K C) sp_lasts)) :
    FnOk P w K mg base CX0 2 f fd ["self"] (liftOb K nF (nAt K C) sp_flame) := by
  refine F.ok sc_flame (fun vs H Q E h => ?_) (fun cdv A outer s H vs Q E hr h => ?_)
  · obtain ⟨M, nd, st, a, us, xs, rfl, _, _, _, r, rfl, _⟩ := h
    cases r
    rfl
  · obtain ⟨M, nd, st, a, us, xs, rfl, hM, hF, S, r, rfl, q⟩ := h
    cases r
    obtain rfl := S.self
    obtain ⟨dx, h1⟩ := S.ob
    have hr1 : Room 1 _ := hr
    refine ⟨_, pss_one (ps_ret (pe_cmpR op_le (pe_fld (pv 0) rfl) (pe_meth0 (pv 0) T.cl mL GL hr1 bL .nil pass0) (nomark _))), ?_⟩
    refine ⟨_, rfl, _, C, dx, _, _, rfl, h1, T.cl, T.nN, lk_now _ _, ?_⟩
    refine ⟨_, rfl, _, dx, _, rfl, h1, nflds_no (by decide), ?_⟩
    refine ⟨M, nd, st, nd.a, [], [], rfl, hM, hF, S, .nil, rfl, ?_⟩
    intro v H' k n S' rv
    cases rv
    exact ⟨st.now, lastOf st, rfl, rfl, q _ H' k n S' (.bl _)⟩
theorem sc_back : FnScope ["self"] ["self"] (defScope (s_n 3)) := ⟨rfl, rfl, rfl, by decide +kernel, rfl, by decide +kernel, by decide +kernel⟩
def sp_back : OSp NSt := fun st xs Q => xs = [] ∧ ((st.done = [] ∧ Q (.bl false) st) ∨ ∃ st0 e, st = after st0 e ∧ CanC st0 e ∧ Q (.bl true) st0)
theorem mono_back : MonoO sp_back := fun st xs P P' h q => ⟨q.1, q.2.elim (fun z => .inl ⟨z.1, h _ _ z.2⟩) fun ⟨st0, e, a, b, c⟩ => .inr ⟨st0, e, a, b, h _ _ c⟩⟩
theorem ok_back {f fL : Addr} {fd fdL : FuncData} (F : Fun K "back" "Night.back" (s_n 3) f fd) (T : NTxt K mg C) (mL : Meth K C "take_back" fL) (bL : Binds K fdL ["self", "many"] []) (GL : FnOk P w K mg base CX0 1 fL fdL ["self", "many"] (liftOb K nF (nAt K C) sp_take)) :
    FnOk P w K mg base CX0 2 f fd ["self"] (liftOb K nF (nAt K C) sp_back) := by
  refine F.ok sc_back (fun vs H Q E h => ?_) (fun cdv A outer s H vs Q E hr h => ?_)
  · obtain ⟨M, nd, st, a, us, xs, rfl, _, _, _, r, rfl, _⟩ := h
    cases r
    rfl
  · obtain ⟨M, nd, st, a, us, xs, rfl, hM, hF, S, r, rfl, q⟩ := h
    cases r
    obtain rfl := S.self
    obtain ⟨dx, h1⟩ := S.ob
    have hr1 : Room 1 _ := hr
    refine ⟨_, pss_cons (ps_if (pt_not (pt_truth (pe_fld (pv 0) rfl) (by intro _; rfl))) (pss_one (ps_ret pe_bl)) pss_nil)
      (pss_cons (ps_expr (pe_meth (pv 0) T.cl mL GL hr1 bL .nil pass0 (pa_cons pe_int pa_nil)))
      (pss_one (ps_ret pe_bl))), ?_⟩
    obtain ⟨vs, h3, r3⟩ := S.l3
    refine ⟨_, rfl, _, C, dx, _, _, rfl, h1, T.cl, T.nD, lk_done _ _, !vs.isEmpty, ?_, ?_⟩
    · exact .inl ⟨vs, SqL.of h3, rfl⟩
    · rcases q with ⟨e, q⟩ | ⟨st0, e, e1, hc, q⟩
      · rw [e] at r3
        cases r3
        exact ite_t rfl (q _ H (fun b o _ h => h) (n_same S hF hM) S (.bl _))
      · have hv : vs.isEmpty = false := by
          rw [e1] at r3
          obtain ⟨ws, u, rfl, _, _⟩ := RpAll.unsnoc r3
          simp
        refine ite_f (by rw [hv]; rfl) ?_
        refine ⟨_, rfl, _, dx, _, rfl, h1, nflds_no (by decide), ?_⟩
        refine ⟨M, nd, st, nd.a, _, _, rfl, hM, hF, S, .cons (.int 1) .nil, st0, 1, rfl, by decide, ?_, ?_⟩
        · rw [e1]; exact .succ .zero hc
        · intro v H' k n S' rv
          exact q _ H' k n S' (.bl _)
end
end FW
set_option Elab.async false
set_option linter.all false
set_option maxRecDepth 100000
set_option maxHeartbeats 4000000
/-! the last end -/
namespace FW
open PySem PySem.Spec PyProof.Rows L2 AL
theorem maxD_of : ∀ {l : List Int} {m : Int}, m ∈ l → (∀ j ∈ l, j ≤ m) → l.max?.getD 0 = m := by
  intro l m h1 h2
  have e : l.max? = some m := List.max?_eq_some_iff.mpr ⟨h1, h2⟩
  rw [e]
  rfl
section
variable {P : Program} {w : World} {K : PySem.W.Frag} {mg : Str → Option Value} {base : Heap} {C : Addr}
theorem sc_lasts : FnScope ["self"] ["self"] (defScope (s_n 9)) := ⟨rfl, rfl, rfl, by decide +kernel, rfl, by decide +kernel, by decide +kernel⟩
theorem ok_lasts {f : Addr} {fd : FuncData} (F : Fun K "lasts" "Night.lasts" (s_n 9) f fd) (T : NTxt K mg C) (hmax : mg "max" = none) : FnOk P w K mg base CX0 1 f fd ["self"] (liftOb K nF (nAt K C) sp_lasts) := by
  refine F.ok sc_lasts (fun vs H Q E h => ?_) (fun cdv A outer s H vs Q E hr h => ?_)
  · obtain ⟨M, nd, st, a, us, xs, rfl, _, _, _, r, rfl, _⟩ := h
    cases r
    rfl
  · obtain ⟨M, nd, st, a, us, xs, rfl, hM, hF, S, r, rfl, q⟩ := h
    cases r
    obtain rfl := S.self
    obtain ⟨dx, h1⟩ := S.ob
    refine ⟨_, pss_one (ps_ret (pe_maxVals (z := 0) rfl (by rfl) hmax (pe_fld (pv 0) rfl))), ?_⟩
    have fin : ∀ m : Int, m = lastOf st → Q (.int m) H := fun m e => by
      subst e
      exact q _ H (fun b o _ h => h) (n_same S hF hM) S (.int _)
    refine ⟨_, rfl, _, C, dx, _, _, rfl, h1, T.cl, T.nE, lk_ends _ _, nd.d, _, st.ends.map (·.2), rfl, S.d, ?_, fun e => ?_, fun m hm hj => ?_⟩
    · unfold endKs
      rw [List.map_map, List.map_map]
      rfl
    · refine fin 0 ?_
      unfold lastOf
      rw [e]
      rfl
    · exact fin m (maxD_of hm hj).symm
end
end FW
set_option Elab.async false
set_option linter.all false
set_option maxRecDepth 100000
set_option maxHeartbeats 4000000
/-! best -/
namespace FW
open PySem PySem.Spec PyProof.Rows L2 AL
def dryB (st : NSt) (n : Nat) : Bool := match st.cs[n]? with
  | some (.tup [.int _, .int d, .int _]) => decide (st.now ≤ d)
  | _ => false
def unlitOf (st : NSt) : List D := ((List.range st.cs.length).filter fun n : Nat => dryB st n && leftB st (n : Int)).map fun n : Nat => D.int (n : Int)
def sp_unlit : OSp NSt := fun st xs Q => xs = [] ∧ (∀ x ∈ st.cs, ∃ l d p : Int, x = .tup [.int l, .int d, .int p]) ∧ st.cs.length < 1000 ∧ Q (.lst (unlitOf st)) st
theorem step_none {M : Addr → Prop} {H : Hp} : Step M H (fun _ => False) H := ⟨fun a o _ h => ⟨id, h⟩, fun a xs h => h, fun a o u h => h⟩
theorem mut_on {nd : NdN} {M : Addr → Prop} {H H1 : Hp} (hM : ∀ p, M p → ∃ o, H p = some o ∧ MutO o) (k : ∀ b o, ¬ nF nd b → H b = some o → H1 b = some o) (n : ∀ b, nF nd b → ∃ o, H1 b = some o ∧ MutO o) : ∀ p, M p → ∃ o, H1 p = some o ∧ MutO o := fun p hp => by
  by_cases h : nF nd p
  · exact n p h
  · obtain ⟨o, e, m⟩ := hM p hp
    exact ⟨o, k p o h e, m⟩
section
variable {P : Program} {w : World} {K : PySem.W.Frag} {mg : Str → Option Value} {base : Heap} {C : Addr}
theorem sc_best : FnScope ["self", "lasts"] ["self"] (defScope (s_n 4)) := ⟨rfl, rfl, rfl, by decide +kernel, rfl, by decide +kernel, by decide +kernel⟩
def sp_best (slf : ASp) : OSp NSt := fun st xs Q => xs = [] ∧ (∀ x ∈ st.cs, ∃ l d p : Int, x = .tup [.int l, .int d, .int p]) ∧ st.cs.length < 1000 ∧
  (¬ st.now ≤ lastOf st → Q (.int (lastOf st)) st) ∧ (st.now ≤ lastOf st → slf [.lst st.cs, .lst (unlitOf st), .int (lastOf st)] fun y => ∃ i, y = .int i ∧ Q (.int i) st)
theorem mono_best {slf : ASp} (sm : MonoA slf) : MonoO (sp_best slf) := fun st xs P P' h ⟨a, b, c, d, e⟩ => ⟨a, b, c, fun z => h _ _ (d z), fun z => sm _ _ _ (fun y ⟨i, e, q⟩ => ⟨i, e, h _ _ q⟩) (e z)⟩
theorem ok_best {slf : ASp} {kX : Nat} {f fL fF fU fX : Addr} {fd fdL fdF fdU fdX : FuncData} {pX : List Str} (sm : MonoA slf) (F : Fun K "best" "Night.best" (s_n 4) f fd) (T : NTxt K mg C)
    (mL : Meth K C "lasts" fL) (bL : Binds K fdL ["self"] []) (GL : FnOk P w K mg base CX0 1 fL fdL ["self"] (liftOb K nF (nAt K C) sp_lasts))
    (mF : Meth K C "has_flame" fF) (bF : Binds K fdF ["self"] []) (GF : FnOk P w K mg base CX0 2 fF fdF ["self"] (liftOb K nF (nAt K C) sp_flame))
    (mU : Meth K C "unlit" fU) (bU : Binds K fdU ["self"] []) (GU : FnOk P w K mg base CX0 2 fU fdU ["self"] (liftOb K nF (nAt K C) sp_unlit))
    (hX : mg "longest_from" = some (.ref fX)) (kpX : PySem.W.keepIn K (.ref fX) = true) (bX : Binds K fdX pX []) (GX : FnOk P w K mg base CX0 kX fX fdX pX (liftSp K slf)) (hk : 2 ≤ kX) :
    FnOk P w K mg base CX0 (kX + 1) f fd ["self"] (liftOb K nF (nAt K C) (sp_best slf)) := by
  refine F.ok sc_best (fun vs H Q E h => ?_) (fun cdv A outer s H vs Q E hr h => ?_)
  · obtain ⟨M, nd, st, a, us, xs, rfl, _, _, _, r, rfl, _⟩ := h
    cases r
    rfl
  · obtain ⟨M, nd, st, a, us, xs, rfl, hM, hF, S, r, rfl, hcs, hlen, q0, q1⟩ := h
    cases r
    obtain rfl := S.self
    obtain ⟨dx, h1⟩ := S.ob
    have hrX : Room kX _ := hr
    have hr2 : Room 2 _ := hrX.mono hk
    have hr1 : Room 1 _ := hr2.mono (by decide)
    refine ⟨_, pss_cons (ps_set (i := 1) sc_best.nd rfl (Or.inl rfl) (pe_meth0 (pv 0) T.cl mL GL hr1 bL .nil pass0))
      (pss_cons (ps_if (pt_not (pt_truth (pe_meth0 (pv 0) T.cl mF GF hr2 bF .nil pass0) (by intro _; rfl))) (pss_one (ps_ret (pv 1))) pss_nil)
      (pss_one (ps_ret (pe_call GX hrX (by rfl) hX kpX bX .nil pass0 (pa_cons (pe_fld (pv 0) rfl) (pa_cons (pe_meth0 (pv 0) T.cl mU GU hr2 bU .nil pass0) (pa_cons (pv 1) pa_nil))))))), ?_⟩
    refine ⟨_, rfl, _, dx, _, rfl, h1, nflds_no (by decide), ?_⟩
    refine ⟨M, nd, st, nd.a, [], [], rfl, hM, hF, S, .nil, rfl, ?_⟩
    intro v1 H1 k1 n1 S1 rv1
    cases rv1
    obtain ⟨dx1, g1⟩ := S1.ob
    have hM1 := mut_on hM k1 n1
    refine ⟨_, rfl, _, dx1, _, rfl, g1, nflds_no (by decide), ?_⟩
    refine ⟨M, nd, st, nd.a, [], [], rfl, hM1, hF, S1, .nil, rfl, ?_⟩
    intro v2 H2 k2 n2 S2 rv2
    cases rv2
    have k02 : ∀ b o, ¬ nF nd b → H b = some o → H2 b = some o := fun b o h e => k2 b o h (k1 b o h e)
    refine ⟨_, rfl, ?_⟩
    by_cases hd : st.now ≤ lastOf st
    · refine ite_f (by rw [decide_eq_true hd]; rfl) ?_
      obtain ⟨dx2, g2⟩ := S2.ob
      obtain ⟨vs, hl, rr⟩ := S2.l1
      refine ⟨_, rfl, _, C, dx2, _, _, rfl, g2, T.cl, T.nC, lk_candles _ _, ?_⟩
      refine ⟨_, rfl, _, dx2, _, rfl, g2, nflds_no (by decide), ?_⟩
      refine ⟨M, nd, st, nd.a, [], [], rfl, mut_on hM k02 n2, hF, S2, .nil, rfl, hcs, hlen, ?_⟩
      intro v3 H3 k3 n3 S3 rv3
      refine ⟨_, rfl, ?_⟩
      obtain ⟨vs3, hl3, rr3⟩ := S3.l1
      refine ⟨fun _ => False, [.lst st.cs, .lst (unlitOf st), .int (lastOf st)], fun p h => h.elim, .cons (.lst id hl3 (rr3.step step_none)) (.cons (rv3.step step_none) (.cons (.int _) .nil)), ?_⟩
      refine sm _ _ _ (fun y ⟨i, e, qq⟩ => ?_) (q1 hd)
      subst e
      intro v4 H4 s4 rv4
      cases rv4
      have hM3 := mut_on hM (fun b o h e => k3 b o h (k02 b o h e)) n3
      have n4 : ∀ b, nF nd b → ∃ o, H4 b = some o ∧ MutO o := fun b hb => let ⟨o, e, m⟩ := n3 b hb; ⟨o, s4 b o e, m⟩
      refine qq _ H4 (fun b o h e => s4 b o (k3 b o h (k02 b o h e))) n4 ((nAt_stab K C st nd).1 M H3 M _ _ (step_same s4) (fun b hb => ?_) S3) (.int _)
      obtain ⟨o, e, _⟩ := n3 b hb
      rw [e, s4 b o e]
    · refine ite_t (by rw [decide_eq_false hd]; rfl) ?_
      exact ⟨_, rfl, q0 hd _ H2 k02 n2 S2 (.int _)⟩
end
end FW
set_option Elab.async false
set_option linter.all false
set_option maxRecDepth 100000
set_option maxHeartbeats 4000000
/-! the unlit candles -/
namespace FW
open PySem PySem.Spec PyProof.Rows L2 AL
section
variable {P : Program} {w : World} {K : PySem.W.Frag} {mg : Str → Option Value} {base : Heap} {C : Addr}
theorem sc_unlit : FnScope ["self", "number"] ["self"] (defScope (s_n 7)) := ⟨rfl, rfl, rfl, by decide +kernel, rfl, by decide +kernel, by decide +kernel⟩
theorem ok_unlit {f fD fT : Addr} {fd fdD fdT : FuncData} (F : Fun K "unlit" "Night.unlit" (s_n 7) f fd) (T : NTxt K mg C) (hrange : mg "range" = none) (hlen : mg "len" = none)
    (mD : Meth K C "is_dry" fD) (bD : Binds K fdD ["self", "number"] []) (GD : FnOk P w K mg base CX0 1 fD fdD ["self", "number"] (liftOb K nF (nAt K C) sp_dry))
    (mT : Meth K C "is_left" fT) (bT : Binds K fdT ["self", "number"] []) (GT : FnOk P w K mg base CX0 1 fT fdT ["self", "number"] (liftOb K nF (nAt K C) sp_left)) :
    FnOk P w K mg base CX0 2 f fd ["self"] (liftOb K nF (nAt K C) sp_unlit) := by
  refine F.ok sc_unlit (fun vs H Q E h => ?_) (fun cdv A outer s H vs Q E hr h => ?_)
  · obtain ⟨M, nd, st, a, us, xs, rfl, _, _, _, r, rfl, _⟩ := h
    cases r
    rfl
  · obtain ⟨M, nd, st, a, us, xs, rfl, hM, hF, S, r, rfl, hcs, hl, q⟩ := h
    cases r
    obtain rfl := S.self
    obtain ⟨dx, h1⟩ := S.ob
    have hr1 : Room 1 _ := hr
    refine ⟨_, pss_one (ps_ret (pe_lc rfl sc_unlit.nd (pi_range1 (by rfl) hrange (pa_cons (pe_callB call_len_seq (by rfl) hlen PySem.boot_len (pa_cons (pe_fld (pv 0) rfl) pa_nil)) pa_nil)) (blkOk_by (N := ["self", "number"]) (sc := defScope (s_n 7)) (own := [("number", 1)]) (by decide +kernel))
      (fun _ _ _ _ _ => pg_name (i := 1) sc_unlit.nd rfl (Or.inl rfl))
      (fun _ _ _ _ _ => pts_one (PW.pt (pw_and (pt_val (pe_meth (pv 0) T.cl mD GD hr1 bD .nil pass0 (pa_cons (pv 1) pa_nil))) (pw_and1 (pt_val (pe_meth (pv 0) T.cl mT GT hr1 bT .nil pass0 (pa_cons (pv 1) pa_nil)))))))
      (fun _ _ _ _ _ => pv 1))), ?_⟩
    obtain ⟨vs, hl1, rr⟩ := S.l1
    have elen : vs.length = st.cs.length := rr.length
    refine ⟨_, rfl, _, C, dx, _, _, rfl, h1, T.cl, T.nC, lk_candles _ _, ?_⟩
    refine ⟨_, vs, rfl, .inl (.of hl1), ?_⟩
    refine ⟨(vs.length : Int), rfl, by omega, by omega, ?_⟩
    intro Dn hD
    have nD : ¬ nF nd Dn := fun z => by
      obtain ⟨o, e, _⟩ := n_same S hF hM Dn z
      rw [hD] at e; cases e
    obtain ⟨M', hM'⟩ : ∃ M' : Addr → Prop, ∀ p, M' p ↔ (M p ∨ p = Dn) := ⟨fun p => M p ∨ p = Dn, fun _ => Iff.rfl⟩
    have hF' : ∀ b, nF nd b → M' b := fun b hb => (hM' b).2 (.inl (hF b hb))
    have mm : ∀ {H2 : Hp} {acc : List V}, H2 Dn = some (.lst acc) → (∀ b o, ¬ nF nd b → H b = some o → H2 b = some o) → (∀ b, nF nd b → ∃ o, H2 b = some o ∧ MutO o) → ∀ p, M' p → ∃ o, H2 p = some o ∧ MutO o := fun hd k n p hp => by
      rcases (hM' p).1 hp with h | rfl
      · exact mut_on hM k n p h
      · exact ⟨_, hd, trivial⟩
    have nb0 : ∀ b o, ¬ M b → H b = some o → ¬ M' b := fun b o hb e z => by
      rcases (hM' b).1 z with h | h
      · exact hb h
      · rw [h, hD] at e
        cases e
    have st0 : Step M H M' (upd H Dn (.lst [])) := ⟨fun b o hb e => ⟨nb0 b o hb e, same_upd hD b o e⟩, fun b xs e => same_upd hD b _ e, fun b o u e => same_upd hD b _ e⟩
    refine lc_range (lo := 0) (n := (vs.length : Int).toNat) (fun i H2 => H2 Dn = some (.lst (((List.range i).filter fun n : Nat => dryB st n && leftB st (n : Int)).map fun n : Nat => V.int (n : Int))) ∧ (∀ b, nF nd b → ∃ o, H2 b = some o ∧ MutO o) ∧ (∀ b o, ¬ nF nd b → H b = some o → H2 b = some o) ∧ nAt K C st nd M' H2 nd.a)
      ⟨upd_same, ?_, ?_, ?_⟩ ?_ ?_
    · intro b hb
      obtain ⟨o, e, m⟩ := n_same S hF hM b hb
      exact ⟨o, same_upd hD b o e, m⟩
    · exact fun b o _ e => same_upd hD b o e
    · exact (nAt_stab K C st nd).1 M H M' _ _ st0 (fun b hb => upd_ne (fun z => nD (by rw [← z]; exact hb))) S
    · rintro i H2 hi ⟨hd2, n2, k2, S2⟩
      have e0 : (0 : Int) + (i : Int) = (i : Int) := Int.zero_add _
      show gName 1 (.int ((0 : Int) + (i : Int))) _ H2 _
      rw [e0]
      refine ⟨rfl, ?_⟩
      obtain ⟨dx2, g2⟩ := S2.ob
      have hil : i < st.cs.length := by omega
      have hn : st.cs[i]? = some st.cs[i] := List.getElem?_eq_getElem hil
      obtain ⟨l, d, p, e3⟩ := hcs _ (List.getElem_mem hil)
      rw [e3] at hn
      have edry : dryB st i = decide (st.now ≤ d) := by unfold dryB; rw [hn]
      have esucc : ((List.range (i + 1)).filter fun n : Nat => dryB st n && leftB st (n : Int)).map (fun n : Nat => V.int (n : Int)) = ((List.range i).filter fun n : Nat => dryB st n && leftB st (n : Int)).map (fun n : Nat => V.int (n : Int)) ++ (if (dryB st i && leftB st (i : Int)) = true then [V.int (i : Int)] else []) := by
        rw [List.range_succ, List.filter_append, List.map_append]
        cases h : (dryB st i && leftB st (i : Int)) <;> simp [h]
      refine ⟨_, rfl, _, dx2, _, rfl, g2, nflds_no (by decide), ?_⟩
      refine ⟨_, rfl, ?_⟩
      refine ⟨M', nd, st, nd.a, _, _, rfl, mm hd2 k2 n2, hF', S2, .cons (.int _) .nil, i, l, d, p, rfl, hn, ?_⟩
      intro v3 H3 k3 n3 S3 rv3
      cases rv3
      refine ⟨_, rfl, ?_⟩
      by_cases hdry : st.now ≤ d
      · refine ite_t (decide_eq_true hdry) ?_
        obtain ⟨dx3, g3⟩ := S3.ob
        refine ⟨_, rfl, _, dx3, _, rfl, g3, nflds_no (by decide), ?_⟩
        refine ⟨_, rfl, ?_⟩
        refine ⟨M', nd, st, nd.a, _, _, rfl, mm (k3 Dn _ nD hd2) (fun b o h e => k3 b o h (k2 b o h e)) n3, hF', S3, .cons (.int _) .nil, (i : Int), rfl, ?_⟩
        intro v4 H4 k4 n4 S4 rv4
        cases rv4
        refine ⟨_, rfl, ?_⟩
        have hd4 := k4 Dn _ nD (k3 Dn _ nD hd2)
        cases hleft : leftB st (i : Int) with
        | true =>
          refine ite_t rfl ?_
          refine ⟨_, rfl, _, hd4, ?_, ?_⟩
          · rw [List.length_map]
            refine small1000 (Nat.le_trans (List.length_filter_le _ _) ?_)
            rw [List.length_range]; omega
          · have nb : ∀ b, nF nd b → b ≠ Dn := fun b hb z => nD (by rw [← z]; exact hb)
            refine ⟨?_, fun b hb => ?_, fun b o hb e => ?_, ?_⟩
            · rw [upd_same, esucc, edry, decide_eq_true hdry, hleft]; rfl
            · rw [upd_ne (nb b hb)]; exact n4 b hb
            · rw [upd_ne (ne_of_none e hD)]; exact k4 b o hb (k3 b o hb (k2 b o hb e))
            · exact (nAt_stab K C st nd).1 M' H4 M' _ _ (step_upd ((hM' Dn).2 (.inr rfl)) hd4) (fun b hb => upd_ne (nb b hb)) S4
        | false =>
          refine ite_f rfl ?_
          refine ⟨?_, n4, fun b o hb e => k4 b o hb (k3 b o hb (k2 b o hb e)), S4⟩
          rw [esucc, edry, decide_eq_true hdry, hleft]
          simpa using hd4
      · refine ite_f (decide_eq_false hdry) ?_
        refine ite_f rfl ?_
        refine ⟨?_, n3, fun b o hb e => k3 b o hb (k2 b o hb e), S3⟩
        rw [esucc, edry, decide_eq_false hdry]
        simpa using k3 Dn _ nD hd2
    · rintro H2 ⟨hd2, n2, k2, S2⟩
      have nM : ¬ M Dn := fun z => by
        obtain ⟨o, e, _⟩ := hM Dn z
        rw [hD] at e; cases e
      have sb : Step M' H2 M H2 := ⟨fun b o hb e => ⟨fun z => hb ((hM' b).2 (.inl z)), e⟩, fun b xs e => e, fun b o u e => e⟩
      refine q _ H2 k2 n2 ((nAt_stab K C st nd).1 M' H2 M _ _ sb (fun b _ => rfl) S2) (.lst nM hd2 ?_)
      have en : ((vs.length : Int).toNat) = st.cs.length := by omega
      rw [en]
      have all : ∀ l : List Nat, RpAll K M H2 (l.map fun n : Nat => V.int (n : Int)) (l.map fun n : Nat => D.int (n : Int)) := fun l => by
        induction l with
        | nil => exact .nil
        | cons x r ih => exact .cons (.int _) ih
      exact all _
end
end FW
set_option Elab.async false
set_option linter.all false
set_option maxRecDepth 100000
set_option maxHeartbeats 4000000
/-! those that burn -/
namespace FW
open PySem PySem.Spec PyProof.Rows L2 AL
def burnOf (L : List (Int × Int)) (now : Int) : List D := (L.filter fun p => decide (now ≤ p.2)).map AL.pairD
def sp_burning : OSp NSt := fun st xs Q => xs = [] ∧ st.ends.length < 1000 ∧ ∀ L : List (Int × Int), L.Perm st.ends → L.Pairwise (fun p q => ¬ ltI q p) → Q (.lst (burnOf L st.now)) st
theorem mono_burning : MonoO sp_burning := fun st xs P P' h ⟨a, b, q⟩ => ⟨a, b, fun L h1 h2 => h _ _ (q L h1 h2)⟩
section
variable {P : Program} {w : World} {K : PySem.W.Frag} {mg : Str → Option Value} {base : Heap} {C : Addr}
theorem sc_burn : FnScope ["self", "number", "end"] ["self"] (defScope (s_n 6)) := ⟨rfl, rfl, rfl, by decide +kernel, rfl, by decide +kernel, by decide +kernel⟩
theorem ok_burning {f : Addr} {fd : FuncData} (F : Fun K "burning" "Night.burning" (s_n 6) f fd) (T : NTxt K mg C) (hsorted : mg "sorted" = none) : FnOk P w K mg base CX0 1 f fd ["self"] (liftOb K nF (nAt K C) sp_burning) := by
  refine F.ok sc_burn (fun vs H Q E h => ?_) (fun cdv A outer s H vs Q E hr h => ?_)
  · obtain ⟨M, nd, st, a, us, xs, rfl, _, _, _, r, rfl, _⟩ := h
    cases r
    rfl
  · obtain ⟨M, nd, st, a, us, xs, rfl, hM, hF, S, r, rfl, hlen, q⟩ := h
    cases r
    obtain rfl := S.self
    obtain ⟨dx, h1⟩ := S.ob
    refine ⟨_, pss_one (ps_ret (pe_lc rfl sc_burn.nd (g := gTup K 2 (gCons (gName 1) (gCons (gName 2) gNil))) (pi_list (pe_sortedItems rfl (pe_fld (pv 0) rfl) (by rfl) hsorted)) (blkOk_by (N := ["self", "number", "end"]) (sc := defScope (s_n 6)) (own := [("number", 1), ("end", 2)]) (by decide +kernel))
      (fun _ _ _ _ _ => pg_tup rfl (pgs_cons (pg_name (i := 1) sc_burn.nd rfl (Or.inl rfl)) (pgs_cons (pg_name (i := 2) sc_burn.nd rfl (Or.inl rfl)) pgs_nil)))
      (tt := tTest (tOp (rI0 fun i j => .bl (decide (j ≤ i))) (tVar 2) (tFld K (tVar 0) "now"))) (fun _ _ _ _ _ => pts_one (pt_cmpR op_ge (pv 2) (pe_fld (pv 0) rfl) (nomark _)))
      (fun _ _ _ _ _ => pe_tup (pa_cons (pv 1) (pa_cons (pv 2) pa_nil))))), ?_⟩
    refine ⟨_, rfl, _, C, dx, _, _, rfl, h1, T.cl, T.nE, lk_ends _ _, nd.d, st.ends, rfl, S.d, ?_⟩
    intro H' l zs k hp hs hl hlst hts
    have hzl : zs.length = st.ends.length := by have := hp.length_eq; rwa [List.length_map] at this
    refine ⟨l, rfl, ⟨_, SqL.of hlst⟩, ?_⟩
    intro Dn hD
    have kD : ∀ b o, H' b = some o → b ≠ Dn := fun b o e z => by rw [z, hD] at e; cases e
    refine lc_list (K := K) (a := l) (xs := zs.map fun z => V.ref z.1) (fun i H2 => (∀ b o, H' b = some o → H2 b = some o) ∧ ∃ acc, H2 Dn = some (.lst acc) ∧ RpAll K M H2 acc (burnOf ((zs.map (·.2)).take i) st.now)) ⟨fun b o e => ?_, [], upd_same, .nil⟩ ?_ ?_ ?_
    · rw [upd_ne (kD b o e)]; exact e
    · rintro i H2 _ ⟨k2, _⟩
      exact .of (k2 _ _ hlst)
    · rintro i x H2 hi ⟨k2, acc, hacc, racc⟩
      have hil : i < zs.length := by have := (List.getElem?_eq_some_iff.mp hi).1; rwa [List.length_map] at this
      rw [List.getElem?_map, List.getElem?_eq_getElem hil] at hi
      cases hi
      generalize hz : zs[i] = z
      have hzm : z ∈ zs := by rw [← hz]; exact List.getElem_mem _
      have ht := k2 _ _ (hts z hzm)
      have esucc : ((zs.map (·.2)).take (i + 1)) = (zs.map (·.2)).take i ++ [z.2] := by
        rw [List.take_succ, List.getElem?_map, List.getElem?_eq_getElem hil, hz]
        rfl
      have hal : acc.length < sizeLine := by
        rw [racc.length]
        unfold burnOf
        rw [List.length_map]
        refine small1000 (Nat.le_trans (List.length_filter_le _ _) ?_)
        rw [List.length_take]
        omega
      show gTup K 2 _ (V.ref z.1) _ H2 _
      refine ⟨z.1, _, rfl, .of ht, rfl, _, _, rfl, _, _, rfl, rfl, ?_⟩
      refine ⟨rfl, ?_⟩
      have g2 := k2 _ _ (k _ _ h1)
      refine ⟨_, rfl, _, rfl, _, C, dx, _, _, rfl, g2, T.cl, T.nN, lk_now _ _, ?_⟩
      refine ⟨_, _, rfl, rfl, _, rfl, ?_⟩
      by_cases hn : st.now ≤ z.2.2
      · refine ite_t (decide_eq_true hn) ?_
        refine ⟨_, rfl, _, rfl, (by show 2 ≤ sizeLine; decide), ?_⟩
        intro t2 ht2
        have sm := same_upd (o := .tup [V.int z.2.1, V.int z.2.2]) ht2
        have kt : ∀ b o, upd H2 t2 (.tup [V.int z.2.1, V.int z.2.2]) b = some o → b ≠ Dn → upd (upd H2 t2 (.tup [V.int z.2.1, V.int z.2.2])) Dn (.lst (acc ++ [.ref t2])) b = some o := fun b o e hb => by rw [upd_ne hb]; exact e
        refine ⟨acc, sm _ _ hacc, hal, fun b o e => ?_, acc ++ [.ref t2], upd_same, ?_⟩
        · exact kt b o (sm _ _ (k2 b o e)) (kD b o e)
        · have tne : t2 ≠ Dn := fun z => by rw [z, hacc] at ht2; cases ht2
          have st1 : Step (fun b => b = Dn) (upd H2 t2 (.tup [V.int z.2.1, V.int z.2.2])) (fun b => b = Dn) (upd (upd H2 t2 (.tup [V.int z.2.1, V.int z.2.2])) Dn (.lst (acc ++ [.ref t2]))) := by
            refine ⟨fun b o hb e => ⟨hb, kt b o e hb⟩, fun b xs e => kt b _ e (fun y => ?_), fun b o u e => kt b _ e (fun y => ?_)⟩
            · rw [y, sm _ _ hacc] at e; cases e
            · rw [y, sm _ _ hacc] at e; cases e
          have eb : burnOf ((zs.map (·.2)).take (i + 1)) st.now = burnOf ((zs.map (·.2)).take i) st.now ++ [AL.pairD z.2] := by
            rw [esucc]
            unfold burnOf
            rw [List.filter_append, List.map_append, List.filter_cons_of_pos (by simpa using hn)]
            rfl
          rw [eb]
          have tupOnly : ∀ (ds : List (Int × Int)) (vs : List V), RpAll K M H2 vs (ds.map AL.pairD) → RpAll K M (upd (upd H2 t2 (.tup [V.int z.2.1, V.int z.2.2])) Dn (.lst (acc ++ [.ref t2]))) vs (ds.map AL.pairD) := by
            intro ds
            induction ds with
            | nil => intro vs h; cases h; exact .nil
            | cons d r ih =>
              intro vs h
              cases h with
              | cons h1 h2 =>
                refine .cons ?_ (ih _ h2)
                cases h1 with
                | tup ha hr =>
                  cases hr with
                  | cons a1 hr =>
                    cases hr with
                    | cons a2 hr =>
                      cases hr
                      cases a1
                      cases a2
                      exact .tup (kt _ _ (sm _ _ ha) (fun y => by rw [y, hacc] at ha; cases ha)) (.cons (.int _) (.cons (.int _) .nil))
          refine RpAll.snoc (tupOnly _ _ racc) (.tup (kt t2 _ upd_same tne) (.cons (.int _) (.cons (.int _) .nil)))
      · refine ite_f (decide_eq_false hn) ?_
        refine ⟨k2, acc, hacc, ?_⟩
        have eb : burnOf ((zs.map (·.2)).take (i + 1)) st.now = burnOf ((zs.map (·.2)).take i) st.now := by
          rw [esucc]
          unfold burnOf
          rw [List.filter_append, List.filter_cons_of_neg (by simpa using hn)]
          simp
        rw [eb]
        exact racc
    · rintro H2 ⟨k2, acc, hacc, racc⟩
      have kk : ∀ b o, H b = some o → H2 b = some o := fun b o e => k2 b o (k b o e)
      have nM : ¬ M Dn := fun z => by
        obtain ⟨o, e, _⟩ := hM Dn z
        have := k _ _ e
        rw [hD] at this; cases this
      have et : (zs.map (·.2)).take (zs.map fun z => V.ref z.1).length = zs.map (·.2) := List.take_of_length_le (by rw [List.length_map, List.length_map]; exact Nat.le_refl _)
      rw [et] at racc
      refine q _ hp hs _ H2 (fun b o _ e => kk b o e) (fun b hb => ?_) ((nAt_stab K C st nd).1 M H M _ _ (step_same kk) (fun b hb => ?_) S) (.lst nM hacc racc)
      · obtain ⟨o, e, m⟩ := n_same S hF hM b hb
        exact ⟨o, kk b o e, m⟩
      · obtain ⟨o, e, m⟩ := n_same S hF hM b hb
        rw [e, kk b o e]
end
end FW
set_option Elab.async false
set_option linter.all false
set_option maxRecDepth 100000
set_option maxHeartbeats 4000000
/-! whether a deed can be done -/
namespace FW
open PySem PySem.Spec PyProof.Rows L2 AL
def sp_can (sW sC sN : ASp) : OSp NSt := fun st xs Q => ∃ (word : Str) (thing : D), xs = [.tup [.str word, thing]] ∧
  ((word = "wait" ∧ sW [thing, .int 1, .int 9999] fun y => ∃ b, y = .bl b ∧ Q (.bl b) st) ∨
   (word = "get" ∧ sC [thing] fun y => ∃ b, y = .bl b ∧ Q (.bl (b && decide (st.cs.length < 12))) st) ∨
   (word ≠ "wait" ∧ word ≠ "get" ∧ sN [.lst st.cs, thing] fun y => (y = .bl false ∧ Q (.bl false) st) ∨
     (y = .bl true ∧ ∃ (n : Nat) (l d p : Int), thing = .int n ∧ st.cs[n]? = some (.tup [.int l, .int d, .int p]) ∧ Q (.bl (leftB st n && (decide (word = "lose") || (decide (st.now ≤ d) && decide (st.now ≤ lastOf st))))) st)))
theorem mono_can {sW sC sN : ASp} (mW : MonoA sW) (mC : MonoA sC) (mN : MonoA sN) : MonoO (sp_can sW sC sN) := fun st xs P P' h ⟨w, t, e, q⟩ => ⟨w, t, e, by
  rcases q with ⟨a, q⟩ | ⟨a, q⟩ | ⟨a, b, q⟩
  · exact .inl ⟨a, mW _ _ _ (fun y ⟨b, e, q⟩ => ⟨b, e, h _ _ q⟩) q⟩
  · exact .inr (.inl ⟨a, mC _ _ _ (fun y ⟨b, e, q⟩ => ⟨b, e, h _ _ q⟩) q⟩)
  · refine .inr (.inr ⟨a, b, mN _ _ _ (fun y q => ?_) q⟩)
    rcases q with ⟨e, q⟩ | ⟨e, n, l, d, p, e2, hn, q⟩
    · exact .inl ⟨e, h _ _ q⟩
    · exact .inr ⟨e, n, l, d, p, e2, hn, h _ _ q⟩⟩
section
variable {P : Program} {w : World} {K : PySem.W.Frag} {mg : Str → Option Value} {base : Heap} {C : Addr}
/-- nothing but new objects: the object stands -/
theorem nAt.same {st : NSt} {nd : NdN} {M : Addr → Prop} {H H' : Hp} {a : Addr} (S : nAt K C st nd M H a) (s : Same H H') (n : ∀ b, nF nd b → ∃ o, H b = some o ∧ MutO o) : nAt K C st nd M H' a := (nAt_stab K C st nd).1 M H M _ _ (step_same s) (fun b hb => by obtain ⟨o, e, _⟩ := n b hb; rw [e, s b o e]) S
theorem sc_can : FnScope ["self", "deed", "word", "thing"] ["self", "deed"] (defScope (s_n 13)) := ⟨rfl, rfl, rfl, by decide +kernel, rfl, by decide +kernel, by decide +kernel⟩
theorem ok_can {sW sC sN : ASp} {kX : Nat} {f fW fC fN fT fD fF : Addr} {fd fdW fdC fdN fdT fdD fdF : FuncData} {pW pC pN : List Str} (mW : MonoA sW) (mC : MonoA sC) (mN : MonoA sN) (F : Fun K "can_do" "Night.can_do" (s_n 13) f fd) (T : NTxt K mg C) (hlen : mg "len" = none)
    (gW : ∃ t, mg "LONGEST_WAIT" = some (.int 9999 t)) (gM : ∃ t, mg "MOST_CANDLES" = some (.int 12 t))
    (hW : mg "is_within" = some (.ref fW)) (kpW : PySem.W.keepIn K (.ref fW) = true) (bW : Binds K fdW pW []) (GW : FnOk P w K mg base CX0 kX fW fdW pW (liftSp K sW))
    (hC : mg "is_candle" = some (.ref fC)) (kpC : PySem.W.keepIn K (.ref fC) = true) (bC : Binds K fdC pC []) (GC : FnOk P w K mg base CX0 kX fC fdC pC (liftSp K sC))
    (hN : mg "is_candle_number" = some (.ref fN)) (kpN : PySem.W.keepIn K (.ref fN) = true) (bN : Binds K fdN pN []) (GN : FnOk P w K mg base CX0 kX fN fdN pN (liftSp K sN)) (hk : 2 ≤ kX)
    (mT : Meth K C "is_left" fT) (bT : Binds K fdT ["self", "number"] []) (GT : FnOk P w K mg base CX0 1 fT fdT ["self", "number"] (liftOb K nF (nAt K C) sp_left))
    (mD : Meth K C "is_dry" fD) (bD : Binds K fdD ["self", "number"] []) (GD : FnOk P w K mg base CX0 1 fD fdD ["self", "number"] (liftOb K nF (nAt K C) sp_dry))
    (mF : Meth K C "has_flame" fF) (bF : Binds K fdF ["self"] []) (GF : FnOk P w K mg base CX0 2 fF fdF ["self"] (liftOb K nF (nAt K C) sp_flame)) :
    FnOk P w K mg base CX0 (kX + 1) f fd ["self", "deed"] (liftOb K nF (nAt K C) (sp_can sW sC sN)) := by
  refine F.ok sc_can (fun vs H Q E h => ?_) (fun cdv A outer s H vs Q E hr h => ?_)
  · obtain ⟨M, nd, st, a, us, xs, rfl, _, _, _, r, word, thing, rfl, _⟩ := h
    rw [List.length_cons, r.length]; rfl
  · obtain ⟨M, nd, st, a, us, xs, rfl, hM, hF, S, r, word, thing, rfl, q⟩ := h
    cases r with
    | cons r0 r1 =>
      cases r1
      obtain rfl := S.self
      have hrX : Room kX _ := hr
      have hr2 : Room 2 _ := hrX.mono hk
      have hr1 : Room 1 _ := hr2.mono (by decide)
      have n0 := n_same S hF hM
      have fin : ∀ (H' : Hp) (b : Bool), (∀ b o, ¬ nF nd b → H b = some o → H' b = some o) → (∀ b, nF nd b → ∃ o, H' b = some o ∧ MutO o) → nAt K C st nd M H' nd.a → (∀ v H', (∀ b o, ¬ nF nd b → H b = some o → H' b = some o) → (∀ b, nF nd b → ∃ o, H' b = some o ∧ MutO o) → nAt K C st nd M H' nd.a → Rp K M H' v (.bl b) → Q v H') → Q (.bl b) H' := fun H' b k n S' q => q _ H' k n S' (.bl b)
      refine ⟨_, pss_cons (ps_asg (pv 1) (pg_tup rfl (pgs_cons (pg_name (i := 2) sc_can.nd rfl (Or.inl rfl)) (pgs_cons (pg_name (i := 3) sc_can.nd rfl (Or.inl rfl)) pgs_nil))))
        (pss_cons (ps_if (pt_cmpR op_eq (pv 2) pe_str (nomark _)) (pss_one (ps_ret (pe_call GW hrX (by rfl) hW kpW bW .nil pass0 (pa_cons (pv 3) (pa_cons pe_int (pa_cons (pe_glob (v := .int 9999) (by rfl) gW.choose_spec ⟨_, rfl⟩) pa_nil)))))) pss_nil)
        (pss_cons (ps_if (pt_cmpR op_eq (pv 2) pe_str (nomark _)) (pss_one (ps_ret (pe_and (pe_call GC hrX (by rfl) hC kpC bC .nil pass0 (pa_cons (pv 3) pa_nil)) (pe_one (pe_cmpR op_lt (pe_callB call_len_seq (by rfl) hlen PySem.boot_len (pa_cons (pe_fld (pv 0) rfl) pa_nil)) (pe_glob (v := .int 12) (by rfl) gM.choose_spec ⟨_, rfl⟩) (nomark _)))))) pss_nil)
        (pss_cons (ps_if (PW.pt (pw_or (pt_not (pt_val (pe_call GN hrX (by rfl) hN kpN bN .nil pass0 (pa_cons (pe_fld (pv 0) rfl) (pa_cons (pv 3) pa_nil))))) (pw_or1 (pt_not (pt_val (pe_meth (pv 0) T.cl mT GT hr1 bT .nil pass0 (pa_cons (pv 3) pa_nil))))))) (pss_one (ps_ret pe_bl)) pss_nil)
        (pss_cons (ps_if (pt_cmpR op_eq (pv 2) pe_str (nomark _)) (pss_one (ps_ret pe_bl)) pss_nil)
        (pss_one (ps_ret (pe_and (pe_meth (pv 0) T.cl mD GD hr1 bD .nil pass0 (pa_cons (pv 3) pa_nil)) (pe_one (pe_meth0 (pv 0) T.cl mF GF hr2 bF .nil pass0))))))))), ?_⟩
      obtain ⟨dx, h1⟩ := S.ob
      cases r0 with
      | tup ht rt =>
        cases rt with
        | cons a1 rt =>
          cases rt with
          | cons a2 rt =>
            cases rt
            cases a1
            rename_i t u
            refine ⟨_, rfl, t, _, rfl, .of ht, rfl, _, _, rfl, _, _, rfl, rfl, ?_⟩
            refine ⟨_, rfl, rfl, _, rfl, ?_⟩
            rcases q with ⟨rfl, q⟩ | ⟨rfl, q⟩ | ⟨nw, ng, q⟩
            · refine ite_t (decide_eq_true rfl) ?_
              refine ⟨_, rfl, fun _ => False, [thing, .int 1, .int 9999], fun p h => h.elim, .cons (a2.step step_none) (.cons (.int _) (.cons (.int _) .nil)), ?_⟩
              refine mW _ _ _ (fun y ⟨b, e, qq⟩ => ?_) q
              subst e
              intro v1 H1 s1 rv1
              cases rv1
              refine fin H1 b (fun b o _ e => s1 b o e) (fun b hb => ?_) (S.same s1 n0) qq
              obtain ⟨o, e, m⟩ := n0 b hb
              exact ⟨o, s1 b o e, m⟩
            · refine ite_f (str_ne (by decide)) ?_
              refine ⟨_, rfl, rfl, _, rfl, ite_t (decide_eq_true rfl) ?_⟩
              refine ⟨_, rfl, fun _ => False, [thing], fun p h => h.elim, .cons (a2.step step_none) .nil, ?_⟩
              refine mC _ _ _ (fun y ⟨b, e, qq⟩ => ?_) q
              subst e
              intro v1 H1 s1 rv1
              cases rv1
              have n1 : ∀ b, nF nd b → ∃ o, H1 b = some o ∧ MutO o := fun b hb => let ⟨o, e, m⟩ := n0 b hb; ⟨o, s1 b o e, m⟩
              have S1 := S.same s1 n0
              refine ⟨_, rfl, ?_⟩
              cases b with
              | false => exact ite_f rfl (fin H1 _ (fun b o _ e => s1 b o e) n1 S1 qq)
              | true =>
                refine ite_t rfl ?_
                obtain ⟨dx1, g1⟩ := S1.ob
                obtain ⟨vs, hl, rr⟩ := S1.l1
                refine ⟨_, rfl, _, C, dx1, _, _, rfl, g1, T.cl, T.nC, lk_candles _ _, ?_⟩
                refine ⟨_, vs, rfl, .inl (.of hl), ?_⟩
                refine ⟨(vs.length : Int), 12, rfl, rfl, ?_⟩
                have e : (decide ((vs.length : Int) < 12)) = (true && decide (st.cs.length < 12)) := by
                  rw [rr.length, Bool.true_and]
                  by_cases h : st.cs.length < 12
                  · rw [decide_eq_true h, decide_eq_true (by omega)]
                  · rw [decide_eq_false h, decide_eq_false (by omega)]
                show Q (.bl (decide ((vs.length : Int) < 12))) H1
                rw [e]
                exact fin H1 _ (fun b o _ e => s1 b o e) n1 S1 qq
            · refine ite_f (str_ne nw) ?_
              refine ⟨_, rfl, rfl, _, rfl, ite_f (str_ne ng) ?_⟩
              obtain ⟨vs, hl, rr⟩ := S.l1
              refine ⟨_, rfl, _, C, dx, _, _, rfl, h1, T.cl, T.nC, lk_candles _ _, ?_⟩
              refine ⟨_, rfl, fun _ => False, [.lst st.cs, thing], fun p h => h.elim, .cons (.lst id hl (rr.step step_none)) (.cons (a2.step step_none) .nil), ?_⟩
              refine mN _ _ _ (fun y qq => ?_) q
              rcases qq with ⟨rfl, qq⟩ | ⟨rfl, n, l, d, p, rfl, hn, qq⟩
              · intro v1 H1 s1 rv1
                cases rv1
                have n1 : ∀ b, nF nd b → ∃ o, H1 b = some o ∧ MutO o := fun b hb => let ⟨o, e, m⟩ := n0 b hb; ⟨o, s1 b o e, m⟩
                refine ⟨_, rfl, ite_t rfl (ite_t rfl ?_)⟩
                exact fin H1 _ (fun b o _ e => s1 b o e) n1 (S.same s1 n0) qq
              · intro v1 H1 s1 rv1
                cases rv1
                cases a2
                have n1 : ∀ b, nF nd b → ∃ o, H1 b = some o ∧ MutO o := fun b hb => let ⟨o, e, m⟩ := n0 b hb; ⟨o, s1 b o e, m⟩
                have S1 := S.same s1 n0
                have k1 : ∀ b o, ¬ nF nd b → H b = some o → H1 b = some o := fun b o _ e => s1 b o e
                refine ⟨_, rfl, ite_f rfl ?_⟩
                obtain ⟨dx1, g1⟩ := S1.ob
                refine ⟨_, rfl, _, dx1, _, rfl, g1, nflds_no (by decide), ?_⟩
                refine ⟨_, rfl, ?_⟩
                refine ⟨M, nd, st, nd.a, _, _, rfl, mut_on hM k1 n1, hF, S1, .cons (.int _) .nil, (n : Int), rfl, ?_⟩
                intro v2 H2 k2 n2 S2 rv2
                cases rv2
                have k02 : ∀ b o, ¬ nF nd b → H b = some o → H2 b = some o := fun b o h e => k2 b o h (k1 b o h e)
                refine ⟨_, rfl, ?_⟩
                cases hleft : leftB st (n : Int) with
                | false =>
                  refine ite_t rfl ?_
                  rw [hleft] at qq
                  exact fin H2 _ k02 n2 S2 qq
                | true =>
                  rw [hleft, Bool.true_and] at qq
                  refine ite_f rfl ?_
                  refine ⟨_, rfl, rfl, _, rfl, ?_⟩
                  by_cases hw : word = "lose"
                  · subst hw
                    refine ite_t (decide_eq_true rfl) ?_
                    rw [decide_eq_true rfl, Bool.true_or] at qq
                    exact fin H2 _ k02 n2 S2 qq
                  · refine ite_f (str_ne hw) ?_
                    rw [decide_eq_false hw, Bool.false_or] at qq
                    obtain ⟨dx2, g2⟩ := S2.ob
                    refine ⟨_, rfl, _, dx2, _, rfl, g2, nflds_no (by decide), ?_⟩
                    refine ⟨_, rfl, ?_⟩
                    refine ⟨M, nd, st, nd.a, _, _, rfl, mut_on hM k02 n2, hF, S2, .cons (.int _) .nil, n, l, d, p, rfl, hn, ?_⟩
                    intro v3 H3 k3 n3 S3 rv3
                    cases rv3
                    have k03 : ∀ b o, ¬ nF nd b → H b = some o → H3 b = some o := fun b o h e => k3 b o h (k02 b o h e)
                    refine ⟨_, rfl, ?_⟩
                    by_cases hd : st.now ≤ d
                    · refine ite_t (decide_eq_true hd) ?_
                      rw [decide_eq_true hd, Bool.true_and] at qq
                      obtain ⟨dx3, g3⟩ := S3.ob
                      refine ⟨_, rfl, _, dx3, _, rfl, g3, nflds_no (by decide), ?_⟩
                      refine ⟨M, nd, st, nd.a, [], [], rfl, mut_on hM k03 n3, hF, S3, .nil, rfl, ?_⟩
                      intro v4 H4 k4 n4 S4 rv4
                      cases rv4
                      exact fin H4 _ (fun b o h e => k4 b o h (k03 b o h e)) n4 S4 qq
                    · refine ite_f (decide_eq_false hd) ?_
                      rw [decide_eq_false hd, Bool.false_and] at qq
                      exact fin H3 _ k03 n3 S3 qq
end
end FW
set_option Elab.async false
set_option linter.all false
set_option maxRecDepth 100000
set_option maxHeartbeats 4000000
/-! a deed's form; a deed done -/
namespace FW
open PySem PySem.Spec PyProof.Rows L2 AL
abbrev s_is_deed : Stmt := topS 25
abbrev N_is_deed : List Str := ["deed"]
abbrev p_is_deed : List Str := ["deed"]
theorem sc_is_deed : FnScope N_is_deed p_is_deed (defScope s_is_deed) := ⟨rfl, rfl, rfl, by decide +kernel, rfl, by decide +kernel, by decide +kernel⟩
def wordsL : List Str := ["light", "wait", "get", "lose"]
/-- in the module's tuple of words -/
def kInW (wa : Addr) : K2 := fun x y P => ∃ s : Str, x = .str s ∧ y = .raw (.ref wa) ∧ P (.bl (decide (s ∈ wordsL)))
theorem kInW_mono {wa : Addr} : Mono2 (kInW wa) := fun x y P P' h ⟨s, a, b, q⟩ => ⟨s, a, b, h _ q⟩
theorem inV_strs (s : Str) : ∀ l : List Str, inV (.str s) (l.map V.str) = decide (s ∈ l)
  | [] => by simp [inV]
  | k :: r => by
    have ih := inV_strs s r
    unfold inV at ih ⊢
    rw [List.map_cons, List.any_cons, ih]
    by_cases h : s = k
    · subst h; simp [eqV]
    · have h2 : ¬ k = s := fun z => h z.symm
      simp [h, h2, eqV]
theorem kInW_op {K : PySem.W.Frag} {wa : Addr} (hw : ∀ H, SqT K H wa (wordsL.map V.str)) : Op2 K (rIn K false) (kInW wa) := fun M H v u x y P Q rx ry hM ⟨s, e1, e2, p⟩ fin => by
  subst e1 e2
  obtain rfl := rx.str
  obtain rfl := ry.raw
  refine ⟨wa, _, rfl, .inr (hw H), rfl, ?_, ?_⟩
  · rw [List.all_map, List.all_eq_true]; intro _ _; rfl
  · rw [inV_strs]
    exact fin _ _ _ p (fun b o e => e) (.bl _)
def deedB (d : D) : Bool := match d with
  | .tup [.str w, _] => decide (w ∈ wordsL)
  | _ => false
/-- may be asked of -/
def okDeed (d : D) : Prop := d.isRaw = false ∧ ∀ x y, d = .tup [x, y] → ∃ w, x = .str w
def sp_is_deed : ASp := fsp (fun d : D => [d]) okDeed fun d => .bl (deedB d)
theorem mono_is_deed : MonoA sp_is_deed := fsp_mono
def w_is_deed (wa : Addr) : WS := wRet (wAndV (wCl kIsi (wCons (wVar 0) (wCons (wC (.raw (.ty "tuple"))) wNil))) (wAndV (wOp kEq (w2e (wUn kLen (wVarB 0)) (wC (.int 2)))) (wOp (kInW wa) (w2e (wOp kIx (w2v 0 (wC (.int 0)))) (wC (.raw (.ref wa)))))))
theorem b_is_deed {P : Program} {w : World} {K : PySem.W.Frag} {mg : Str → Option Value} {base : Heap} {wa : Addr} (z : Zs mg) (gw : mg "WORDS" = some (.ref wa)) (hw : ∀ H, SqT K H wa (wordsL.map V.str)) (f : Addr) (cdv : Value) (A : Around) (outer : List PySem.Env) (s₀ : Shared) (H : Hp) (E : XK) (M W : Addr → Prop) (H0 T : Hp) [ClOk ⟨K, M, W, H0, T, none⟩] (hr : Room 0 (A.deeper (envOfC "is_deed" (defScope s_is_deed) s₀.heap.objs.size f cdv))) :
    QSs (cxOf CX0 P w K mg base N_is_deed "is_deed" (defScope s_is_deed) f cdv A outer s₀ H E).nox ⟨K, M, W, H0, T, none⟩ (defBody s_is_deed) (w_is_deed wa) := by
  exact (qss_one (qs_ret (qe_and (qe_callB call_isiA kIsi_op kIsi_mono (by rfl) z.isinstance_ (by decide +kernel) (qa_cons (qv 0) (qa_cons (qe_ty (by rfl) z.tuple_ (by decide +kernel)) qa_nil))) (qe_and (qe_cmp (op_eqD hr.units) kEq_op kEq_mono (q2_e (qe_b1 call_len_seq kLen_op kLen_mono (by rfl) z.len_ (by decide +kernel) (qvb 0)) (QE.qb qe_int)) (nomark _)) (qe_one (qe_cmp op_in_seq (kInW_op hw) kInW_mono (q2_e (qe_ix ix_seq kIx_op kIx_mono (q2v 0 (QE.qb qe_int)) (fun _ _ => rfl)) (QE.qb (qe_glob (v := .ref wa) (by rfl) gw rfl (fun _ _ => .raw _)))) (by rfl)))))))
theorem read_is_deed {wa : Addr} : ∀ xs Q, sp_is_deed xs Q → w_is_deed wa { nx := fun _ => Q .non, rt := fun y _ => Q y } (startE N_is_deed [] xs) := by
  rintro xs Q ⟨d, rfl, ⟨hr, hx⟩, q⟩
  cases d with
  | raw v => cases hr
  | dct v => cases hr
  | scr v => cases hr
  | bl b => exact ⟨rfl, false, (by decide +kernel : kitB "bool" "tuple" = some false), q⟩
  | int i => exact ⟨rfl, false, kb_it, q⟩
  | non => exact ⟨rfl, false, kb_nt, q⟩
  | str s => exact ⟨rfl, false, (by decide +kernel : kitB "str" "tuple" = some false), q⟩
  | lst s => exact ⟨rfl, false, kb_lt, q⟩
  | tup ds =>
    refine ⟨rfl, true, kb_tt, ?_⟩
    refine ⟨rfl, rfl, ?_⟩
    show isB (.bl (eqD (.int (ds.length : Int)) (.int 2))) _
    rw [eqD_int]
    by_cases h : (ds.length : Int) = 2
    · rw [decide_eq_true h]
      match ds, h with
      | [x, y], _ =>
        obtain ⟨w, rfl⟩ := hx x y rfl
        exact ⟨.str w, rfl, w, rfl, rfl, q⟩
    · rw [decide_eq_false h]
      have e : deedB (.tup ds) = false := by
        match ds, h with
        | [], _ => rfl
        | [x], _ => cases x <;> rfl
        | x :: y :: z :: r, _ => cases x <;> rfl
        | [x, y], h => exact absurd rfl h
      have q : Q (.bl (deedB (.tup ds))) := q
      rw [e] at q
      exact q
theorem ok_is_deed {P : Program} {w : World} {K : PySem.W.Frag} {mg : Str → Option Value} {base : Heap} {wa : Addr} (z : Zs mg) (gw : mg "WORDS" = some (.ref wa)) (hw : ∀ H, SqT K H wa (wordsL.map V.str)) (dn : Dn K mg "is_deed" p_is_deed s_is_deed) : Ok P w K mg base 1 "is_deed" p_is_deed (liftSp K sp_is_deed) := by
  obtain ⟨f, fd, F, m, B⟩ := dn.ex
  exact ⟨f, fd, fn_ok F sc_is_deed (by rintro _ _ ⟨_, rfl, _⟩; rfl) (fun cdv A outer s₀ H E M W H0 T _ hr => b_is_deed z gw hw f cdv A outer s₀ H E M W H0 T hr) read_is_deed, m, F.kp, B⟩
end FW
set_option Elab.async false
set_option linter.all false
set_option maxRecDepth 100000
set_option maxHeartbeats 4000000
/-! a deed done; a night made -/
namespace FW
open PySem PySem.Spec PyProof.Rows L2 AL
/-- as Step, but for one object that is no list -/
structure StepA (a : Addr) (M : Addr → Prop) (H : Hp) (M' : Addr → Prop) (H' : Hp) : Prop where
  st : ∀ b o, b ≠ a → ¬ M b → H b = some o → ¬ M' b ∧ H' b = some o
  tu : ∀ b xs, H b = some (.tup xs) → H' b = some (.tup xs)
  fz : ∀ b o u, H b = some (.frz o u) → H' b = some (.frz o u)
  no : ∀ xs, H a ≠ some (.lst xs)
theorem ScrAt.stepA {K : PySem.W.Frag} {a : Addr} {M M' : Addr → Prop} {H H' : Hp} {b : Addr} {ns : List Int} (s : StepA a M H M' H') (h : ScrAt K M H b ns) : ScrAt K M' H' b ns := by
  rcases h with h | ⟨o, h⟩ | h
  · exact .inl (s.st _ _ (fun z => s.no _ (z ▸ h.2)) h.1 h.2)
  · exact .inr (.inl ⟨o, s.fz _ _ _ h⟩)
  · exact .inr (.inr h)
mutual
theorem Rp.stepA {K : PySem.W.Frag} {a : Addr} {M M' : Addr → Prop} {H H' : Hp} (s : StepA a M H M' H') : ∀ {d : D} {v : V}, Rp K M H v d → Rp K M' H' v d
  | _, _, .non => .non
  | _, _, .bl b => .bl b
  | _, _, .int i => .int i
  | _, _, .str x => .str x
  | _, _, .tup h r => .tup (s.tu _ _ h) (RpAll.stepA s r)
  | _, _, .lst hm h r => .lst (s.st _ _ (fun z => s.no _ (z ▸ h)) hm h).1 (s.st _ _ (fun z => s.no _ (z ▸ h)) hm h).2 (RpAll.stepA s r)
  | _, _, .scr h => .scr (ScrAt.stepA s h)
  | _, _, .raw v => .raw v
  | _, _, .dct h => .dct (s.fz _ _ _ h)
theorem RpAll.stepA {K : PySem.W.Frag} {a : Addr} {M M' : Addr → Prop} {H H' : Hp} (s : StepA a M H M' H') : ∀ {ds : List D} {vs : List V}, RpAll K M H vs ds → RpAll K M' H' vs ds
  | _, _, .nil => .nil
  | _, _, .cons h r => .cons (Rp.stepA s h) (RpAll.stepA s r)
end
theorem deed_okB (e : Deed) : okDeed e.d ∧ deedB e.d = true := by
  refine ⟨⟨by cases e <;> rfl, fun x y h => ?_⟩, ?_⟩
  · cases e <;> (cases h; exact ⟨_, rfl⟩)
  · cases e <;> rfl
/-- a deed that can be done -/
def sp_do (sCan sBest : OSp NSt) : OSp NSt := fun st xs Q => ∃ e : Deed, xs = [e.d] ∧ CanC st e ∧ st.done.length < 1000 ∧ sCan st [e.d] fun y st' => y = .bl true ∧ st' = st ∧ sBest (after st e) [] fun y st'' => Q y st''
theorem mono_do {sCan sBest : OSp NSt} (mC : MonoO sCan) (mB : MonoO sBest) : MonoO (sp_do sCan sBest) := fun st xs P P' h ⟨e, a, c, d, q⟩ => ⟨e, a, c, d, mC _ _ _ _ (fun y st' ⟨x, z, q⟩ => ⟨x, z, mB _ _ _ _ h q⟩) q⟩
def sp_init (sK : ASp) : ISp NSt := fun xs Q => ∃ cs : List D, xs = [.tup cs] ∧ sK [.tup cs] fun _ => Q ⟨cs, [], [], 0, []⟩
theorem mono_init {sK : ASp} (mK : MonoA sK) : MonoI (sp_init sK) := fun xs P P' h ⟨cs, a, q⟩ => ⟨cs, a, mK _ _ _ (fun y q => h _ q) q⟩
section
variable {P : Program} {w : World} {K : PySem.W.Frag} {mg : Str → Option Value} {base : Heap} {C : Addr}
theorem sc_do : FnScope ["self", "deed"] ["self", "deed"] (defScope (s_n 1)) := ⟨rfl, rfl, rfl, by decide +kernel, rfl, by decide +kernel, by decide +kernel⟩
theorem ok_do {sCan sBest : OSp NSt} {kC kB : Nat} {f fI fC fY fB : Addr} {fd fdI fdC fdY fdB : FuncData} (mC : MonoO sCan) (mB : MonoO sBest) (F : Fun K "do" "Night.do" (s_n 1) f fd) (T : NTxt K mg C)
    (hI : mg "is_deed" = some (.ref fI)) (kpI : PySem.W.keepIn K (.ref fI) = true) (bI : Binds K fdI ["deed"] []) (GI : FnOk P w K mg base CX0 1 fI fdI ["deed"] (liftSp K sp_is_deed))
    (tC : Meth K C "can_do" fC) (bC : Binds K fdC ["self", "deed"] []) (GC : FnOk P w K mg base CX0 kC fC fdC ["self", "deed"] (liftOb K nF (nAt K C) sCan))
    (tY : Meth K C "carry_out" fY) (bY : Binds K fdY ["self", "deed"] []) (GY : FnOk P w K mg base CX0 1 fY fdY ["self", "deed"] (liftOb K nF (nAt K C) sp_carry))
    (tB : Meth K C "best" fB) (bB : Binds K fdB ["self"] []) (GB : FnOk P w K mg base CX0 kB fB fdB ["self"] (liftOb K nF (nAt K C) sBest)) (h1 : 1 ≤ kB) (h2 : kC ≤ kB) :
    FnOk P w K mg base CX0 (kB + 1) f fd ["self", "deed"] (liftOb K nF (nAt K C) (sp_do sCan sBest)) := by
  refine F.ok sc_do (fun vs H Q E h => ?_) (fun cdv A outer s H vs Q E hr h => ?_)
  · obtain ⟨M, nd, st, a, us, xs, rfl, _, _, _, r, e, rfl, _⟩ := h
    rw [List.length_cons, r.length]; rfl
  · obtain ⟨M, nd, st, a, us, xs, rfl, hM, hF, S, r, e, rfl, hcan, hdone, q⟩ := h
    cases r with
    | cons r0 r1 =>
      cases r1
      obtain rfl := S.self
      have hrB : Room kB _ := hr
      have hrC : Room kC _ := hrB.mono h2
      have hr1 : Room 1 _ := hrB.mono h1
      have n0 := n_same S hF hM
      refine ⟨_, pss_cons (ps_if (PW.pt (pw_or (pt_not (pt_val (pe_call GI hr1 (by rfl) hI kpI bI .nil pass0 (pa_cons (pv 1) pa_nil)))) (pw_or1 (pt_not (pt_val (pe_meth (pv 0) T.cl tC GC hrC bC .nil pass0 (pa_cons (pv 1) pa_nil))))))) pss_never pss_nil)
        (pss_cons (ps_expr (pe_meth (pv 0) T.cl tY GY hr1 bY .nil pass0 (pa_cons (pv 1) pa_nil)))
        (pss_one (ps_ret (pe_meth0 (pv 0) T.cl tB GB hrB bB .nil pass0)))), ?_⟩
      refine ⟨_, rfl, fun _ => False, [e.d], fun p h => h.elim, .cons (r0.step step_none) .nil, e.d, rfl, (deed_okB e).1, ?_⟩
      intro v1 H1 s1 rv1
      have rv1 : Rp K (fun _ => False) H1 v1 (.bl (deedB e.d)) := rv1
      rw [(deed_okB e).2] at rv1
      cases rv1
      have n1 : ∀ b, nF nd b → ∃ o, H1 b = some o ∧ MutO o := fun b hb => let ⟨o, e, m⟩ := n0 b hb; ⟨o, s1 b o e, m⟩
      have k1 : ∀ b o, ¬ nF nd b → H b = some o → H1 b = some o := fun b o _ e => s1 b o e
      have S1 := S.same s1 n0
      have r1 := r0.step (step_same (M := M) s1)
      refine ⟨_, rfl, ite_f rfl ?_⟩
      obtain ⟨dx1, g1⟩ := S1.ob
      refine ⟨_, rfl, _, dx1, _, rfl, g1, nflds_no (by decide), ?_⟩
      refine ⟨_, rfl, ?_⟩
      refine ⟨M, nd, st, nd.a, _, _, rfl, mut_on hM k1 n1, hF, S1, .cons r1 .nil, ?_⟩
      refine mC _ _ _ _ (fun y st' ⟨e1, e2, qq⟩ => ?_) q
      subst e1 e2
      intro v2 H2 k2 n2 S2 rv2
      cases rv2
      have k02 : ∀ b o, ¬ nF nd b → H b = some o → H2 b = some o := fun b o h e => k2 b o h (k1 b o h e)
      have st02 : Step M H M H2 := ⟨fun b o hb e => ⟨hb, k02 b o (fun z => hb (hF b z)) e⟩, fun b xs e => k02 b _ (fun z => by
        obtain ⟨o, h, m⟩ := n0 b z
        rw [e] at h; cases h; exact m) e, fun b o u e => k02 b _ (fun z => by
        obtain ⟨o, h, m⟩ := n0 b z
        rw [e] at h; cases h; exact m) e⟩
      refine ⟨_, rfl, ite_f rfl ?_⟩
      obtain ⟨dx2, g2⟩ := S2.ob
      refine ⟨_, rfl, _, dx2, _, rfl, g2, nflds_no (by decide), ?_⟩
      refine ⟨_, rfl, ?_⟩
      refine ⟨M, nd, st', nd.a, _, _, rfl, mut_on hM k02 n2, hF, S2, .cons (r0.step st02) .nil, e, rfl, hcan, hdone, ?_⟩
      intro v3 H3 k3 n3 S3 rv3
      have k03 : ∀ b o, ¬ nF nd b → H b = some o → H3 b = some o := fun b o h e => k3 b o h (k02 b o h e)
      obtain ⟨dx3, g3⟩ := S3.ob
      refine ⟨_, rfl, _, dx3, _, rfl, g3, nflds_no (by decide), ?_⟩
      refine ⟨M, nd, after st' e, nd.a, [], [], rfl, mut_on hM k03 n3, hF, S3, .nil, ?_⟩
      refine mB _ _ _ _ (fun y st'' qq => ?_) qq
      intro v4 H4 k4 n4 S4 rv4
      exact qq v4 H4 (fun b o h e => k4 b o h (k03 b o h e)) n4 S4 rv4
theorem sc_init : FnScope ["self", "candles"] ["self", "candles"] (defScope (s_n 0)) := ⟨rfl, rfl, rfl, by decide +kernel, rfl, by decide +kernel, by decide +kernel⟩
theorem ok_init {sK : ASp} {kX : Nat} {f fK : Addr} {fd fdK : FuncData} {pK : List Str} (mK : MonoA sK) (F : Fun K "__init__" "Night.__init__" (s_n 0) f fd) (T : NTxt K mg C)
    (hK : mg "check_candles" = some (.ref fK)) (kpK : PySem.W.keepIn K (.ref fK) = true) (bK : Binds K fdK pK []) (GK : FnOk P w K mg base CX0 kX fK fdK pK (liftSp K sK)) :
    FnOk P w K mg base CX0 (kX + 1) f fd ["self", "candles"] (liftIb K C nF (nAt K C) (sp_init sK)) := by
  refine F.ok sc_init (fun vs H Q E h => ?_) (fun cdv A outer s H vs Q E hr h => ?_)
  · obtain ⟨M, a, dx, us, xs, rfl, _, _, _, r, cs, rfl, _⟩ := h
    rw [List.length_cons, r.length]; rfl
  · obtain ⟨M, a, dx, us, xs, rfl, ha, hMa, hM, r, cs, rfl, q⟩ := h
    cases r with
    | cons r0 r1 =>
      cases r1
      have hrX : Room kX _ := hr
      refine ⟨_, pss_cons (ps_expr (pe_call GK hrX (by rfl) hK kpK bK .nil pass0 (pa_cons (pv 1) pa_nil)))
        (pss_cons (ps_fld (pv 0) (pe_callTy call_list_of (by rfl) T.list_ (by rfl) (pa_cons (pv 1) pa_nil)) rfl)
        (pss_cons (ps_fld (pv 0) pe_dnewK rfl)
        (pss_cons (ps_fld (pv 0) (pe_lst pa_nil) rfl)
        (pss_cons (ps_fld (pv 0) pe_int rfl)
        (pss_one (ps_fld (pv 0) (pe_lst pa_nil) rfl)))))), ?_⟩
      refine ⟨_, rfl, fun _ => False, [.tup cs], fun p h => h.elim, .cons (r0.step step_none) .nil, ?_⟩
      refine mK _ _ _ (fun y qq => ?_) q
      intro v1 H1 s1 rv1
      cases r0 with
      | tup ht rt =>
        rename_i t vs
        have ha1 := s1 _ _ ha
        refine ⟨_, rfl, ?_⟩
        refine ⟨t, vs, rfl, .inr (.of (s1 _ _ ht)), fun l1 hl1 => ?_⟩
        have s2 : Same H (upd H1 l1 (.lst vs)) := fun b o e => same_upd hl1 b o (s1 b o e)
        have n1 : a ≠ l1 := ne_of_none ha1 hl1
        refine ⟨_, rfl, a, C, dx, _, rfl, s2 _ _ ha, T.cl, T.nC, (by show 0 < 1000; decide), ?_⟩
        intro d hd
        have n2 : d ≠ a := fun z => by rw [z, upd_same] at hd; cases hd
        have n3 : d ≠ l1 := fun z => by rw [z, upd_ne n1.symm, upd_same] at hd; cases hd
        refine ⟨_, rfl, a, C, dx, _, rfl, by rw [upd_ne n2.symm, upd_same], T.cl, T.nE, (by show 1 < 1000; decide), ?_⟩
        refine ⟨(by show 0 ≤ sizeLine; decide), fun l2 hl2 => ?_⟩
        have m1 : l2 ≠ a := fun z => by rw [z, upd_same] at hl2; cases hl2
        rw [upd_ne m1] at hl2
        have m2 : l2 ≠ d := fun z => by rw [z, upd_same] at hl2; cases hl2
        rw [upd_ne m2, upd_ne m1] at hl2
        have m3 : l2 ≠ l1 := fun z => by rw [z, upd_same] at hl2; cases hl2
        rw [upd_ne m3] at hl2
        refine ⟨_, rfl, a, C, dx, _, rfl, by rw [upd_ne m1.symm, upd_same], T.cl, T.nL, (by show 2 < 1000; decide), ?_⟩
        refine ⟨_, rfl, a, C, dx, _, rfl, upd_same, T.cl, T.nN, (by show 3 < 1000; decide), ?_⟩
        refine ⟨(by show 0 ≤ sizeLine; decide), fun l3 hl3 => ?_⟩
        have p1 : l3 ≠ a := fun z => by rw [z, upd_same] at hl3; cases hl3
        rw [upd_ne p1, upd_ne p1] at hl3
        have p4 : l3 ≠ l2 := fun z => by rw [z, upd_same] at hl3; cases hl3
        rw [upd_ne p4, upd_ne p1] at hl3
        have p2 : l3 ≠ d := fun z => by rw [z, upd_same] at hl3; cases hl3
        rw [upd_ne p2, upd_ne p1] at hl3
        have p3 : l3 ≠ l1 := fun z => by rw [z, upd_same] at hl3; cases hl3
        rw [upd_ne p3] at hl3
        refine ⟨_, rfl, a, C, dx, _, rfl, by rw [upd_ne p1.symm, upd_same], T.cl, T.nD, (by show 4 < 1000; decide), ?_⟩
        have hd1 : H1 d = none := by rw [upd_ne n2, upd_ne n3] at hd; exact hd
        have none_of : ∀ {b}, H1 b = none → H b = none := fun {b} h => by
          cases e : H b with
          | none => rfl
          | some o => rw [s1 b o e] at h; cases h
        refine qq ⟨a, l1, d, l2, l3⟩ _ (fun b o hb e => ?_) (.inl rfl) (fun b hb hba => ?_) (fun b hb => ?_) ?_
        · have e1 := s1 b o e
          have q1 : b ≠ l1 := ne_of_none e1 hl1
          have q2 : b ≠ d := ne_of_none e1 hd1
          have q3 : b ≠ l2 := ne_of_none e1 hl2
          have q4 : b ≠ l3 := ne_of_none e1 hl3
          rw [upd_ne hb, upd_ne q4, upd_ne hb, upd_ne hb, upd_ne q3, upd_ne hb, upd_ne q2, upd_ne hb, upd_ne q1]
          exact e1
        · rcases hb with rfl | rfl | rfl | rfl | rfl
          · exact absurd rfl hba
          · exact none_of hl1
          · exact none_of hd1
          · exact none_of hl2
          · exact none_of hl3
        · rcases hb with rfl | rfl | rfl | rfl | rfl
          · exact ⟨_, upd_same, (by show MutO (.ins _ _ _); trivial)⟩
          · exact ⟨(.lst vs : HO), by rw [upd_ne n1.symm, upd_ne p3.symm, upd_ne n1.symm, upd_ne n1.symm, upd_ne m3.symm, upd_ne n1.symm, upd_ne n3.symm, upd_ne n1.symm, upd_same], trivial⟩
          · exact ⟨(.dK [] : HO), by rw [upd_ne n2, upd_ne p2.symm, upd_ne n2, upd_ne n2, upd_ne m2.symm, upd_ne n2, upd_same], trivial⟩
          · exact ⟨(.lst [] : HO), by rw [upd_ne m1, upd_ne p4.symm, upd_ne m1, upd_ne m1, upd_same], trivial⟩
          · exact ⟨(.lst [] : HO), by rw [upd_ne p1, upd_same], trivial⟩
        · have big : ∀ b o, H1 b = some o → b ≠ a → upd (upd (upd (upd (upd (upd (upd (upd (upd H1 l1 (.lst vs)) a (.ins C dx (putF "candles" (.ref l1) []))) d (.dK [])) a (.ins C dx (putF "ends" (.ref d) (putF "candles" (.ref l1) [])))) l2 (.lst [])) a (.ins C dx (putF "lost" (.ref l2) (putF "ends" (.ref d) (putF "candles" (.ref l1) []))))) a (.ins C dx (putF "now" (.int 0) (putF "lost" (.ref l2) (putF "ends" (.ref d) (putF "candles" (.ref l1) [])))))) l3 (.lst [])) a (.ins C dx (putF "done" (.ref l3) (putF "now" (.int 0) (putF "lost" (.ref l2) (putF "ends" (.ref d) (putF "candles" (.ref l1) [])))))) b = some o := fun b o e1 hb => by
            rw [upd_ne hb, upd_ne (ne_of_none e1 hl3), upd_ne hb, upd_ne hb, upd_ne (ne_of_none e1 hl2), upd_ne hb, upd_ne (ne_of_none e1 hd1), upd_ne hb, upd_ne (ne_of_none e1 hl1)]
            exact e1
          refine ⟨rfl, ⟨dx, upd_same⟩, ⟨vs, by rw [upd_ne n1.symm, upd_ne p3.symm, upd_ne n1.symm, upd_ne n1.symm, upd_ne m3.symm, upd_ne n1.symm, upd_ne n3.symm, upd_ne n1.symm, upd_same], ?_⟩, by rw [upd_ne n2, upd_ne p2.symm, upd_ne n2, upd_ne n2, upd_ne m2.symm, upd_ne n2, upd_same]; rfl, by rw [upd_ne m1, upd_ne p4.symm, upd_ne m1, upd_ne m1, upd_same]; rfl, ⟨[], by rw [upd_ne p1, upd_same], .nil⟩, m3.symm, p3.symm, p4.symm⟩
          refine RpAll.stepA (a := a) ⟨fun b o ba hb e => ⟨fun z => ?_, ?_⟩, fun b xs e => ?_, fun b o u e => ?_, fun xs z => by rw [ha] at z; cases z⟩ rt
          · rcases z with z | z
            · exact hb z
            · have e1 := s1 b o e
              rcases z with rfl | rfl | rfl | rfl | rfl
              · exact ba rfl
              · rw [hl1] at e1; cases e1
              · rw [hd1] at e1; cases e1
              · rw [hl2] at e1; cases e1
              · rw [hl3] at e1; cases e1
          · exact big b o (s1 b o e) ba
          · exact big b _ (s1 b _ e) (fun z => by rw [z, ha] at e; cases e)
          · exact big b _ (s1 b _ e) (fun z => by rw [z, ha] at e; cases e)
end
end FW
set_option Elab.async false
set_option linter.all false
set_option maxRecDepth 100000
set_option maxHeartbeats 8000000
/-! a night gone through by lightings at told times: who burns, who can be lit -/
namespace FW
open PySem PySem.Spec PyProof.Rows L2 AL
/-- of the candles cs those of L were lit at their times -/
structure Along (st : NSt) (cs : List Cd) (L : List (Int × Int)) : Prop where
  G : Goods cs
  lost : st.lost = []
  ends : st.ends = L.map (fun p => (p.1, p.2 + (at' cs p.1.toNat).1))
  lt : ∀ p ∈ L, 0 ≤ p.1 ∧ p.1 < cs.length
  nd : (L.map (·.1)).Nodup
  cs : st.cs = cs.map cD
theorem nodup_len : ∀ {l m : List Nat}, l.Nodup → (∀ x ∈ l, x ∈ m) → l.length ≤ m.length
  | [], _, _, _ => Nat.zero_le _
  | x :: r, m, hn, h => by
    have hn' := List.nodup_cons.mp hn
    have hx : x ∈ m := h x List.mem_cons_self
    have ih := nodup_len (m := m.erase x) hn'.2 fun y hy => (List.mem_erase_of_ne (fun z => hn'.1 (by rw [← z]; exact hy))).mpr (h y (List.mem_cons_of_mem _ hy))
    have e := List.length_erase_of_mem hx
    have : 0 < m.length := List.length_pos_of_mem hx
    rw [List.length_cons]
    omega
theorem Along.len {st : NSt} {cs : List Cd} {L : List (Int × Int)} (A : Along st cs L) : L.length ≤ 12 := by
  have h1 : ((L.map (·.1)).map Int.toNat).Nodup := by
    rw [List.nodup_iff_pairwise_ne, List.pairwise_map]
    refine List.Pairwise.imp_of_mem (fun {a b} ha hb h => ?_) (List.nodup_iff_pairwise_ne.mp A.nd)
    obtain ⟨p, hp, rfl⟩ := List.mem_map.mp ha
    obtain ⟨q, hq, rfl⟩ := List.mem_map.mp hb
    have := A.lt p hp
    have := A.lt q hq
    omega
  have h2 : ∀ x ∈ (L.map (·.1)).map Int.toNat, x ∈ List.range cs.length := fun x hx => by
    obtain ⟨y, hy, rfl⟩ := List.mem_map.mp hx
    obtain ⟨p, hp, rfl⟩ := List.mem_map.mp hy
    have := A.lt p hp
    exact List.mem_range.mpr (by omega)
  have h3 := nodup_len h1 h2
  rw [List.length_map, List.length_map, List.length_range] at h3
  have := A.G.len
  omega
theorem lexLe_not {p q : Int × Int} : ¬ ltI q p ↔ lexLe p q := by
  unfold ltI lexLe
  omega
theorem sorted_eq {a b : List (Int × Int)} (h : a.Perm b) (ha : a.Pairwise lexLe) (hb : b.Pairwise lexLe) : a = b := by
  refine List.Perm.eq_of_pairwise (fun x y _ _ h1 h2 => ?_) ha hb h
  unfold lexLe at h1 h2
  have e1 : x.1 = y.1 := by omega
  have e2 : x.2 = y.2 := by omega
  exact Prod.ext e1 e2
theorem burn_eq {st : NSt} {L' qs : List (Int × Int)} (h1 : L'.Perm st.ends) (h2 : L'.Pairwise fun p q => ¬ ltI q p) (h3 : qs.Perm (st.ends.filter fun p => decide (st.now ≤ p.2))) (h4 : qs.Pairwise lexLe) : burnOf L' st.now = qs.map AL.pairD := by
  unfold burnOf
  rw [sorted_eq ((h1.filter _).trans h3.symm) ((h2.imp fun h => lexLe_not.mp h).filter _) h4]
theorem pairs_plain : ∀ ps : List (Int × Int), D.plains (ps.map AL.pairD) = true
  | [] => rfl
  | _ :: l => by show (true && D.plains (l.map AL.pairD)) = true; rw [pairs_plain l]; rfl
theorem pairs_lay : ∀ ps : List (Int × Int), PyData.canLayAll0 (D.pys (ps.map AL.pairD)) = true
  | [] => rfl
  | _ :: l => by show (true && PyData.canLayAll0 (D.pys (l.map AL.pairD))) = true; rw [pairs_lay l]; rfl
theorem pairs_depthP : ∀ ps : List (Int × Int), PyData.depthAll (D.pys (ps.map AL.pairD)) ≤ 1
  | [] => Nat.zero_le _
  | _ :: l => by show max 1 (PyData.depthAll (D.pys (l.map AL.pairD))) ≤ 1; exact Nat.max_le.mpr ⟨Nat.le_refl _, pairs_depthP l⟩
theorem okD_pairs (ps : List (Int × Int)) : okD (.lst (ps.map AL.pairD)) = true := by
  have h1 := pairs_plain ps
  have h2 := pairs_lay ps
  have h3 : decide (PyData.depthAll (D.pys (ps.map AL.pairD)) + 1 ≤ 64) = true := decide_eq_true (by have := pairs_depthP ps; omega)
  show (D.plains (ps.map AL.pairD) && (PyData.canLayAll0 (D.pys (ps.map AL.pairD)) && decide (PyData.depthAll (D.pys (ps.map AL.pairD)) + 1 ≤ 64))) = true
  rw [h1, h2, h3]; rfl
theorem mem_left {st : NSt} {cs : List Cd} {L : List (Int × Int)} (A : Along st cs L) (n : Nat) : leftB st (n : Int) = !decide ((n : Int) ∈ L.map (·.1)) := by
  unfold leftB
  rw [A.lost, A.ends, List.map_map]
  have e : ((fun x : Int × Int => x.1) ∘ fun p : Int × Int => (p.1, p.2 + (at' cs p.1.toNat).1)) = fun p => p.1 := rfl
  rw [e]
  simp
theorem dry_at {st : NSt} {cs : List Cd} {L : List (Int × Int)} (A : Along st cs L) {n : Nat} (h : n < cs.length) : dryB st n = decide (st.now ≤ (at' cs n).2.1) := by
  unfold dryB
  rw [A.cs, List.getElem?_map, at_get h]
  rfl
theorem unlit_eq {st : NSt} {cs : List Cd} {L : List (Int × Int)} (A : Along st cs L) : unlitOf st = ((List.range cs.length).filter fun n : Nat => !decide ((n : Int) ∈ L.map (·.1)) && decide (st.now ≤ (at' cs n).2.1)).map nD := by
  unfold unlitOf
  rw [A.cs, List.length_map]
  have e : (List.range cs.length).filter (fun n : Nat => dryB st n && leftB st (n : Int)) = (List.range cs.length).filter fun n : Nat => !decide ((n : Int) ∈ L.map (·.1)) && decide (st.now ≤ (at' cs n).2.1) := by
    refine List.filter_congr fun n hn => ?_
    rw [dry_at A (List.mem_range.mp hn), mem_left A, Bool.and_comm]
  rw [e]
  rfl
end FW
set_option Elab.async false
set_option linter.all false
set_option maxRecDepth 100000
set_option maxHeartbeats 8000000
namespace FW
open PySem PySem.Spec PyProof.Rows L2 AL
/-- a dict of the law's own -/
def dF (nd : Addr) (b : Addr) : Prop := b = nd
structure dAt (L : List (Int × Int)) (nd : Addr) (M : Addr → Prop) (H : Hp) (a : Addr) : Prop where
  self : a = nd
  h : H nd = some (.dK (intKs L))
theorem dStab (L : List (Int × Int)) (nd : Addr) : StabO (dF nd) (dAt L nd) :=
  ⟨fun M H M' H' a s e h => ⟨h.self, by rw [e _ rfl]; exact h.h⟩, fun M H a h b hb ps => by rw [show b = nd from hb, h.h]; exact fun z => by cases z⟩
abbrev TT_ : Addr → Prop := fun _ => True
theorem step_T {H H' : Hp} (t : ∀ b xs, H b = some (.tup xs) → H' b = some (.tup xs)) (f : ∀ b o u, H b = some (.frz o u) → H' b = some (.frz o u)) : Step TT_ H TT_ H' := ⟨fun _ _ h _ => (h trivial).elim, t, f⟩
theorem step_TS {H H' : Hp} (s : Same H H') : Step TT_ H TT_ H' := step_T (fun b _ e => s b _ e) fun b _ _ e => s b _ e
theorem pairs_step {K : PySem.W.Frag} {M M' : Addr → Prop} {H H' : Hp} (t : ∀ b xs, H b = some (.tup xs) → H' b = some (.tup xs)) : ∀ (ds : List (Int × Int)) {vs : List V}, RpAll K M H vs (ds.map AL.pairD) → RpAll K M' H' vs (ds.map AL.pairD)
  | [], _, h => by cases h; exact .nil
  | d :: r, _, h => by
    cases h with
    | cons h1 h2 =>
      refine .cons ?_ (pairs_step t r h2)
      cases h1 with
      | tup ha hr =>
        cases hr with
        | cons a1 hr =>
          cases hr with
          | cons a2 hr =>
            cases hr
            cases a1
            cases a2
            exact .tup (t _ _ ha) (.cons (.int _) (.cons (.int _) .nil))
theorem cand_at {K : PySem.W.Frag} {H : Hp} {v : V} {cs : List Cd} (r : Rp K TT_ H v (csD cs)) : ∃ ta vs, v = .ref ta ∧ H ta = some (.tup vs) ∧ vs.length = cs.length ∧ ∀ n, n < cs.length → ∃ t, vs[n]? = some (.ref t) ∧ H t = some (.tup [.int (at' cs n).1, .int (at' cs n).2.1, .int (at' cs n).2.2]) := by
  cases r with
  | tup h rr =>
    refine ⟨_, _, rfl, h, by rw [rr.length, List.length_map], fun n hn => ?_⟩
    obtain ⟨x, hx, rx⟩ := rr.get (i := n) (d := cD (at' cs n)) (by rw [List.getElem?_map, at_get hn]; rfl)
    cases rx with
    | tup h2 r2 =>
      cases r2 with
      | cons a1 r2 =>
        cases r2 with
        | cons a2 r2 =>
          cases r2 with
          | cons a3 r2 =>
            cases r2; cases a1; cases a2; cases a3
            exact ⟨_, hx, h2⟩
section
variable {P : Program} {w : World} {K : PySem.W.Frag} {mg : Str → Option Value} {base : Heap} {C : Addr}
abbrev s_told : Stmt := topS 32
abbrev N_told : List Str := ["_law_night", "_law_some", "_law_lit", "_law_now", "_law_burns", "_law_k", "_law_rest"]
abbrev p_told : List Str := ["_law_night", "_law_some", "_law_lit"]
theorem sc_told : FnScope N_told p_told (defScope s_told) := ⟨rfl, rfl, rfl, by decide +kernel, rfl, by decide +kernel, by decide +kernel⟩
def sp_toldN (K : PySem.W.Frag) (C : Addr) : Sp := fun vs H Q E => ∃ (M : Addr → Prop) (nd : NdN) (st : NSt) (a : Addr) (v : V) (cs : List Cd) (ld : Addr) (L : List (Int × Int)), vs = [.ref a, v, .ref ld] ∧ (∀ p, M p → ∃ o, H p = some o ∧ MutO o) ∧ (∀ b, nF nd b → M b) ∧ nAt K C st nd M H a ∧ Rp K TT_ H v (csD cs) ∧ ¬ nF nd ld ∧ H ld = some (.dK (intKs L)) ∧ Along st cs L ∧
  ∀ H', (∀ b o, ¬ nF nd b → H b = some o → H' b = some o) → (∀ b, nF nd b → ∃ o, H' b = some o ∧ MutO o) → nAt K C st nd M H' a → Q (.bl true) H'
theorem valV_ints {L : List (Int × Int)} (nd : (L.map (·.1)).Nodup) {p : Int × Int} (h : p ∈ L) : valV (intKs L) (Sum.inl p.1 : L2.Key) = some (.int p.2) := by
  induction L with
  | nil => cases h
  | cons q r ih =>
    rw [List.map_cons] at nd
    have nd' := List.nodup_cons.mp nd
    unfold valV intKs at ih ⊢
    rw [List.map_cons, List.find?_cons]
    rcases List.mem_cons.mp h with rfl | h
    · simp
    · have ne : ¬ q.1 = p.1 := fun z => nd'.1 (by rw [z]; exact List.mem_map.mpr ⟨p, h, rfl⟩)
      have e : decide ((Sum.inl q.1 : L2.Key) = Sum.inl p.1) = false := decide_eq_false fun z => ne (Sum.inl.inj z)
      rw [e]
      exact ih nd'.2 h
theorem dget_frz {H : Hp} {ld : Addr} {od : Obj} {L : List (Int × Int)} (nd : (L.map (·.1)).Nodup) {p : Int × Int} (h : p ∈ L) (e : H ld = some (.frz od (.dK (intKs L)))) : DGet H ld (.int p.1) (some (.int p.2)) :=
  .inl ⟨intKs L, Sum.inl p.1, .inr ⟨od, e⟩, rfl, (valV_ints nd h).symm⟩
theorem ixK {X : Cx} {K : PySem.W.Frag} (e : X.K = K) : IxR X (rIx K) := by subst e; exact ix_seq
theorem ok_told {f fT fB fU : Addr} {fd fdT fdB fdU : FuncData} (F : Fun K "_law_is_told" "_law_is_told" s_told f fd) (T : NTxt K mg C) (hrange : mg "range" = none) (hlen : mg "len" = none) (hsorted : mg "sorted" = none)
    (mT : Meth K C "time" fT) (bT : Binds K fdT ["self"] []) (GT : FnOk P w K mg base CX0 1 fT fdT ["self"] (liftOb K nF (nAt K C) sp_time))
    (mB : Meth K C "burning" fB) (bB : Binds K fdB ["self"] []) (GB : FnOk P w K mg base CX0 1 fB fdB ["self"] (liftOb K nF (nAt K C) sp_burning))
    (mU : Meth K C "unlit" fU) (bU : Binds K fdU ["self"] []) (GU : FnOk P w K mg base CX0 2 fU fdU ["self"] (liftOb K nF (nAt K C) sp_unlit)) :
    FnOk P w K mg base CX0 3 f fd p_told (sp_toldN K C) := by
  refine F.ok sc_told (fun vs H Q E h => ?_) (fun cdv A outer s H vs Q E hr h => ?_)
  · obtain ⟨M, nd, st, a, v, cs, ld, L, rfl, _⟩ := h
    rfl
  · obtain ⟨M, nd, st, a, v, cs, ld, L, rfl, hM, hF, S, rv, hld, hL, A0, q⟩ := h
    obtain rfl := S.self
    obtain ⟨dx, h1⟩ := S.ob
    have hr2 : Room 2 _ := hr
    have hr1 : Room 1 _ := hr2.mono (by decide)
    have hu := hu_of hr
    have hl12 := A0.len
    refine ⟨_, pss_cons (ps_set (i := 3) sc_told.nd rfl (by first | exact Or.inl rfl | exact Or.inr rfl) (pe_meth0 (pv 0) T.cl mT GT hr1 bT .nil pass0))
      (pss_cons (ps_set (i := 4) sc_told.nd rfl (by first | exact Or.inl rfl | exact Or.inr rfl) (pe_callB cr_sortedPO (by rfl) hsorted (by decide +kernel) (pa_cons (pe_lock (pe_lc (own := [("_law_k", 5)]) (g := gName 5) (tt := tTest (tOp (rI0 fun i j => .bl (decide (j ≤ i))) (tOp (rI0 fun i j => .int (i + j)) (tDGet (tVar 2) (tVar 5)) (tOp (rIx K) (tOp (rIx K) (tVar 1) (tVar 5)) (tC (.int 0)))) (tVar 3))) rfl sc_told.nd (pi_keys (pv 2)) (blkOk_by (N := N_told) (sc := defScope s_told) (by decide +kernel))
        (fun _ _ _ _ _ => pg_name (i := 5) sc_told.nd rfl (Or.inl rfl))
        (fun _ _ _ _ _ => pts_one (pt_cmpR op_ge (pe_op op_add (pe_dget hu (pv 2) (pv 5) (fun _ _ => rfl)) (pe_ix (ixK rfl) (pe_ix (ixK rfl) (pv 1) (pv 5) (fun _ _ => rfl)) pe_int (fun _ _ => rfl))) (pv 3) (nomark _)))
        (fun _ _ _ _ _ => pe_tup (pa_cons (pv 5) (pa_cons (pe_op op_add (pe_dget hu (pv 2) (pv 5) (fun _ _ => rfl)) (pe_ix (ixK rfl) (pe_ix (ixK rfl) (pv 1) (pv 5) (fun _ _ => rfl)) pe_int (fun _ _ => rfl))) pa_nil))))) pa_nil)))
      (pss_cons (ps_setLc (i := 6) (own := [("_law_k", 5)]) (g := gName 5) (tt := tAnd (tTest (tDNotIn (tVar 5) (tVar 2))) (tTest (tOp (rI0 fun i j => .bl (decide (j ≤ i))) (tOp (rIx K) (tOp (rIx K) (tVar 1) (tVar 5)) (tC (.int 1))) (tVar 3)))) rfl sc_told.nd rfl rfl (sw_true rfl rfl rfl (by decide +kernel)) (pi_range1 (by rfl) hrange (pa_cons (pe_callB call_len_seq (by rfl) hlen PySem.boot_len (pa_cons (pv 1) pa_nil)) pa_nil)) (blkOk_by (N := N_told) (sc := defScope s_told) (by decide +kernel))
        (fun _ _ _ _ _ => pg_name (i := 5) sc_told.nd rfl (Or.inl rfl))
        (fun _ _ _ _ _ => pts_one (PW.pt (pw_and (pt_cmp (pc_dnotin hu (pv 5) (pv 2))) (pw_and1 (pt_cmpR op_ge (pe_ix (ixK rfl) (pe_ix (ixK rfl) (pv 1) (pv 5) (fun _ _ => rfl)) pe_int (fun _ _ => rfl)) (pv 3) (nomark _))))))
        (fun _ _ _ _ _ => pv 5))
      (pss_one (ps_ret (pe_and (pe_cmpR (op_eqD hr.units) (pe_meth0 (pv 0) T.cl mB GB hr1 bB .nil pass0) (pv 4) (nomark _)) (pe_one (pe_cmpR (op_eqD hr.units) (pe_meth0 (pv 0) T.cl mU GU hr2 bU .nil pass0) (pv 6) (nomark _)))))))), ?_⟩
    refine ⟨_, rfl, _, dx, _, rfl, h1, nflds_no (by decide), ?_⟩
    refine ⟨M, nd, st, nd.a, [], [], rfl, hM, hF, S, .nil, rfl, ?_⟩
    intro v1 H1 k1 n1 S1 rv1
    cases rv1
    -- behind the first row
    have hL1 : H1 ld = some (.dK (intKs L)) := k1 ld _ hld hL
    have tup1 : ∀ b xs, H b = some (.tup xs) → H1 b = some (.tup xs) := fun b xs e => k1 b _ (fun z => by
      obtain ⟨o, h, m⟩ := n_same S hF hM b z
      rw [e] at h; cases h; exact m) e
    have frz1 : ∀ b o u, H b = some (.frz o u) → H1 b = some (.frz o u) := fun b o u e => k1 b _ (fun z => by
      obtain ⟨o', h, m⟩ := n_same S hF hM b z
      rw [e] at h; cases h; exact m) e
    obtain ⟨ta, cvs, rfl, hta, hcl, hcv⟩ := cand_at (rv.step (step_T tup1 frz1))
    have nld : ∀ b xs, H1 b = some (.tup xs) → b ≠ ld := fun b xs e z => by rw [z, hL1] at e; cases e
    refine ⟨ld, .dK (intKs L), hL1, trivial, fun od => ?_⟩
    refine ⟨_, rfl, ld, od, rfl, .inl ⟨intKs L, upd_same, ?_⟩⟩
    intro Dn hD
    have nDl : Dn ≠ ld := fun z => by rw [z, upd_same] at hD; cases hD
    have hD1 : H1 Dn = none := by rw [upd_ne nDl] at hD; exact hD
    have lenK : (intKs L).length = L.length := by unfold intKs; rw [List.length_map]
    let endP : Int × Int → Int × Int := fun p => (p.1, p.2 + (at' cs p.1.toNat).1)
    let burnP : Nat → List (Int × Int) := fun i => ((L.take i).map endP).filter fun p => decide (st.now ≤ p.2)
    refine lc_it (walk_keys (d := ld) (o := od) (kvs := intKs L)) (fun i H2 => H2 ld = some (.frz od (.dK (intKs L))) ∧ (∀ b o, b ≠ ld → H1 b = some o → H2 b = some o) ∧ ∃ acc, H2 Dn = some (.lst acc) ∧ RpAll K TT_ H2 acc ((burnP i).map AL.pairD)) ⟨?_, fun b o hb e => ?_, [], upd_same, .nil⟩ ?_ ?_ ?_
    · rw [upd_ne nDl.symm, upd_same]
    · rw [upd_ne (ne_of_none e hD1), upd_ne hb]; exact e
    · rintro i H2 _ ⟨h, _⟩; exact h
    · rintro i x _ H2 hi ⟨hfz, k2, acc, hacc, racc⟩ ⟨rfl, k, v, hk, rfl⟩
      rw [lenK] at hi
      have hLi : L[i]? = some L[i] := List.getElem?_eq_getElem hi
      have e3 : (intKs L)[i]? = some (Sum.inl L[i].1, V.int L[i].2) := by unfold intKs; rw [List.getElem?_map, hLi] <;> rfl
      rw [e3] at hk
      obtain ⟨rfl, rfl⟩ := Prod.mk.inj (Option.some.inj hk)
      generalize hp : L[i] = p at *
      have hpm : p ∈ L := List.mem_of_getElem? hLi
      have hb := A0.lt p hpm
      have hn : p.1.toNat < cs.length := by omega
      have hpe : (p.1.toNat : Int) = p.1 := Int.toNat_of_nonneg hb.1
      obtain ⟨t, ht1, ht2⟩ := hcv p.1.toNat hn
      have hta2 := k2 _ _ (nld _ _ hta) hta
      have ht3 := k2 _ _ (nld _ _ ht2) ht2
      have hix : atI cvs p.1 = some (.ref t) := by have := atI_nat ht1; rw [hpe] at this; exact this
      have hdg := dget_frz A0.nd hpm hfz
      have esucc : burnP (i + 1) = burnP i ++ if st.now ≤ (endP p).2 then [endP p] else [] := by
        show (((L.take (i + 1)).map endP).filter _) = _
        rw [List.take_succ, hLi, List.map_append, List.filter_append]
        show _ ++ List.filter (fun p => decide (st.now ≤ p.2)) [endP p] = _
        by_cases h : st.now ≤ (endP p).2
        · rw [if_pos h, List.filter_cons_of_pos (by simpa using h)]; rfl
        · rw [if_neg h, List.filter_cons_of_neg (by simpa using h)]; rfl
      have hal : acc.length < sizeLine := by
        rw [racc.length, List.length_map]
        refine small1000 (Nat.le_trans (List.length_filter_le _ _) ?_)
        rw [List.length_map, List.length_take]
        omega
      refine ⟨rfl, ?_⟩
      refine ⟨_, rfl, _, rfl, ld, .int p.2, rfl, hdg, ?_⟩
      refine ⟨_, rfl, _, rfl, .inr (.inl ⟨ta, cvs, p.1, .ref t, rfl, rfl, .of hta2, hix, ?_⟩)⟩
      refine .inr (.inl ⟨t, _, 0, .int (at' cs p.1.toNat).1, rfl, rfl, .of ht3, atI_nat (j := 0) rfl, ?_⟩)
      refine ⟨p.2, (at' cs p.1.toNat).1, rfl, rfl, ?_⟩
      refine ⟨_, rfl, _, _, rfl, rfl, _, rfl, ?_⟩
      by_cases hnow : st.now ≤ p.2 + (at' cs p.1.toNat).1
      · refine ite_t (decide_eq_true hnow) ?_
        refine ⟨_, rfl, ?_⟩
        refine ⟨_, rfl, _, rfl, ld, .int p.2, rfl, hdg, ?_⟩
        refine ⟨_, rfl, _, rfl, .inr (.inl ⟨ta, cvs, p.1, .ref t, rfl, rfl, .of hta2, hix, ?_⟩)⟩
        refine .inr (.inl ⟨t, _, 0, .int (at' cs p.1.toNat).1, rfl, rfl, .of ht3, atI_nat (j := 0) rfl, ?_⟩)
        refine ⟨p.2, (at' cs p.1.toNat).1, rfl, rfl, ?_⟩
        refine ⟨(by show 2 ≤ sizeLine; decide), fun t2 ht2' => ?_⟩
        have sm := same_upd (o := .tup [V.int p.1, V.int (p.2 + (at' cs p.1.toNat).1)]) ht2'
        have tne : t2 ≠ Dn := fun z => by rw [z, hacc] at ht2'; cases ht2'
        have tnl : t2 ≠ ld := fun z => by rw [z, hfz] at ht2'; cases ht2'
        have kt : ∀ b o, H2 b = some o → b ≠ Dn → upd (upd H2 t2 (.tup [V.int p.1, V.int (p.2 + (at' cs p.1.toNat).1)])) Dn (.lst (acc ++ [.ref t2])) b = some o := fun b o e hb => by rw [upd_ne hb]; exact sm b o e
        refine ⟨acc, sm _ _ hacc, hal, kt _ _ hfz nDl.symm, fun b o hb e => kt b o (k2 b o hb e) (ne_of_none e hD1), acc ++ [.ref t2], upd_same, ?_⟩
        rw [esucc, if_pos hnow, List.map_append]
        refine RpAll.snoc (RpAll.step (step_T (fun b xs e => kt b _ e (fun z => by rw [z, hacc] at e; cases e)) (fun b o u e => kt b _ e (fun z => by rw [z, hacc] at e; cases e))) racc) (.tup (by rw [upd_ne tne]; exact upd_same) (.cons (.int _) (.cons (.int _) .nil)))
      · refine ite_f (decide_eq_false hnow) ?_
        refine ⟨hfz, k2, acc, hacc, ?_⟩
        rw [esucc, if_neg hnow, List.append_nil]
        exact racc
    · rintro H2 ⟨hfz, k2, acc, hacc, racc⟩
      rw [lenK] at racc
      have eb : burnP L.length = st.ends.filter fun p => decide (st.now ≤ p.2) := by
        show (((L.take L.length).map endP).filter _) = _
        rw [List.take_length, A0.ends]
      rw [eb] at racc
      refine ⟨hfz, ?_⟩
      generalize hH3 : upd H2 ld (.dK (intKs L)) = H3
      have s13 : Same H1 H3 := fun b o e => by
        rw [← hH3]
        by_cases z : b = ld
        · rw [z] at e ⊢; rw [upd_same, ← hL1, e]
        · rw [upd_ne z]; exact k2 b o z e
      have hacc3 : H3 Dn = some (.lst acc) := by rw [← hH3, upd_ne nDl]; exact hacc
      have tup23 : ∀ b xs, H2 b = some (.tup xs) → H3 b = some (.tup xs) := fun b xs e => by
        rw [← hH3, upd_ne (fun z => by rw [z, hfz] at e; cases e)]; exact e
      have racc3 := pairs_step (M' := TT_) tup23 _ racc
      clear hacc racc k2 hfz hH3 tup23
      have S3 : nAt K C st nd M H3 nd.a := S1.same s13 n1
      have n3 : ∀ b, nF nd b → ∃ o, H3 b = some o ∧ MutO o := fun b hb => let ⟨o, e, m⟩ := n1 b hb; ⟨o, s13 b o e, m⟩
      -- sorted
      obtain ⟨ps, hps⟩ : ∃ ps : List (Int × Int), ps = st.ends.filter fun p => decide (st.now ≤ p.2) := ⟨_, rfl⟩
      rw [← hps] at racc3
      unfold tNil
      try dsimp only
      refine kSortP_op (K := K) TT_ H3 (.ref Dn) (.lst (ps.map AL.pairD)) (fun zs => ∃ qs : List (Int × Int), zs = qs.map AL.pairD ∧ qs.Perm ps ∧ qs.Pairwise lexLe) _ (Or.inr ⟨Dn, acc, ps.map AL.pairD, rfl, rfl, hacc3, racc3⟩) ⟨ps, rfl, fun qs h1 h2 => ⟨qs, rfl, h1, h2⟩⟩ ?_
      rintro _ ws pb ⟨qs, rfl, hq1, hq2⟩ hpb rws
      rw [hps] at hq1
      have s34 := same_upd (o := .lst ws) hpb
      generalize hH4 : upd H3 pb (.lst ws) = H4 at s34
      have h4b : H4 pb = some (.lst ws) := by rw [← hH4]; exact upd_same
      clear hH4
      have s14 : Same H1 H4 := fun b o e => s34 b o (s13 b o e)
      have rws4 := pairs_step (M' := TT_) (fun b xs e => s34 b _ e) _ rws
      -- the unlit ones
      refine ⟨_, rfl, ?_⟩
      refine ⟨ta, cvs, rfl, .inr (.of (s14 _ _ hta)), ?_⟩
      have hcl12 : cvs.length ≤ 12 := by rw [hcl]; exact A0.G.len
      refine ⟨(cvs.length : Int), rfl, by omega, by omega, ?_⟩
      intro D2 hD2
      let restN : Nat → List Nat := fun i => (List.range i).filter fun n : Nat => !decide ((n : Int) ∈ L.map (·.1)) && decide (st.now ≤ (at' cs n).2.1)
      refine lc_range (lo := 0) (n := (cvs.length : Int).toNat) (fun i H5 => (∀ b o, H4 b = some o → H5 b = some o) ∧ H5 D2 = some (.lst ((restN i).map fun n : Nat => V.int (n : Int)))) ⟨fun b o e => by rw [upd_ne (ne_of_none e hD2)]; exact e, upd_same⟩ ?_ ?_
      · rintro i H5 hi ⟨k5, h5⟩
        have e0 : (0 : Int) + (i : Int) = (i : Int) := Int.zero_add _
        show gName 5 (.int ((0 : Int) + (i : Int))) _ H5 _
        rw [e0]
        refine ⟨rfl, ?_⟩
        have hn : i < cs.length := by omega
        obtain ⟨t, ht1, ht2⟩ := hcv i hn
        have hix : atI cvs (i : Int) = some (.ref t) := atI_nat ht1
        have e5 : ∀ b o, H1 b = some o → H5 b = some o := fun b o e => k5 b o (s14 b o e)
        have esucc : restN (i + 1) = restN i ++ if (!decide ((i : Int) ∈ L.map (·.1)) && decide (st.now ≤ (at' cs i).2.1)) = true then [i] else [] := by
          show (List.range (i + 1)).filter _ = _
          rw [List.range_succ, List.filter_append]
          show _ ++ List.filter _ [i] = _
          cases h : (!decide ((i : Int) ∈ L.map (·.1)) && decide (st.now ≤ (at' cs i).2.1)) with
          | true => rw [if_pos rfl]; exact congrArg _ (List.filter_cons_of_pos h)
          | false => rw [if_neg (by decide)]; exact congrArg _ (List.filter_cons_of_neg (by rw [h]; decide))
        refine ⟨_, rfl, _, rfl, ld, _, rfl, DGet.k (k := Sum.inl (i : Int)) (e5 _ _ hL1), _, rfl, ?_⟩
        have ev : (valV (intKs L) (Sum.inl (i : Int) : L2.Key)).isSome = decide ((i : Int) ∈ L.map (·.1)) := valV_ends L (i : Int)
        rw [ev]
        by_cases hm : (i : Int) ∈ L.map (·.1)
        · refine ite_f (by rw [decide_eq_true hm]; rfl) (ite_f rfl ⟨k5, ?_⟩)
          rw [esucc, decide_eq_true hm, if_neg (by simp), List.append_nil]
          exact h5
        · refine ite_t (by rw [decide_eq_false hm]; rfl) ?_
          refine ⟨_, rfl, _, rfl, .inr (.inl ⟨ta, cvs, (i : Int), .ref t, rfl, rfl, .of (e5 _ _ hta), hix, ?_⟩)⟩
          refine .inr (.inl ⟨t, _, 1, .int (at' cs i).2.1, rfl, rfl, .of (e5 _ _ ht2), atI_nat (j := 1) rfl, ?_⟩)
          refine ⟨_, rfl, _, _, rfl, rfl, _, rfl, ?_⟩
          by_cases hd : st.now ≤ (at' cs i).2.1
          · refine ite_t (decide_eq_true hd) ?_
            refine ⟨_, rfl, _, h5, ?_, fun b o e => ?_, ?_⟩
            · rw [List.length_map]
              refine small1000 (Nat.le_trans (List.length_filter_le _ _) ?_)
              rw [List.length_range]; omega
            · rw [upd_ne (ne_of_none e hD2)]; exact k5 b o e
            · rw [upd_same, esucc, decide_eq_false hm, decide_eq_true hd, List.map_append]; rfl
          · refine ite_f (decide_eq_false hd) ⟨k5, ?_⟩
            rw [esucc, decide_eq_false hd, if_neg (by simp), List.append_nil]
            exact h5
      · rintro H5 ⟨k5, h5⟩
        have en : (cvs.length : Int).toNat = cs.length := by omega
        rw [en] at h5
        have er : (restN cs.length).map (fun n : Nat => D.int (n : Int)) = unlitOf st := (unlit_eq A0).symm
        have s15 : Same H1 H5 := fun b o e => k5 b o (s14 b o e)
        have S5 : nAt K C st nd M H5 nd.a := S1.same s15 n1
        have n5 : ∀ b, nF nd b → ∃ o, H5 b = some o ∧ MutO o := fun b hb => let ⟨o, e, m⟩ := n1 b hb; ⟨o, s15 b o e, m⟩
        have k05 : ∀ b o, ¬ nF nd b → H b = some o → H5 b = some o := fun b o h e => s15 b o (k1 b o h e)
        have npb : ¬ nF nd pb := fun z => by
          obtain ⟨o, e, _⟩ := n3 pb z
          rw [hpb] at e; cases e
        have nD2 : ¬ nF nd D2 := fun z => by
          obtain ⟨o, e, _⟩ := n1 D2 z
          rw [s14 _ _ e] at hD2; cases hD2
        obtain ⟨dx5, g5⟩ := S5.ob
        refine ⟨_, rfl, _, dx5, _, rfl, g5, nflds_no (by decide), ?_⟩
        refine ⟨M, nd, st, nd.a, [], [], rfl, mut_on hM k05 n5, hF, S5, .nil, rfl, ?_, fun L' hp' hs' => ?_⟩
        · rw [A0.ends, List.length_map]; omega
        intro v6 H6 k6 n6 S6 rv6
        have h6b : H6 pb = some (.lst ws) := k6 _ _ npb (k5 _ _ h4b)
        have k06 : ∀ b o, ¬ nF nd b → H b = some o → H6 b = some o := fun b o h e => k6 b o h (k05 b o h e)
        have tup6 : ∀ b xs, H4 b = some (.tup xs) → H6 b = some (.tup xs) := fun b xs e => k6 b _ (fun z => by
          obtain ⟨o, h, m⟩ := n1 b z
          rw [s14 _ _ h] at e; cases e; exact m) (k5 _ _ e)
        refine ⟨_, rfl, ?_⟩
        have hM6 := mut_on hM k06 n6
        show rEqD K v6 (.ref pb) H6 _
        refine kEq_op M H6 v6 (.ref pb) (.lst (burnOf L' st.now)) (.lst (qs.map AL.pairD)) (fun z => z = .bl true) _ (.inl rv6) (.inr ⟨pb, ws, _, rfl, rfl, h6b, pairs_step tup6 _ rws4⟩) (fun a ha => let ⟨o, e, _⟩ := hM6 a ha; ⟨o, e⟩) ⟨okD_pairs _, okD_pairs _, ?_⟩ ?_
        · rw [burn_eq hp' hs' hq1 hq2, eqv_self (okD_pairs _)]
        rintro _ v7 H7 rfl s67 rv7
        cases rv7
        refine ⟨_, rfl, ite_t rfl ?_⟩
        have n7 : ∀ b, nF nd b → ∃ o, H7 b = some o ∧ MutO o := fun b hb => let ⟨o, e, m⟩ := n6 b hb; ⟨o, s67 b o e, m⟩
        have S7 : nAt K C st nd M H7 nd.a := S6.same s67 n6
        have k07 : ∀ b o, ¬ nF nd b → H b = some o → H7 b = some o := fun b o h e => s67 b o (k06 b o h e)
        obtain ⟨dx7, g7⟩ := S7.ob
        refine ⟨_, rfl, _, dx7, _, rfl, g7, nflds_no (by decide), ?_⟩
        refine ⟨M, nd, st, nd.a, [], [], rfl, mut_on hM k07 n7, hF, S7, .nil, rfl, ?_, ?_, ?_⟩
        · intro x hx
          rw [A0.cs] at hx
          obtain ⟨c, _, rfl⟩ := List.mem_map.mp hx
          exact ⟨c.1, c.2.1, c.2.2, rfl⟩
        · rw [A0.cs, List.length_map]; have := A0.G.len; omega
        intro v8 H8 k8 n8 S8 rv8
        have h8 : H8 D2 = some (.lst ((restN cs.length).map fun n : Nat => V.int (n : Int))) := k8 _ _ nD2 (s67 _ _ (k6 _ _ nD2 h5))
        have k08 : ∀ b o, ¬ nF nd b → H b = some o → H8 b = some o := fun b o h e => k8 b o h (k07 b o h e)
        have hM8 := mut_on hM k08 n8
        have all : ∀ l : List Nat, RpAll K M H8 (l.map fun n : Nat => V.int (n : Int)) (l.map fun n : Nat => D.int (n : Int)) := fun l => by
          induction l with
          | nil => exact .nil
          | cons x r ih => exact .cons (.int _) ih
        refine ⟨_, rfl, ?_⟩
        show rEqD K v8 (.ref D2) H8 _
        refine kEq_op M H8 v8 (.ref D2) (.lst (unlitOf st)) (.lst (unlitOf st)) (fun z => z = .bl true) _ (.inl rv8) (.inr ⟨D2, _, _, rfl, rfl, h8, er ▸ all _⟩) (fun a ha => let ⟨o, e, _⟩ := hM8 a ha; ⟨o, e⟩) ⟨?_, ?_, ?_⟩ ?_
        · rw [unlit_eq A0]; exact (okD_nums _).1
        · rw [unlit_eq A0]; exact (okD_nums _).1
        · rw [unlit_eq A0, eqv_self (okD_nums _).1]
        rintro _ v9 H9 rfl s89 rv9
        cases rv9
        refine q H9 (fun b o h e => s89 b o (k08 b o h e)) (fun b hb => ?_) (S8.same s89 n8)
        obtain ⟨o, e, m⟩ := n8 b hb
        exact ⟨o, s89 b o e, m⟩
end
end FW
set_option Elab.async false
set_option linter.all false
set_option maxRecDepth 100000
set_option maxHeartbeats 8000000
namespace AL
open PySem PySem.Spec PyProof.Rows L2 FW
theorem FnUp {P : Program} {w : World} {K : PySem.W.Frag} {mg : Str → Option Value} {base : Heap} {CX : CXT} {k k' : Nat} {f : Addr} {fd : FuncData} {ps : List Str} {sp : Sp} (h : k ≤ k') (F : FnOk P w K mg base CX k f fd ps sp) : FnOk P w K mg base CX k' f fd ps sp :=
  ⟨F.len, fun A outer s H args us vs Q E hr a b c d => F.run A outer s H args us vs Q E (hr.mono h) a b c d⟩
section
variable (P : Program) (w : World) (K : PySem.W.Frag) (mg : Str → Option Value) (base : Heap) (C : Addr)
structure OkM (k : Nat) (m : Str) (ps : List Str) (sp : OSp NSt) : Prop where
  ex : ∃ f fd, Meth K C m f ∧ FnOk P w K mg base CX0 k f fd ps (liftOb K nF (nAt K C) sp) ∧ Binds K fd ps []
structure OkI (k : Nat) (ps : List Str) (sp : ISp NSt) : Prop where
  ex : ∃ f fd, Mk K C f ∧ FnOk P w K mg base CX0 k f fd ps (liftIb K C nF (nAt K C) sp) ∧ Binds K fd ps []
structure OkF (k : Nat) (x : Str) (ps : List Str) (sp : Sp) : Prop where
  ex : ∃ f fd, FnOk P w K mg base CX0 k f fd ps sp ∧ mg x = some (.ref f) ∧ PySem.W.keepIn K (.ref f) = true ∧ Binds K fd ps []
end
abbrev NN (K : PySem.W.Frag) (C : Addr) : NdN → NSt → En → Prop := NE nF (nAt K C)
abbrev DE : Addr → List (Int × Int) → En → Prop := NE dF dAt
section
variable {X : Cx} {Φ : Cl} [ok : ClOk Φ] {pos : Pos} {M : Addr → Prop} {σ : L2.St} {H : Hp} {ρ : Ev} {C : Addr}
/-- a, b = Night(x), {} -/
def wNightD (K : PySem.W.Frag) (C : Addr) (i j1 j2 : Nat) (s : ISp NSt) : WS := fun R ρ => ∃ x, ρ[i]? = some (.d x) ∧ s [x] fun st => ∀ nd e1, NN K C nd st e1 → ∀ ld e2, DE ld [] e2 → R.nx ((ρ.set j1 e1).set j2 e2)
theorem qs_nightD {s : ISp NSt} {k : Nat} {f : Addr} {fd : FuncData} {ps : List Str} {CX : CXT} {E : XK} {i j1 j2 : Nat} {cn x y z : Str} {px py pt p2 p3 p4 pd : Pos} {kt k2 pt2} (OC : ObjC X.K C nNm nF (nAt X.K C)) (hK : X.K = Φ.K) (sm : MonoI s) (Mk_ : Mk X.K C f) (Fo : FnOk X.prog X.w X.K X.mg X.base CX k f fd ps (liftIb X.K C nF (nAt X.K C) s)) (hr : Room (k + 1) X.A) (hg : Gl X cn) (hm : X.mg cn = some (.ref C)) (hb : Binds X.K fd ps []) (hxp : Passes CX X E)
    (hc : X.calm = true) (hN : X.N.Nodup) (h1 : X.N[j1]? = some x) (h2 : X.N[j2]? = some y) (h12 : j1 ≠ j2) (hx : X.env.scope.names.lookup x = some .local) (hy : X.env.scope.names.lookup y = some .local) (hi : X.N[i]? = some z) (hv : Vis X.env.scope z) (hi1 : j1 ≠ i)
    (hw : swappedStores [.Tuple [.Name x px, .Name y py] kt pt] (.Tuple [.Call (.Name cn p2) [.Name z p3] [] p4, .Dict [] [] pd] k2 pt2) X.env = pure (some [x, y]))
    (hd : (z == ("__debug__" : Str)) = false := by decide) (hcd : (z == ("__classdict__" : Str)) = false := by decide) (hdb : (cn == ("__debug__" : Str)) = false := by decide)
    (he : starEach (.Name z p3 :: []) X.env = (false, eval (.Name z p3) X.env) :: starEach [] X.env := by rfl) (hpl : (backTo p4 (starEach [] X.env)).any (·.1) = false := by rfl)
    (hs : swapsWithSole [.Tuple [.Name x px, .Name y py] kt pt] (.Tuple [.Call (.Name cn p2) [.Name z p3] [] p4, .Dict [] [] pd] k2 pt2) pos.line X.env = pure false := by rfl)
    (s1 : starEach (.Call (.Name cn p2) [.Name z p3] [] p4 :: [.Dict [] [] pd]) X.env = (false, eval (.Call (.Name cn p2) [.Name z p3] [] p4) X.env) :: starEach [.Dict [] [] pd] X.env := by rfl) (s2 : starEach (.Dict [] [] pd :: []) X.env = (false, eval (.Dict [] [] pd) X.env) :: starEach [] X.env := by rfl) :
    QS X Φ (.Assign [.Tuple [.Name x px, .Name y py] kt pt] (.Tuple [.Call (.Name cn p2) [.Name z p3] [] p4, .Dict [] [] pd] k2 pt2) pos) (wNightD X.K C i j1 j2 s) := by
  refine ⟨fun ρ R R' h ⟨x, a, q⟩ => ⟨x, a, sm _ _ _ (fun st p nd e' he ld e2 he2 => h.nx _ (p nd e' he ld e2 he2)) q⟩,
    PSw (ps_par hc hN h1 h2 h12 hx hy (pa_cons (pe_make Mk_ Fo hr hg hm hb .nil hxp (pa_cons (pe_var hi hv hd hcd) pa_nil he) hdb he hpl) (pa_cons pe_dnewK pa_nil s2) s1) hw hs) fun D σ H ⟨M, ρ, A, x, hρ, q⟩ => ?_⟩
  refine tpar_i (tcons_i (make_run (j := j1) OC hK sm A rfl hρ (sm _ _ _ (fun st p a M' H' nd e' hN A' S' => ?_) q)))
  refine tcons_i fun ld hld => ?_
  obtain ⟨A2, S2⟩ := A'.newObj (i := j2) (F := dF ld) (P := dAt [] ld) (a := ld) (H' := upd H' ld (.dK [])) (same_upd hld) (fun b hb => by rw [show b = ld from hb]; exact hld) (fun b hb => ⟨(.dK [] : HO), by rw [show b = ld from hb]; exact upd_same, trivial⟩) (dStab [] ld) ⟨rfl, upd_same⟩
  exact ⟨_, _, rfl, p nd e' hN ld _ ⟨false, rfl⟩ _ _ _ A2 (S'.trans S2)⟩
/-- d[k] = v, names -/
def wPutD (i j l : Nat) : WS := fun R ρ => ∃ (ld : Addr) (L : List (Int × Int)) (k v : Int) (e : En), ρ[i]? = some e ∧ DE ld L e ∧ ρ[j]? = some (.d (.int k)) ∧ ρ[l]? = some (.d (.int v)) ∧ k ∉ L.map (·.1) ∧ L.length < 1000 ∧ ∀ e', DE ld (L ++ [(k, v)]) e' → R.nx (ρ.set i e')
theorem qs_putD {i j l : Nat} {x y u : Str} {p1 p2 p3 p4 : Pos} (hu : X.A.units + 1 < cLine) (hi : X.N[i]? = some x) (hvi : Vis X.env.scope x) (hj : X.N[j]? = some y) (hvj : Vis X.env.scope y) (hl : X.N[l]? = some u) (hvl : Vis X.env.scope u)
    (hs : swapsWith (.Name u p4) (some (.Subscript (.Name x p1) (.Name y p2) p3)) pos.line X.env = pure false := by rfl)
    (d1 : (x == ("__debug__" : Str)) = false := by decide) (d2 : (x == ("__classdict__" : Str)) = false := by decide) (d3 : (y == ("__debug__" : Str)) = false := by decide) (d4 : (y == ("__classdict__" : Str)) = false := by decide) (d5 : (u == ("__debug__" : Str)) = false := by decide) (d6 : (u == ("__classdict__" : Str)) = false := by decide) :
    QS X Φ (.Assign [.Subscript (.Name x p1) (.Name y p2) p3] (.Name u p4) pos) (wPutD i j l) := by
  refine ⟨fun ρ R R' h ⟨ld, L, k, v, e, a1, a2, a3, a4, a5, a6, q⟩ => ⟨ld, L, k, v, e, a1, a2, a3, a4, a5, a6, fun e' he => h.nx _ (q e' he)⟩,
    PSw (ps_dput hu (pe_var hi hvi d1 d2) (pe_var hj hvj d3 d4) (pe_var hl hvl d5 d6) hs) fun D σ H ⟨M, ρ, A, ld, L, k, v, e, a1, ⟨w, e1⟩, a3, a4, a5, a6, q⟩ => ?_⟩
  subst e1
  have slot : ∀ {n : Nat} {en : En}, ρ[n]? = some en → ∃ o, σ[n]? = some o ∧ SlotR Φ M H en o := fun {n en} h => by
    have hn : n < σ.length := by rw [A.len]; exact (List.getElem?_eq_some_iff.mp h).1
    exact ⟨_, List.getElem?_eq_getElem hn, A.slot n en _ h (List.getElem?_eq_getElem hn)⟩
  obtain ⟨oi, si, a, rfl, f0, g0, r0⟩ := slot a1
  obtain ⟨oj, sj, vj, rfl, rj⟩ := slot a3
  obtain ⟨ol, sl, vl, rfl, rl⟩ := slot a4
  cases rj
  cases rl
  obtain ⟨rfl, hL⟩ := r0
  have hnew : putK (intKs L) (Sum.inl k : L2.Key) (V.int v) = intKs (L ++ [(k, v)]) := put_new (es := L) a5
  obtain ⟨A2, S2⟩ := A.putObj (H' := upd H a (.dK (intKs (L ++ [(k, v)])))) a1 si (fun b o hb e => by rw [upd_ne (fun z => hb z)]; exact e) (fun b hb => ⟨(.dK (intKs (L ++ [(k, v)])) : HO), by rw [show b = a from hb]; exact upd_same, trivial⟩) (dStab (L ++ [(k, v)]) a) ⟨rfl, upd_same⟩
  refine ⟨_, sl, _, si, _, sj, a, upd H a (.dK (putK (intKs L) (Sum.inl k : L2.Key) (V.int v))), rfl, DPut.k (k := Sum.inl k) hL (by unfold intKs; rw [List.length_map]; exact small1000 (Nat.le_of_lt a6)), ?_⟩
  rw [hnew]
  exact q _ ⟨w, rfl⟩ M _ _ A2 S2
/-- _law_is_told(night, some, lit) -/
def wToldN (K : PySem.W.Frag) (C : Addr) (i c l : Nat) : WE := fun ρ Q => ∃ nd st e cs ld L e2, ρ[i]? = some e ∧ NN K C nd st e ∧ ρ[c]? = some (.d (csD cs)) ∧ ρ[l]? = some e2 ∧ DE ld L e2 ∧ i ≠ l ∧ Along st cs L ∧ ∀ e', NN K C nd st e' → Q (.bl true) (ρ.set i e')
theorem csd_T {K : PySem.W.Frag} {M M' : Addr → Prop} {H : Hp} {v : V} {cs : List Cd} (r : Rp K M H v (csD cs)) : Rp K M' H v (csD cs) := by
  cases r with
  | tup h rr =>
    refine .tup h ?_
    clear h
    revert rr
    rename_i vs
    induction cs generalizing vs with
    | nil => intro rr; cases rr; exact .nil
    | cons c r ih =>
      intro rr
      cases rr with
      | cons h1 h2 =>
        refine .cons ?_ (ih h2)
        cases h1 with
        | tup h3 r3 =>
          cases r3 with
          | cons b1 r3 =>
            cases r3 with
            | cons b2 r3 =>
              cases r3 with
              | cons b3 r3 =>
                cases r3; cases b1; cases b2; cases b3
                exact .tup h3 (.cons (.int _) (.cons (.int _) (.cons (.int _) .nil)))
theorem qe_toldN {k : Nat} {f : Addr} {fd : FuncData} {ps : List Str} {CX : CXT} {E : XK} {i c l : Nat} {x y z u : Str} {p1 p2 p3 p4 : Pos} (hK : X.K = Φ.K) (Fo : FnOk X.prog X.w X.K X.mg X.base CX k f fd ps (sp_toldN X.K C)) (hr : Room k X.A) (hm : X.mg u = some (.ref f)) (hkp : PySem.W.keepIn X.K (.ref f) = true) (hb : Binds X.K fd ps []) (hxp : Passes CX X E)
    (hi : X.N[i]? = some x) (hvi : Vis X.env.scope x) (hj : X.N[c]? = some y) (hvj : Vis X.env.scope y) (hl : X.N[l]? = some z) (hvl : Vis X.env.scope z) (hg : Gl X u := by rfl)
    (d1 : (x == ("__debug__" : Str)) = false := by decide) (d2 : (x == ("__classdict__" : Str)) = false := by decide) (d3 : (y == ("__debug__" : Str)) = false := by decide) (d4 : (y == ("__classdict__" : Str)) = false := by decide) (d5 : (z == ("__debug__" : Str)) = false := by decide) (d6 : (z == ("__classdict__" : Str)) = false := by decide) (d7 : (u == ("__debug__" : Str)) = false := by decide)
    (s1 : starEach (.Name x p1 :: [.Name y p2, .Name z p3]) X.env = (false, eval (.Name x p1) X.env) :: starEach [.Name y p2, .Name z p3] X.env := by rfl) (s2 : starEach (.Name y p2 :: [.Name z p3]) X.env = (false, eval (.Name y p2) X.env) :: starEach [.Name z p3] X.env := by rfl) (s3 : starEach (.Name z p3 :: []) X.env = (false, eval (.Name z p3) X.env) :: starEach [] X.env := by rfl)
    (hpl : (backTo pos (starEach [.Name y p2, .Name z p3] X.env)).any (·.1) = false := by rfl) :
    QE X Φ (.Call (.Name u p4) [.Name x p1, .Name y p2, .Name z p3] [] pos) (wToldN X.K C i c l) := by
  refine ⟨fun ρ Q Q' h ⟨nd, st, e, cs, ld, L, e2, a1, a2, a3, a4, a5, a6, a7, q⟩ => ⟨nd, st, e, cs, ld, L, e2, a1, a2, a3, a4, a5, a6, a7, fun e' he => h _ _ (q e' he)⟩,
    PEw (pe_call Fo hr hg hm hkp hb .nil hxp (pa_cons (pe_var hi hvi d1 d2) (pa_cons (pe_var hj hvj d3 d4) (pa_cons (pe_var hl hvl d5 d6) pa_nil s3) s2) s1) d7 s1 hpl) fun σ H Q ⟨M, ρ, A, nd, st, e, cs, ld, L, e2, a1, ⟨w, e1⟩, a3, a4, ⟨w2, e3⟩, a6, a7, q⟩ => ?_⟩
  subst e1 e3
  have slot : ∀ {n : Nat} {en : En}, ρ[n]? = some en → ∃ o, σ[n]? = some o ∧ SlotR Φ M H en o := fun {n en} h => by
    have hn : n < σ.length := by rw [A.len]; exact (List.getElem?_eq_some_iff.mp h).1
    exact ⟨_, List.getElem?_eq_getElem hn, A.slot n en _ h (List.getElem?_eq_getElem hn)⟩
  obtain ⟨oi, si, a, rfl, f0, g0, r0⟩ := slot a1
  obtain ⟨oj, sj, vj, rfl, rj⟩ := slot a3
  obtain ⟨ol, sl, al, rfl, fl, gl, rl⟩ := slot a4
  obtain ⟨rfl, hL⟩ := rl
  have far : ∀ b, nF nd b → ¬ dF al b := A.far i l w (nF nd) _ _ al a6 a1 a4 sl
  refine ⟨_, si, _, sj, _, sl, M, nd, st, a, vj, cs, al, L, rfl, A.lst, fun b hb => (f0 b hb).1, r0, hK ▸ csd_T rj, fun z => far al z rfl, hL, a7, fun H' k n at' => ?_⟩
  obtain ⟨A2, S2⟩ := A.putObj a1 si k n (nAt_stab X.K C st nd) at'
  exact q _ ⟨w, rfl⟩ M _ H' A2 S2 (.bl true)
end
end AL
namespace FW
open PySem PySem.Spec PyProof.Rows L2 AL
abbrev n_best : OSp NSt := sp_best sp_longest_from
abbrev n_can_do : OSp NSt := sp_can sp_is_within sp_is_candle sp_is_candle_number
abbrev n_do : OSp NSt := sp_do n_can_do n_best
abbrev n_init : ISp NSt := sp_init sp_check_candles
abbrev n_time := sp_time
abbrev n_burning := sp_burning
abbrev n_unlit := sp_unlit
abbrev n_deeds := sp_deeds
abbrev n_back := sp_back
theorem mono_n_best : MonoO n_best := mono_best mono_longest_from
theorem mono_n_can_do : MonoO n_can_do := mono_can mono_is_within mono_is_candle mono_is_candle_number
theorem mono_n_do : MonoO n_do := mono_do mono_n_can_do mono_n_best
theorem mono_n_init : MonoI n_init := mono_init mono_check_candles
theorem mono_n_time : MonoO n_time := mono_time
theorem mono_n_burning : MonoO n_burning := mono_burning
theorem mono_n_unlit : MonoO n_unlit := fun st xs P P' h ⟨a, b, c, q⟩ => ⟨a, b, c, h _ _ q⟩
theorem mono_n_deeds : MonoO n_deeds := mono_deeds
theorem mono_n_back : MonoO n_back := mono_back
end FW
set_option Elab.async false
set_option linter.all false
set_option maxRecDepth 100000
set_option maxHeartbeats 8000000
namespace FW
open PySem PySem.Spec PyProof.Rows L2 AL
/-! ### the plan of a turn is one -/
def lexLt (p q : Int × Int) : Prop := p.1 < q.1 ∨ (p.1 = q.1 ∧ p.2 < q.2)
def endP' (cs : List Cd) (p : Int × Int) : Int := p.1 + (at' cs p.2.toNat).1
structure LitOk (cs : List Cd) (ns : List Nat) (T : Int) (lit : List (Int × Int)) : Prop where
  num : ∀ p ∈ lit, ∃ n ∈ ns, p.2 = (n : Int) ∧ 0 ≤ p.1 ∧ p.1 ≤ (at' cs n).2.1
  nd : (lit.map (·.2)).Nodup
  t0 : 0 ≤ T
  any : ∀ t n, (∀ y ∈ lit, y.2 ≠ n) → t ≤ T → t ≤ 0 ∨ ∃ y ∈ lit, lexLt y (t, n) ∧ t ≤ endP' cs y
  at_ : ∀ x ∈ lit, x.1 ≤ 0 ∨ ∃ y ∈ lit, lexLt y x ∧ x.1 ≤ endP' cs y
  le : ∀ y ∈ lit, endP' cs y ≤ T
  eq : T = 0 ∨ ∃ y ∈ lit, endP' cs y = T
theorem lit_ok {cs : List Cd} (G : Gd cs) : ∀ (r pre : List Nat), (pre ++ r).Nodup → (∀ n ∈ pre ++ r, n < cs.length) → LitOk cs pre (pre.foldl (turn1 cs) (0, [])).1 (pre.foldl (turn1 cs) (0, [])).2 →
    LitOk cs (pre ++ r) ((pre ++ r).foldl (turn1 cs) (0, [])).1 ((pre ++ r).foldl (turn1 cs) (0, [])).2
  | [], pre, _, _, h => by rw [List.append_nil]; exact h
  | n :: r, pre, hd, hn, h => by
    have e2 : pre ++ n :: r = (pre ++ [n]) ++ r := by rw [List.append_assoc]; rfl
    have hnl : n < cs.length := hn n (List.mem_append_right _ List.mem_cons_self)
    have g := at_goodG G hnl
    have g1 := g.1.1
    have g2 := g.2.1.1
    have hnp : n ∉ pre := fun hm => (List.nodup_append.mp hd).2.2 n hm n List.mem_cons_self rfl
    rw [e2]
    refine lit_ok G r (pre ++ [n]) (by rw [← e2]; exact hd) (by rw [← e2]; exact hn) ?_
    obtain ⟨t, ht, hc⟩ := turn1_eq cs (pre.foldl (turn1 cs) (0, [])) n
    rw [List.foldl_append]
    show LitOk cs (pre ++ [n]) (turn1 cs (pre.foldl (turn1 cs) (0, [])) n).1 (turn1 cs (pre.foldl (turn1 cs) (0, [])) n).2
    generalize pre.foldl (turn1 cs) (0, []) = s at *
    have ht2 : t ≤ s.1 ∧ t ≤ (at' cs n).2.1 ∧ 0 ≤ t := by have := h.t0; rw [ht]; split <;> omega
    rcases hc with ⟨h1, hc⟩ | ⟨h1, hc⟩
    · rw [hc]
      have hno : ∀ y ∈ s.2, y.2 ≠ (n : Int) := fun y hy e => by
        obtain ⟨m, hm, e', _⟩ := h.num y hy
        have : m = n := by omega
        exact hnp (this ▸ hm)
      have hend : endP' cs (t, (n : Int)) = t + (at' cs n).1 := by unfold endP'; rw [Int.toNat_natCast]
      have bigger : ∀ {x : Int × Int}, (x.1 ≤ 0 ∨ ∃ y ∈ s.2, lexLt y x ∧ x.1 ≤ endP' cs y) → (x.1 ≤ 0 ∨ ∃ y ∈ s.2 ++ [(t, (n : Int))], lexLt y x ∧ x.1 ≤ endP' cs y) := fun {x} q => by
        rcases q with q | ⟨y, hy, q⟩
        · exact .inl q
        · exact .inr ⟨y, List.mem_append_left _ hy, q⟩
      refine ⟨fun p hp => ?_, ?_, by show 0 ≤ t + _; omega, fun u m hm hu => ?_, fun x hx => ?_, fun y hy => ?_, .inr ⟨(t, (n : Int)), List.mem_append_right _ List.mem_cons_self, hend⟩⟩
      · rcases List.mem_append.mp hp with hp | hp
        · obtain ⟨m, hm, q⟩ := h.num p hp
          exact ⟨m, List.mem_append_left _ hm, q⟩
        · rw [List.mem_singleton.mp hp]
          exact ⟨n, List.mem_append_right _ List.mem_cons_self, rfl, ht2.2.2, ht2.2.1⟩
      · rw [List.map_append, List.nodup_append]
        refine ⟨h.nd, List.nodup_cons.mpr ⟨List.not_mem_nil, List.nodup_nil⟩, fun a ha b hb e => ?_⟩
        obtain ⟨y, hy, rfl⟩ := List.mem_map.mp ha
        rw [List.map_cons, List.map_nil, List.mem_singleton] at hb
        exact hno y hy (e.trans hb)
      · have hu : u ≤ t + (at' cs n).1 := hu
        have hne : (n : Int) ≠ m := hm _ (List.mem_append_right _ List.mem_cons_self)
        by_cases q : lexLt (t, (n : Int)) (u, m)
        · exact .inr ⟨_, List.mem_append_right _ List.mem_cons_self, q, by rw [hend]; exact hu⟩
        · have hut : u ≤ t := by
            unfold lexLt at q
            have q' : ¬ (t < u ∨ (t = u ∧ (n : Int) < m)) := q
            omega
          exact bigger (x := (u, m)) (h.any u m (fun y hy => hm y (List.mem_append_left _ hy)) (by omega))
      · rcases List.mem_append.mp hx with hx | hx
        · exact bigger (h.at_ x hx)
        · rw [List.mem_singleton.mp hx]
          exact bigger (x := (t, (n : Int))) (h.any t n hno ht2.1)
      · show endP' cs y ≤ t + _
        rcases List.mem_append.mp hy with hy | hy
        · have := h.le y hy
          omega
        · rw [List.mem_singleton.mp hy, hend]; exact Int.le_refl _
    · rw [hc]
      refine ⟨fun p hp => ?_, h.nd, h.t0, h.any, h.at_, h.le, h.eq⟩
      obtain ⟨m, hm, q⟩ := h.num p hp
      exact ⟨m, List.mem_append_left _ hm, q⟩
/-- the greatest end -/
def top (cs : List Cd) (T : Int) (ps : List (Int × Int)) : Int := ps.foldl (fun T p => if p.1 + (at' cs p.2.toNat).1 > T then p.1 + (at' cs p.2.toNat).1 else T) T
theorem top_ge (cs : List Cd) : ∀ (ps : List (Int × Int)) (T : Int), T ≤ top cs T ps ∧ ∀ y ∈ ps, endP' cs y ≤ top cs T ps
  | [], T => ⟨Int.le_refl _, fun _ h => nomatch h⟩
  | p :: r, T => by
    have ih := top_ge cs r (if p.1 + (at' cs p.2.toNat).1 > T then p.1 + (at' cs p.2.toNat).1 else T)
    have e : top cs T (p :: r) = top cs (if p.1 + (at' cs p.2.toNat).1 > T then p.1 + (at' cs p.2.toNat).1 else T) r := rfl
    have h1 : T ≤ (if p.1 + (at' cs p.2.toNat).1 > T then p.1 + (at' cs p.2.toNat).1 else T) := by split <;> omega
    have h2 : endP' cs p ≤ (if p.1 + (at' cs p.2.toNat).1 > T then p.1 + (at' cs p.2.toNat).1 else T) := by unfold endP'; split <;> omega
    rw [e]
    refine ⟨Int.le_trans h1 ih.1, fun y hy => ?_⟩
    rcases List.mem_cons.mp hy with rfl | hy
    · exact Int.le_trans h2 ih.1
    · exact ih.2 y hy
theorem top_eq (cs : List Cd) : ∀ (ps : List (Int × Int)) (T : Int), top cs T ps = T ∨ ∃ y ∈ ps, endP' cs y = top cs T ps
  | [], T => .inl rfl
  | p :: r, T => by
    have e : top cs T (p :: r) = top cs (if p.1 + (at' cs p.2.toNat).1 > T then p.1 + (at' cs p.2.toNat).1 else T) r := rfl
    rw [e]
    rcases top_eq cs r (if p.1 + (at' cs p.2.toNat).1 > T then p.1 + (at' cs p.2.toNat).1 else T) with h | ⟨y, hy, h⟩
    · by_cases hd : p.1 + (at' cs p.2.toNat).1 > T
      · rw [if_pos hd] at h ⊢
        exact .inr ⟨p, List.mem_cons_self, by rw [h]; rfl⟩
      · rw [if_neg hd] at h ⊢
        exact .inl h
    · exact .inr ⟨y, List.mem_cons_of_mem _ hy, h⟩
theorem judge_go {cs : List Cd} {ns : List Nat} {T : Int} {lit qs : List (Int × Int)} (L : LitOk cs ns T lit) (hn : ∀ n ∈ ns, n < cs.length) (hp : qs.Perm lit) (hs : qs.Pairwise lexLe) :
    ∀ (r pre : List (Int × Int)), qs = pre ++ r → ∀ e, (∀ p ∈ r, e ≤ p.1) → judgeGo cs r (pre.map (·.2)) e (top cs 0 pre) = some (top cs 0 qs)
  | [], pre, h, e, _ => by rw [List.append_nil] at h; rw [h]; rfl
  | (t, n) :: r, pre, h, e, he => by
    have hm : (t, n) ∈ lit := hp.mem_iff.mp (by rw [h]; exact List.mem_append_right _ List.mem_cons_self)
    obtain ⟨m, hmn, e1, h0, hdamp⟩ := L.num _ hm
    have e1 : n = (m : Int) := e1
    have hml := hn m hmn
    have hnat : n.toNat = m := by omega
    have nd : (qs.map (·.2)).Nodup := (hp.map (·.2)).nodup_iff.mpr L.nd
    rw [h, List.map_append, List.nodup_append] at nd
    have hps := hs
    rw [h, List.pairwise_append] at hps
    have htop : t ≤ top cs 0 pre := by
      have h1 := (top_ge cs pre 0).1
      rcases L.at_ _ hm with q | ⟨y, hy, q1, q2⟩
      · have q : t ≤ 0 := q
        omega
      · have q2 : t ≤ endP' cs y := q2
        have hyq : y ∈ pre ++ (t, n) :: r := by rw [← h]; exact hp.mem_iff.mpr hy
        rcases List.mem_append.mp hyq with hy | hy
        · have := (top_ge cs pre 0).2 y hy
          omega
        · exfalso
          unfold lexLt at q1
          have q1 : y.1 < t ∨ (y.1 = t ∧ y.2 < n) := q1
          rcases List.mem_cons.mp hy with rfl | hy
          · have q1 : t < t ∨ (t = t ∧ n < n) := q1
            omega
          · have := (List.pairwise_cons.mp hps.2.1).1 y hy
            unfold lexLe at this
            have this : t < y.1 ∨ (t = y.1 ∧ n ≤ y.2) := this
            omega
    unfold judgeGo
    have hz : n ∉ pre.map (·.2) := fun z => nd.2.2 n z n (by rw [List.map_cons]; exact List.mem_cons_self) rfl
    rw [if_pos ⟨⟨by omega, by omega⟩, hz, he _ List.mem_cons_self, by rw [hnat]; exact hdamp, htop⟩]
    · have e3 : qs = (pre ++ [(t, n)]) ++ r := by rw [h, List.append_assoc]; rfl
      have ih := judge_go L hn hp hs r (pre ++ [(t, n)]) e3 t fun p hpr => by
        have := (List.pairwise_cons.mp hps.2.1).1 p hpr
        unfold lexLe at this
        have this : t < p.1 ∨ (t = p.1 ∧ n ≤ p.2) := this
        omega
      have e4 : top cs 0 (pre ++ [(t, n)]) = (if t + (at' cs n.toNat).1 > top cs 0 pre then t + (at' cs n.toNat).1 else top cs 0 pre) := by unfold top; rw [List.foldl_append]; rfl
      rw [e4, List.map_append] at ih
      exact ih
theorem turn_len' (cs : List Cd) (ns : List Nat) : (turnM cs ns).2.length ≤ ns.length := by
  have := turn_len cs ns (0, [])
  unfold turnM
  simp at this
  exact this
theorem judge_turn {cs : List Cd} (G : Gd cs) {ns : List Nat} (hn : ∀ n ∈ ns, n < cs.length) (hnd : ns.Nodup) {qs : List (Int × Int)} (hp : qs.Perm (turnM cs ns).2) (hs : qs.Pairwise lexLe) : judgeM cs qs = some (turnM cs ns).1 := by
  have L := lit_ok G ns [] (by simpa using hnd) (by simpa using hn) ⟨(fun _ h => nomatch h), List.nodup_nil, Int.le_refl 0, (fun t n _ h => .inl h), (fun _ h => nomatch h), (fun _ h => nomatch h), .inl rfl⟩
  rw [List.nil_append] at L
  have J := judge_go L hn hp hs qs [] rfl 0 fun p hpm => by
    obtain ⟨m, _, _, h0, _⟩ := L.num p (hp.mem_iff.mp hpm)
    exact h0
  have hT : top cs 0 qs = (turnM cs ns).1 := by
    have g1 := top_ge cs qs 0
    have t0 := L.t0
    have le1 : top cs 0 qs ≤ (turnM cs ns).1 := by
      rcases top_eq cs qs 0 with h | ⟨y, hy, h⟩
      · rw [h]; exact t0
      · rw [← h]; exact L.le y (hp.mem_iff.mp hy)
    have le2 : (turnM cs ns).1 ≤ top cs 0 qs := by
      rcases L.eq with h | ⟨y, hy, h⟩
      · have h : (turnM cs ns).1 = 0 := h
        rw [h]; exact g1.1
      · have h : endP' cs y = (turnM cs ns).1 := h
        rw [← h]; exact g1.2 y (hp.mem_iff.mpr hy)
    omega
  unfold judgeM
  rw [← hT]
  exact J
theorem judge_longest {cs : List Cd} (G : Goods cs) {t : Int} {qs : List (Int × Int)} (h : LongestR cs t qs) : judgeM cs qs = some t ∧ isBest cs t ∧ qs.length ≤ 12 := by
  have e := longestR_best G h
  obtain ⟨ns, hr, rfl, hp, hs⟩ := h
  have hn : ∀ n ∈ ns, n < cs.length := fun n hm => List.mem_range.mp (hr.1.mem_iff.mp hm)
  have hnd : ns.Nodup := hr.1.nodup_iff.mpr List.nodup_range
  refine ⟨judge_turn G.gd hn hnd hp hs, by rw [e]; exact best_is cs, ?_⟩
  rw [hp.length_eq]
  have h1 := turn_len' cs ns
  have h2 : ns.length ≤ 12 := by rw [hr.1.length_eq, List.length_range]; exact G.len
  omega
/-! ### what a night tells -/
/-- a night of candles that can be -/
structure NOk (st : NSt) (cs : List Cd) : Prop where
  G : Goods cs
  now0 : 0 ≤ st.now
  cs : st.cs = cs.map cD
def unlN (st : NSt) : List Nat := (List.range st.cs.length).filter fun n : Nat => dryB st n && leftB st (n : Int)
def bestS (st : NSt) (cs : List Cd) : Int := if st.now ≤ lastOf st then bestT (pick cs (unlN st)) (lastOf st) else lastOf st
theorem unlitOf_eq (st : NSt) : unlitOf st = (unlN st).map nD := rfl
section
variable {st : NSt} {cs : List Cd}
theorem NOk.len (O : NOk st cs) : st.cs.length = cs.length := by rw [O.cs, List.length_map]
theorem NOk.at (O : NOk st cs) {n : Nat} (h : n < cs.length) : st.cs[n]? = some (.tup [.int (at' cs n).1, .int (at' cs n).2.1, .int (at' cs n).2.2]) := by rw [O.cs, List.getElem?_map, at_get h]; rfl
theorem NOk.form (O : NOk st cs) : ∀ x ∈ st.cs, ∃ l d p : Int, x = .tup [.int l, .int d, .int p] := fun x hx => by
  rw [O.cs] at hx
  obtain ⟨c, _, rfl⟩ := List.mem_map.mp hx
  exact ⟨c.1, c.2.1, c.2.2, rfl⟩
theorem NOk.few (O : NOk st cs) : st.cs.length < 1000 := by have := O.G.len; rw [O.len]; omega
theorem dry_of (O : NOk st cs) {n : Nat} (h : n < cs.length) : dryB st n = decide (st.now ≤ (at' cs n).2.1) := by
  unfold dryB
  rw [O.at h]
theorem unl_lt (O : NOk st cs) : ∀ n ∈ unlN st, n < cs.length := fun n h => by
  have := List.mem_range.mp (List.mem_filter.mp h).1
  rwa [O.len] at this
theorem unl_nd (st : NSt) : (unlN st).Nodup := List.nodup_range.filter _
theorem mem_unl (O : NOk st cs) {n : Nat} : n ∈ unlN st ↔ n < cs.length ∧ st.now ≤ (at' cs n).2.1 ∧ leftB st (n : Int) = true := by
  unfold unlN
  rw [List.mem_filter, List.mem_range, O.len, Bool.and_eq_true]
  constructor
  · rintro ⟨h1, h2, h3⟩
    rw [dry_of O h1, decide_eq_true_eq] at h2
    exact ⟨h1, h2, h3⟩
  · rintro ⟨h1, h2, h3⟩
    exact ⟨h1, by rw [dry_of O h1, decide_eq_true_eq]; exact h2, h3⟩
theorem unl_nums (O : NOk st cs) : Nums cs (unlN st) := ⟨unl_lt O, by
  have h := List.length_filter_le (fun n : Nat => dryB st n && leftB st (n : Int)) (List.range st.cs.length)
  rw [List.length_range, O.len] at h
  have := O.G.len
  unfold unlN
  rw [O.len]
  omega⟩
theorem max_ge : ∀ {l : List Int} {x : Int}, x ∈ l → x ≤ (l.max?).getD 0 := fun {l x} h => by
  cases e : l.max? with
  | none => rw [List.max?_eq_none_iff.mp e] at h; cases h
  | some m => exact (List.max?_eq_some_iff.mp e).2 x h
theorem max_mem {l : List Int} (h : l ≠ []) : (l.max?).getD 0 ∈ l := by
  cases e : l.max? with
  | none => exact absurd (List.max?_eq_none_iff.mp e) h
  | some m => exact (List.max?_eq_some_iff.mp e).1
theorem max_snoc {l : List Int} {x : Int} (hx : 0 ≤ x) : ((l ++ [x]).max?).getD 0 = if (l.max?).getD 0 < x then x else (l.max?).getD 0 := by
  have h1 := max_mem (l := l ++ [x]) (by simp)
  have h2 : x ≤ ((l ++ [x]).max?).getD 0 := max_ge (by simp)
  have h3 : ∀ y ∈ l, y ≤ ((l ++ [x]).max?).getD 0 := fun y hy => max_ge (List.mem_append_left _ hy)
  generalize ((l ++ [x]).max?).getD 0 = m at *
  by_cases hl : l = []
  · subst hl
    simp at h1
    subst h1
    show m = if (0 : Int) < m then m else 0
    split <;> omega
  · have h4 := max_mem hl
    have h5 := h3 _ h4
    have h6 : ∀ y ∈ l, y ≤ (l.max?).getD 0 := fun y hy => max_ge hy
    generalize (l.max?).getD 0 = k at *
    rcases List.mem_append.mp h1 with h | h
    · have := h6 m h
      split <;> omega
    · have := List.mem_singleton.mp h
      split <;> omega
theorem sumE_sub {a b : List Cd} (h : a.Sublist b) (G : Alls b) (e : Int) : sumE a e ≤ sumE b e := by
  induction h with
  | slnil => exact Int.le_refl _
  | cons x _ ih =>
    have := ih fun y hy => G y (List.mem_cons_of_mem _ hy)
    have := (oneE_nn (G x List.mem_cons_self) e).1
    rw [sumE_cons]
    omega
  | cons_cons x _ ih =>
    have := ih fun y hy => G y (List.mem_cons_of_mem _ hy)
    rw [sumE_cons, sumE_cons]
    omega
theorem bestT_sub {a b : List Nat} (h : a.Sublist b) (G : Goods cs) (hb : ∀ n ∈ b, n < cs.length) (T : Int) : bestT (pick cs a) T ≤ bestT (pick cs b) T :=
  bestT_mono0 fun e _ => sumE_sub (h.map _) (alls_pick G.all hb) e
theorem bestS_ge (O : NOk st cs) : lastOf st ≤ bestS st cs := by
  unfold bestS
  split
  · exact bestT_ge (alls_pick O.G.all (unl_lt O)) _
  · exact Int.le_refl _
/-! the deeds -/
theorem NOk.wait (O : NOk st cs) {k : Int} (hk : 0 ≤ k) : NOk (after st (.wait k)) cs := ⟨O.G, by show 0 ≤ st.now + k; have := O.now0; omega, O.cs⟩
theorem NOk.light (O : NOk st cs) {n : Nat} : NOk (after st (.light n)) cs := ⟨O.G, O.now0, O.cs⟩
theorem last_wait (st : NSt) (k : Int) : lastOf (after st (.wait k)) = lastOf st := rfl
theorem unl_wait (O : NOk st cs) {k : Int} (hk : 0 ≤ k) : (unlN (after st (.wait k))).Sublist (unlN st) := by
  have e : unlN (after st (.wait k)) = (unlN st).filter fun n : Nat => dryB (after st (.wait k)) n := by
    unfold unlN
    rw [List.filter_filter]
    refine List.filter_congr fun n hn => ?_
    have hn : n < cs.length := by rw [← O.len]; exact List.mem_range.mp hn
    have e1 := dry_of O hn
    have e2 := dry_of (O.wait hk) hn
    show (dryB (after st (.wait k)) n && leftB st (n : Int)) = (dryB (after st (.wait k)) n && (dryB st n && leftB st (n : Int)))
    rw [e1, e2]
    show (decide (st.now + k ≤ (at' cs n).2.1) && leftB st (n : Int)) = (decide (st.now + k ≤ (at' cs n).2.1) && (decide (st.now ≤ (at' cs n).2.1) && leftB st (n : Int)))
    by_cases h : st.now + k ≤ (at' cs n).2.1
    · rw [decide_eq_true h, decide_eq_true (by omega)]; simp
    · rw [decide_eq_false h, Bool.false_and, Bool.false_and]
  rw [e]
  exact List.filter_sublist
theorem last_light (O : NOk st cs) {n : Nat} (h : n < cs.length) : lastOf (after st (.light n)) = if lastOf st < st.now + (at' cs n).1 then st.now + (at' cs n).1 else lastOf st := by
  have e : lenOf st.cs n = (at' cs n).1 := lenOf_at (O.at h)
  unfold lastOf
  show (((st.ends ++ [((n : Int), st.now + lenOf st.cs n)]).map (·.2)).max?).getD 0 = _
  rw [List.map_append, e]
  have g := (at_good O.G h).1.1
  have := O.now0
  exact max_snoc (x := st.now + (at' cs n).1) (by omega)
theorem left_light (st : NSt) (n : Nat) (m : Int) : leftB (after st (.light n)) m = (leftB st m && !decide (m = (n : Int))) := by
  unfold leftB
  show (!decide (m ∈ (st.ends ++ [((n : Int), st.now + lenOf st.cs n)]).map (·.1)) && !decide (m ∈ st.lost)) = _
  rw [List.map_append]
  by_cases h : m = (n : Int)
  · subst h
    simp
  · rw [decide_eq_false h]
    have e : (m ∈ st.ends.map (·.1) ++ [((n : Int), st.now + lenOf st.cs n)].map (·.1)) ↔ m ∈ st.ends.map (·.1) := by
      rw [List.mem_append]
      constructor
      · rintro (z | z)
        · exact z
        · exact absurd (List.mem_singleton.mp z) h
      · exact .inl
    by_cases hm : m ∈ st.ends.map (·.1)
    · rw [decide_eq_true (e.mpr hm), decide_eq_true hm]; rfl
    · rw [decide_eq_false (fun z => hm (e.mp z)), decide_eq_false hm]; cases decide (m ∈ st.lost) <;> rfl
theorem perm_del {n : Nat} : ∀ {l : List Nat}, l.Nodup → n ∈ l → l.Perm (n :: l.filter fun m => !decide (m = n))
  | [], _, h => by cases h
  | x :: r, nd, h => by
    have nd' := List.nodup_cons.mp nd
    by_cases hx : x = n
    · subst hx
      have : (x :: r).filter (fun m => !decide (m = x)) = r := by
        rw [List.filter_cons_of_neg (by simp)]
        exact List.filter_eq_self.mpr fun y hy => by
          have : y ≠ x := fun z => nd'.1 (by rw [← z]; exact hy)
          simp [this]
      rw [this]
    · rw [List.filter_cons_of_pos (by simp [hx])]
      rcases List.mem_cons.mp h with h | h
      · exact absurd h.symm hx
      · exact ((perm_del nd'.2 h).cons x).trans (List.Perm.swap n x _)
theorem unl_light (O : NOk st cs) {n : Nat} (h : n ∈ unlN st) : (unlN st).Perm (n :: unlN (after st (.light n))) := by
  have e : unlN (after st (.light n)) = (unlN st).filter fun m => !decide (m = n) := by
    unfold unlN
    rw [List.filter_filter]
    refine List.filter_congr fun m hm => ?_
    rw [left_light]
    show (dryB st m && (leftB st (m : Int) && !decide ((m : Int) = (n : Int)))) = (!decide (m = n) && (dryB st m && leftB st (m : Int)))
    have e : decide ((m : Int) = (n : Int)) = decide (m = n) := decide_eq_decide.mpr ⟨fun z => by omega, fun z => by omega⟩
    rw [e]
    cases dryB st m <;> cases leftB st (m : Int) <;> cases decide (m = n) <;> rfl
  rw [e]
  exact perm_del (unl_nd st) h
theorem best_wait (O : NOk st cs) {k : Int} (hk : 0 ≤ k) : bestS (after st (.wait k)) cs ≤ bestS st cs := by
  have h1 := bestS_ge O
  unfold bestS at h1 ⊢
  rw [last_wait]
  have en : (after st (.wait k)).now = st.now + k := rfl
  rw [en]
  by_cases h : st.now + k ≤ lastOf st
  · rw [if_pos h, if_pos (by omega)]
    exact bestT_sub (unl_wait O hk) O.G (unl_lt O) _
  · rw [if_neg h]
    exact h1
theorem best_light (O : NOk st cs) {n : Nat} (h : n ∈ unlN st) (hf : st.now ≤ lastOf st) : bestS (after st (.light n)) cs ≤ bestS st cs := by
  obtain ⟨h1, h2, h3⟩ := (mem_unl O).mp h
  have O' := NOk.light O (n := n)
  have g := at_good O.G h1
  unfold bestS
  rw [if_pos hf]
  have en : (after st (.light n)).now = st.now := rfl
  have el := last_light O h1
  have hl : st.now ≤ lastOf (after st (.light n)) := by rw [el]; split <;> omega
  rw [en, if_pos hl, el]
  have hp : bestT (pick cs (unlN st)) (lastOf st) = bestT (at' cs n :: pick cs (unlN (after st (.light n)))) (lastOf st) := bestT_perm (pick_perm (unl_light O h)) _
  rw [hp]
  exact bestT_light (alls_pick O.G.all (unl_lt O')) g hf h2
end
/-! ### the methods asked of a night of candles that can be -/
theorem read_best {st : NSt} {cs : List Cd} (O : NOk st cs) {Q : D → NSt → Prop} (q : Q (.int (bestS st cs)) st) : n_best st [] Q := by
  refine ⟨rfl, O.form, O.few, fun h => ?_, fun h => ?_⟩
  · have e : bestS st cs = lastOf st := by unfold bestS; rw [if_neg h]
    rw [e] at q; exact q
  · have e : bestS st cs = bestT (pick cs (unlN st)) (lastOf st) := by unfold bestS; rw [if_pos h]
    rw [e] at q
    have := O.now0
    exact ⟨cs, unlN st, .lst st.cs, .lst (unlitOf st), lastOf st, rfl, .inr (by rw [O.cs]), .inl rfl, O.G.gd, unl_nums O, by omega, _, rfl, q⟩
theorem do_wait {st : NSt} {cs : List Cd} (O : NOk st cs) {k : Int} (h1 : 1 ≤ k) (h2 : k ≤ 9999) (hd : st.done.length < 1000) {Q : D → NSt → Prop} (q : Q (.int (bestS (after st (.wait k)) cs)) (after st (.wait k))) : n_do st [Deed.d (.wait k)] Q := by
  refine ⟨.wait k, rfl, trivial, hd, ?_⟩
  refine ⟨"wait", .int k, rfl, .inl ⟨rfl, (.int k, 1, 9999), rfl, rfl, _, rfl, ?_, rfl, read_best (O.wait (by omega)) q⟩⟩
  rw [within_t h1 h2]
theorem do_light {st : NSt} {cs : List Cd} (O : NOk st cs) {n : Nat} (hn : n ∈ unlN st) (hf : st.now ≤ lastOf st) (he : st.ends.length < 1000) (hd : st.done.length < 1000) {Q : D → NSt → Prop} (q : Q (.int (bestS (after st (.light n)) cs)) (after st (.light n))) : n_do st [Deed.d (.light n)] Q := by
  obtain ⟨h1, h2, h3⟩ := (mem_unl O).mp hn
  have hm : (n : Int) ∉ st.ends.map (·.1) := fun z => by
    unfold leftB at h3
    rw [decide_eq_true z] at h3
    cases h3
  refine ⟨.light n, rfl, ⟨⟨_, _, _, O.at h1⟩, hm, he⟩, hd, ?_⟩
  refine ⟨"light", .int n, rfl, .inr (.inr ⟨by decide, by decide, cs, .lst st.cs, .int n, rfl, .inr (by rw [O.cs]), rfl, .inr ⟨?_, n, _, _, _, rfl, O.at h1, ?_, rfl, read_best O.light q⟩⟩)⟩
  · have : (n : Int) ≤ (cs.length : Int) - 1 := by omega
    rw [within_t (by omega) this]
  · rw [h3, decide_eq_true h2, decide_eq_true hf]; rfl
end FW
set_option Elab.async false
set_option linter.all false
set_option maxRecDepth 100000
set_option maxHeartbeats 8000000
namespace FW
open PySem PySem.Spec PyProof.Rows L2 AL
/-! ### a night by a longest plan -/
def lightN : Deed → Option Int
  | .light n => some (n : Int)
  | _ => none
def lightsOf (ds : List Deed) : List Int := ds.filterMap lightN
theorem judge_all {cs : List Cd} {w : Int} : ∀ {post : List (Int × Int)} {lit : List Int} {e T : Int}, judgeGo cs post lit e T = some w →
    (∀ p ∈ post, (0 ≤ p.2 ∧ p.2 < cs.length) ∧ p.2 ∉ lit ∧ e ≤ p.1 ∧ p.1 ≤ (at' cs p.2.toNat).2.1) ∧ (post.map (·.2)).Nodup
  | [], _, _, _, _ => ⟨fun _ h => (nomatch h), List.nodup_nil⟩
  | (t, n) :: r, lit, e, T, h => by
    unfold judgeGo at h
    by_cases hc : (0 ≤ n ∧ n < cs.length) ∧ n ∉ lit ∧ e ≤ t ∧ t ≤ (at' cs n.toNat).2.1 ∧ t ≤ T
    · rw [if_pos hc] at h
      obtain ⟨h1, h2⟩ := judge_all h
      refine ⟨fun p hp => ?_, ?_⟩
      · rcases List.mem_cons.mp hp with rfl | hp
        · exact ⟨hc.1, hc.2.1, hc.2.2.1, hc.2.2.2.1⟩
        · obtain ⟨a, b, c, d⟩ := h1 p hp
          exact ⟨a, fun z => b (List.mem_append_left _ z), by have := hc.2.2.1; omega, d⟩
      · rw [List.map_cons, List.nodup_cons]
        refine ⟨fun z => ?_, h2⟩
        obtain ⟨p, hp, e2⟩ := List.mem_map.mp z
        exact (h1 p hp).2.1 (List.mem_append_right _ (by rw [e2]; exact List.mem_cons_self))
    · rw [if_neg hc] at h; cases h
theorem plan_ge {cs : List Cd} (G : Goods cs) {w : Int} : ∀ {post : List (Int × Int)} {lit : List Int} {e T : Int} {U : List Nat}, judgeGo cs post lit e T = some w → U.Nodup → (∀ n ∈ U, n < cs.length) → (∀ p ∈ post, p.2.toNat ∈ U) → w ≤ bestT (pick cs U) T
  | [], _, _, T, U, h, _, hl, _ => by
    have h : T = w := Option.some.inj h
    rw [← h]
    exact bestT_ge (alls_pick G.all hl) _
  | (t, n) :: r, lit, e, T, U, h, nd, hl, hm => by
    have hj := judge_all h
    unfold judgeGo at h
    by_cases hc : (0 ≤ n ∧ n < cs.length) ∧ n ∉ lit ∧ e ≤ t ∧ t ≤ (at' cs n.toNat).2.1 ∧ t ≤ T
    · rw [if_pos hc] at h
      have hn : n.toNat ∈ U := hm (t, n) List.mem_cons_self
      have hs : ∀ m ∈ U.filter (fun m => !decide (m = n.toNat)), m < cs.length := fun m h => hl m (List.mem_filter.mp h).1
      rw [bestT_perm (pick_perm (perm_del nd hn)) T]
      refine Int.le_trans (plan_ge G h (nd.filter _) hs fun p hp => List.mem_filter.mpr ⟨hm p (List.mem_cons_of_mem _ hp), ?_⟩) (bestT_light (alls_pick G.all hs) (at_good G (hl _ hn)) hc.2.2.2.2 hc.2.2.2.1)
      have h2 := hj.2
      rw [List.map_cons, List.nodup_cons] at h2
      have hp0 := (hj.1 p (List.mem_cons_of_mem _ hp)).1.1
      have ne : p.2 ≠ n := fun z => h2.1 (List.mem_map.mpr ⟨p, hp, z⟩)
      have : ¬ p.2.toNat = n.toNat := fun z => ne (by have := hc.1.1; omega)
      simp [this]
    · rw [if_neg hc] at h; cases h
def swapP (p : Int × Int) : Int × Int := (p.2, p.1)
def st0 (cs : List Cd) : NSt := ⟨cs.map cD, [], [], 0, []⟩
structure Way (cs : List Cd) (w : Int) (st : NSt) (ds : List Deed) (pre post : List (Int × Int)) : Prop where
  A : Along st cs (pre.map swapP)
  now0 : 0 ≤ st.now
  J : judgeGo cs post (pre.map (·.2)) st.now (lastOf st) = some w
  fl : st.now ≤ lastOf st
  up : bestS st cs ≤ w
  run : Runs (st0 cs) ds.length st
  dn : st.done = ds.map Deed.d
  li : lightsOf ds = pre.map (·.2)
section
variable {cs : List Cd} {w : Int} {st : NSt} {ds : List Deed} {pre post : List (Int × Int)}
theorem Way.O (Y : Way cs w st ds pre post) : NOk st cs := ⟨Y.A.G, Y.now0, Y.A.cs⟩
theorem Way.left (Y : Way cs w st ds pre post) (n : Nat) : leftB st (n : Int) = !decide ((n : Int) ∈ pre.map (·.2)) := by
  rw [mem_left Y.A, List.map_map]
  rfl
theorem Way.ge (Y : Way cs w st ds pre post) : w ≤ bestS st cs := by
  unfold bestS
  rw [if_pos Y.fl]
  refine plan_ge Y.A.G Y.J (unl_nd st) (unl_lt Y.O) fun p hp => ?_
  obtain ⟨⟨h1, h2⟩, h3, h4, h5⟩ := (judge_all Y.J).1 p hp
  have e : (p.2.toNat : Int) = p.2 := Int.toNat_of_nonneg h1
  refine (mem_unl Y.O).mpr ⟨by omega, by omega, ?_⟩
  rw [Y.left, e, decide_eq_false h3]
  rfl
theorem Way.best (Y : Way cs w st ds pre post) : bestS st cs = w := Int.le_antisymm Y.up Y.ge
theorem Way.endsLen (Y : Way cs w st ds pre post) : st.ends.length ≤ 12 := by
  rw [Y.A.ends, List.length_map]
  exact Y.A.len
/-- the next step's time is no earlier than now, no later than the watch lasts -/
theorem Way.head {t n : Int} {r : List (Int × Int)} (Y : Way cs w st ds pre ((t, n) :: r)) : (0 ≤ n ∧ n < cs.length) ∧ n ∉ pre.map (·.2) ∧ st.now ≤ t ∧ t ≤ (at' cs n.toNat).2.1 ∧ t ≤ lastOf st ∧ judgeGo cs r (pre.map (·.2) ++ [n]) t (if t + (at' cs n.toNat).1 > lastOf st then t + (at' cs n.toNat).1 else lastOf st) = some w := by
  have h := Y.J
  unfold judgeGo at h
  by_cases hc : (0 ≤ n ∧ n < cs.length) ∧ n ∉ pre.map (·.2) ∧ st.now ≤ t ∧ t ≤ (at' cs n.toNat).2.1 ∧ t ≤ lastOf st
  · rw [if_pos hc] at h
    exact ⟨hc.1, hc.2.1, hc.2.2.1, hc.2.2.2.1, hc.2.2.2.2, h⟩
  · rw [if_neg hc] at h; cases h
theorem lights_snoc (ds : List Deed) (e : Deed) : lightsOf (ds ++ [e]) = lightsOf ds ++ (match lightN e with | some n => [n] | none => []) := by
  unfold lightsOf
  rw [List.filterMap_append]
  cases h : lightN e <;> simp [h]
theorem Way.wait {t n : Int} {r : List (Int × Int)} (Y : Way cs w st ds pre ((t, n) :: r)) (h : st.now < t) : Way cs w (after st (.wait (t - st.now))) (ds ++ [.wait (t - st.now)]) pre ((t, n) :: r) := by
  obtain ⟨h1, h2, h3, h4, h5, h6⟩ := Y.head
  have en : (after st (.wait (t - st.now))).now = t := by show st.now + (t - st.now) = t; omega
  refine ⟨⟨Y.A.G, Y.A.lost, Y.A.ends, Y.A.lt, Y.A.nd, Y.A.cs⟩, by have := Y.now0; omega, ?_, by rw [en]; exact h5, Int.le_trans (best_wait Y.O (by omega)) Y.up, ?_, ?_, ?_⟩
  · rw [en]
    unfold judgeGo
    rw [if_pos ⟨h1, h2, Int.le_refl _, h4, h5⟩]
    exact h6
  · rw [List.length_append]
    exact .succ Y.run trivial
  · rw [List.map_append, ← Y.dn]; rfl
  · rw [lights_snoc, Y.li]; simp [lightN]
theorem Way.light {t n : Int} {r : List (Int × Int)} (Y : Way cs w st ds pre ((t, n) :: r)) (h : st.now = t) : n.toNat ∈ unlN st ∧ Way cs w (after st (.light n.toNat)) (ds ++ [.light n.toNat]) (pre ++ [(t, n)]) r ∧ (after st (.light n.toNat)).now < lastOf (after st (.light n.toNat)) := by
  obtain ⟨h1, h2, h3, h4, h5, h6⟩ := Y.head
  have e : (n.toNat : Int) = n := Int.toNat_of_nonneg h1.1
  have hn : n.toNat < cs.length := by omega
  have hu : n.toNat ∈ unlN st := (mem_unl Y.O).mpr ⟨hn, by omega, by rw [Y.left, e, decide_eq_false h2]; rfl⟩
  have el := last_light Y.O hn
  have en : (after st (.light n.toNat)).now = t := h
  have g := (at_good Y.A.G hn).1.1
  have hm : n ∉ st.ends.map (·.1) := by
    rw [Y.A.ends, List.map_map, List.map_map]
    exact h2
  refine ⟨hu, ⟨⟨Y.A.G, Y.A.lost, ?_, ?_, ?_, Y.A.cs⟩, by rw [en, ← h]; exact Y.now0, ?_, ?_, Int.le_trans (best_light Y.O hu Y.fl) Y.up, ?_, ?_, ?_⟩, ?_⟩
  · show st.ends ++ [((n.toNat : Int), st.now + lenOf st.cs n.toNat)] = _
    rw [Y.A.ends, List.map_append, List.map_append, lenOf_at (Y.O.at hn), e, h]
    rfl
  · intro p hp
    rw [List.map_append] at hp
    rcases List.mem_append.mp hp with hp | hp
    · exact Y.A.lt p hp
    · rw [List.mem_singleton.mp hp]; exact h1
  · rw [List.map_append, List.map_append, List.nodup_append]
    refine ⟨Y.A.nd, List.nodup_cons.mpr ⟨List.not_mem_nil, List.nodup_nil⟩, fun a ha b hb z => ?_⟩
    have hb : b = n := List.mem_singleton.mp hb
    rw [z, hb] at ha
    rw [List.map_map] at ha
    exact h2 ha
  · rw [el, en, List.map_append, h]
    exact h6
  · rw [el, en]; split <;> omega
  · rw [List.length_append]
    exact .succ Y.run ⟨⟨_, _, _, Y.O.at hn⟩, by rw [e]; exact hm, by have := Y.endsLen; omega⟩
  · rw [List.map_append, ← Y.dn]; rfl
  · rw [lights_snoc, Y.li, List.map_append]
    show _ ++ [(n.toNat : Int)] = _
    rw [e]; rfl
  · rw [el, en]; split <;> omega
theorem way_start {cs : List Cd} (G : Goods cs) {w : Int} {qs : List (Int × Int)} (hL : LongestR cs w qs) : Way cs w (st0 cs) [] [] qs := by
  have hb := longestR_best G hL
  have hJ := (judge_longest G hL).1
  have O : NOk (st0 cs) cs := ⟨G, Int.le_refl _, rfl⟩
  refine ⟨⟨G, rfl, rfl, (fun _ h => nomatch h), List.nodup_nil, rfl⟩, Int.le_refl _, hJ, Int.le_refl _, ?_, .zero, rfl, rfl⟩
  unfold bestS
  have fl0 : (st0 cs).now ≤ lastOf (st0 cs) := Int.le_refl (0 : Int)
  rw [if_pos fl0]
  have e : lastOf (st0 cs) = 0 := rfl
  rw [e, bestT_zero (alls_pick G.all (unl_lt O)), hb]
  exact best_pick_le G.gd (unl_nd _) (unl_lt O)
end
end FW
set_option Elab.async false
set_option linter.all false
set_option maxRecDepth 100000
set_option maxHeartbeats 8000000
namespace FW
open PySem PySem.Spec PyProof.Rows L2 AL
theorem ne_int {a b : Int} {P : Bool → Prop} (h : a = b) (p : P false) : isB (.bl (!eqD (.int a) (.int b))) P := by
  rw [eqD_int, decide_eq_true h]; exact p
theorem eqD_nilL (ds : List D) : eqD (.lst ds) (.lst []) = decide (ds = []) := by
  cases ds with
  | nil => rfl
  | cons a r => rfl
theorem burn_none {L : List (Int × Int)} {now : Int} (h : ∀ p ∈ L, p.2 < now) : burnOf L now = [] := by
  unfold burnOf
  rw [List.filter_eq_nil_iff.mpr fun p hp => by have := h p hp; simp; omega]
  rfl
theorem burn_some {L : List (Int × Int)} {now : Int} {p : Int × Int} (hp : p ∈ L) (h : now ≤ p.2) : burnOf L now ≠ [] := fun z => by
  unfold burnOf at z
  have : p ∈ L.filter fun p => decide (now ≤ p.2) := List.mem_filter.mpr ⟨hp, by simpa using h⟩
  rw [List.map_eq_nil_iff.mp z] at this
  cases this
theorem last_le {st : NSt} : ∀ p ∈ st.ends, p.2 ≤ lastOf st := fun p hp => max_ge (List.mem_map.mpr ⟨p, hp, rfl⟩)
theorem last_mem {st : NSt} (h : st.ends ≠ []) : ∃ p ∈ st.ends, p.2 = lastOf st := by
  have := max_mem (l := st.ends.map (·.2)) (by simpa using h)
  obtain ⟨p, hp, e⟩ := List.mem_map.mp this
  exact ⟨p, hp, e⟩
section
variable {K : PySem.W.Frag} {C : Addr} {ns : List Int} {row : List D} {cs : List Cd} {w : Int} {qs : List (Int × Int)} {a2 a8 a9 a10 e6 e7 : En} {nd : NdN} {ld : Addr} {st : NSt} {ds : List Deed} {pre post : List (Int × Int)}
abbrev fr (ns : List Int) (row : List D) (cs : List Cd) (w : Int) (qs : List (Int × Int)) (a2 e6 e7 a8 a9 a10 : En) : Ev := [.d (.scr ns), .own false row, a2, .d (csD cs), .d (.int w), .d (.lst (qs.map stepD)), e6, e7, a8, a9, a10]
/-- the first questions -/
theorem read_first {R : AEnds} (Y : Way cs w st ds [] qs) (h0 : st.now = 0) (h1 : st.ends = []) (he : NN K C nd st e6) (q : ∀ e6', NN K C nd st e6' → R.nx (fr ns row cs w qs a2 e6' e7 a8 a9 a10)) :
    (wIfS (wOr (wTest (wOp kNe (w2e (wMeth (NN K C) 6 n_best wNil) (wVarB 4)))) (wOr (wTest (wOp kNe (w2e (wMeth (NN K C) 6 n_time wNil) (wC (.int 0))))) (wTest (wOp kNe (w2e (wMeth (NN K C) 6 n_burning wNil) (fun ρ Q => (wLst wNil) ρ fun xs ρ' => Q (.lst xs) ρ')))))) (wRet (wC (.bl false))) wNext) R (fr ns row cs w qs a2 e6 e7 a8 a9 a10) := by
  refine ⟨⟨nd, st, e6, rfl, he⟩, nd, st, e6, rfl, he, read_best Y.O ?_⟩
  intro e he
  refine ⟨rfl, rfl, ne_int Y.best ?_⟩
  refine ⟨⟨nd, st, e, rfl, he⟩, nd, st, e, rfl, he, rfl, ?_⟩
  intro e he
  refine ⟨rfl, rfl, ne_int h0 ?_⟩
  refine ⟨⟨nd, st, e, rfl, he⟩, nd, st, e, rfl, he, rfl, by rw [h1]; decide, fun L hp hs => ?_⟩
  intro e he
  refine ⟨Nat.zero_le _, ?_⟩
  rw [h1] at hp
  have eL : L = [] := List.Perm.eq_nil hp
  rw [eL]
  exact ⟨rfl, rfl, q _ he⟩
/-- one step of the plan -/
theorem read_step {R : AEnds} {t n : Int} {r : List (Int × Int)} (Y : Way cs w st ds pre ((t, n) :: r)) (hw : w ≤ 1188) (hds : ds.length ≤ 100) (he : NN K C nd st e6) (hd : DE ld (pre.map swapP) e7)
    (q : ∀ st' ds' e6' e7', Way cs w st' ds' (pre ++ [(t, n)]) r → st'.now < lastOf st' → ds'.length ≤ ds.length + 2 → NN K C nd st' e6' → DE ld ((pre ++ [(t, n)]).map swapP) e7' → R.nx (fr ns row cs w qs a2 e6' e7' (.d (.int n)) (.d (.int t)) a10)) :
    (wSeq (wIfS (wAnd (wTest (wOp kGt (w2v 9 (wMeth (NN K C) 6 n_time wNil)))) (wTest (wOp kNe (w2e (wMeth (NN K C) 6 n_do (wCons (wTup (wCons (wC (.str "wait")) (wCons (wOp kSub (w2v 9 (wMeth (NN K C) 6 n_time wNil))) wNil))) wNil)) (wVarB 4))))) (wRet (wC (.bl false))) wNext)
  (wSeq (wIfS (wOr (wNot (wTest (wToldN K C 6 3 7))) (wTest (wOp kNe (w2e (wMeth (NN K C) 6 n_do (wCons (wTup (wCons (wC (.str "light")) (wCons (wVar 8) wNil))) wNil)) (wVarB 4))))) (wRet (wC (.bl false))) wNext)
  (wSeq (wPutD 7 8 9)
  (wIfS (wNot (wTest (wToldN K C 6 3 7))) (wRet (wC (.bl false))) wNext)))) R (fr ns row cs w qs a2 e6 e7 (.d (.int n)) (.d (.int t)) a10) := by
  have hh := Y.head
  have hdn : ∀ {st : NSt} {ds : List Deed} {pre post : List (Int × Int)}, Way cs w st ds pre post → st.done.length = ds.length := fun Y => by rw [Y.dn, List.length_map]
  -- behind the wait
  have rest : ∀ (st : NSt) (ds' : List Deed) (e6 : En), Way cs w st ds' pre ((t, n) :: r) → st.now = t → ds'.length ≤ ds.length + 1 → NN K C nd st e6 →
      (wSeq (wIfS (wOr (wNot (wTest (wToldN K C 6 3 7))) (wTest (wOp kNe (w2e (wMeth (NN K C) 6 n_do (wCons (wTup (wCons (wC (.str "light")) (wCons (wVar 8) wNil))) wNil)) (wVarB 4))))) (wRet (wC (.bl false))) wNext)
  (wSeq (wPutD 7 8 9)
  (wIfS (wNot (wTest (wToldN K C 6 3 7))) (wRet (wC (.bl false))) wNext))) R (fr ns row cs w qs a2 e6 e7 (.d (.int n)) (.d (.int t)) a10) := by
    intro st ds' e6 Y hnow hds' he
    obtain ⟨hu, Y2, hlt⟩ := Y.light hnow
    have en : (n.toNat : Int) = n := Int.toNat_of_nonneg hh.1.1
    refine ⟨nd, st, e6, cs, ld, _, e7, rfl, he, rfl, rfl, hd, by decide, Y.A, fun e he => ?_⟩
    refine ⟨⟨nd, st, e, rfl, he⟩, small (n := 2) (by decide), nd, st, e, rfl, he, ?_⟩
    have key : ∀ P, n_do st [Deed.d (.light n.toNat)] P → n_do st [.tup [.str "light", .int n]] P := fun P h => by
      have e : Deed.d (.light n.toNat) = .tup [.str "light", .int n] := by
        show D.tup [.str "light", .int (n.toNat : Int)] = _
        rw [en]
      rw [e] at h; exact h
    refine key _ ?_
    refine do_light Y.O hu Y.fl (by have := Y.endsLen; omega) (by have := hdn Y; omega) fun e he => ?_
    refine ⟨rfl, rfl, ne_int Y2.best ?_⟩
    refine ⟨ld, pre.map swapP, n, t, e7, rfl, hd, rfl, rfl, ?_, ?_, fun e7 hd2 => ?_⟩
    · rw [List.map_map]; exact hh.2.1
    · have := Y.A.len; omega
    have hd3 : DE ld ((pre ++ [(t, n)]).map swapP) e7 := by rw [List.map_append]; exact hd2
    refine ⟨nd, _, e, cs, ld, _, e7, rfl, he, rfl, rfl, hd3, by decide, Y2.A, fun e he => ?_⟩
    exact q _ _ _ _ Y2 hlt (by rw [List.length_append]; show ds'.length + 1 ≤ _; omega) he hd3
  refine ⟨⟨nd, st, e6, rfl, he⟩, nd, st, e6, rfl, he, rfl, fun e he => ?_⟩
  show if decide (st.now < t) = true then _ else _
  by_cases hlt : st.now < t
  · rw [decide_eq_true hlt]
    have Y1 := Y.wait hlt
    refine ⟨⟨nd, st, e, rfl, he⟩, ⟨nd, st, e, rfl, he⟩, nd, st, e, rfl, he, rfl, fun e he => ?_⟩
    refine ⟨small (n := 2) (by decide), nd, st, e, rfl, he, ?_⟩
    have hl : lastOf st ≤ w := by rw [← Y.best]; exact bestS_ge Y.O
    have := Y.now0
    have := hh.2.2.2.2.1
    refine do_wait Y.O (k := t - st.now) (by omega) (by omega) (by have := hdn Y; omega) fun e he => ?_
    refine ⟨rfl, rfl, ne_int Y1.best ?_⟩
    exact rest _ _ _ Y1 (by show st.now + (t - st.now) = t; omega) (by rw [List.length_append]; exact Nat.le_refl _) he
  · rw [decide_eq_false hlt]
    exact rest _ _ _ Y (by have := hh.2.2.1; omega) (by omega) he
end
section
variable {K : PySem.W.Frag} {C : Addr} {ns : List Int} {row : List D} {cs : List Cd} {w : Int} {qs : List (Int × Int)} {a2 a8 a9 a10 e6 e7 : En} {nd : NdN} {ld : Addr} {st : NSt} {ds : List Deed} {pre post : List (Int × Int)}
theorem Way.end (Y : Way cs w st ds pre []) : lastOf st = w := Option.some.inj Y.J
theorem Way.waitE (Y : Way cs w st ds pre []) {k : Int} (h0 : 0 ≤ k) (h : st.now + k ≤ lastOf st) : Way cs w (after st (.wait k)) (ds ++ [.wait k]) pre [] :=
  ⟨⟨Y.A.G, Y.A.lost, Y.A.ends, Y.A.lt, Y.A.nd, Y.A.cs⟩, by show 0 ≤ st.now + k; have := Y.now0; omega, Y.J, h, Int.le_trans (best_wait Y.O h0) Y.up, by rw [List.length_append]; exact .succ Y.run trivial, by rw [List.map_append, ← Y.dn]; rfl, by rw [lights_snoc, Y.li]; simp [lightN]⟩
/-- gone out -/
structure Out (cs : List Cd) (w : Int) (st : NSt) (ds : List Deed) (qs : List (Int × Int)) : Prop where
  A : Along st cs (qs.map swapP)
  now0 : 0 ≤ st.now
  out : lastOf st < st.now
  last : lastOf st = w
  run : Runs (st0 cs) ds.length st
  dn : st.done = ds.map Deed.d
  li : lightsOf ds = qs.map (·.2)
theorem Way.out (Y : Way cs w st ds qs []) {k : Int} (h0 : 0 ≤ k) (h : lastOf st < st.now + k) : Out cs w (after st (.wait k)) (ds ++ [.wait k]) qs :=
  ⟨⟨Y.A.G, Y.A.lost, Y.A.ends, Y.A.lt, Y.A.nd, Y.A.cs⟩, by show 0 ≤ st.now + k; have := Y.now0; omega, h, Y.end, by rw [List.length_append]; exact .succ Y.run trivial, by rw [List.map_append, ← Y.dn]; rfl, by rw [lights_snoc, Y.li]; simp [lightN]⟩
theorem read_end1 {R : AEnds} (Y : Way cs w st ds qs []) (hlt : st.now < w) (hw : w ≤ 1188) (hne : st.ends ≠ []) (hds : ds.length ≤ 100) (he : NN K C nd st e6)
    (q : ∀ e6', Way cs w (after st (.wait (w - st.now))) (ds ++ [.wait (w - st.now)]) qs [] → NN K C nd (after st (.wait (w - st.now))) e6' → R.nx (fr ns row cs w qs a2 e6' e7 a8 a9 a10)) :
    (wIfS (wOr (wTest (wOp kNe (w2e (wMeth (NN K C) 6 n_do (wCons (wTup (wCons (wC (.str "wait")) (wCons (wOp kSub (w2v 4 (wMeth (NN K C) 6 n_time wNil))) wNil))) wNil)) (wVarB 4)))) (wOr (wTest (wOp kNe (w2e (wMeth (NN K C) 6 n_time wNil) (wVarB 4)))) (wTest (wOp kEq (w2e (wMeth (NN K C) 6 n_burning wNil) (fun ρ Q => (wLst wNil) ρ fun xs ρ' => Q (.lst xs) ρ')))))) (wRet (wC (.bl false))) wNext) R (fr ns row cs w qs a2 e6 e7 a8 a9 a10) := by
  have hl := Y.end
  have n0 := Y.now0
  have Y1 := Y.waitE (k := w - st.now) (by omega) (by omega)
  have hdn : st.done.length = ds.length := by rw [Y.dn, List.length_map]
  refine ⟨⟨nd, st, e6, rfl, he⟩, ⟨nd, st, e6, rfl, he⟩, nd, st, e6, rfl, he, rfl, fun e he => ?_⟩
  refine ⟨small (n := 2) (by decide), nd, st, e, rfl, he, ?_⟩
  refine do_wait Y.O (k := w - st.now) (by omega) (by omega) (by omega) fun e he => ?_
  refine ⟨rfl, rfl, ne_int Y1.best ?_⟩
  refine ⟨⟨nd, _, e, rfl, he⟩, nd, _, e, rfl, he, rfl, fun e he => ?_⟩
  refine ⟨rfl, rfl, ne_int (by show st.now + (w - st.now) = w; omega) ?_⟩
  have hel : (after st (.wait (w - st.now))).ends.length < 1000 := by have := Y1.endsLen; omega
  refine ⟨⟨nd, _, e, rfl, he⟩, nd, _, e, rfl, he, rfl, hel, fun L hp hs e he => ?_⟩
  refine ⟨Nat.zero_le _, ?_⟩
  have hp : L.Perm st.ends := hp
  obtain ⟨p, hpm, hpe⟩ := last_mem hne
  have hb : burnOf L (after st (.wait (w - st.now))).now ≠ [] := burn_some (hp.mem_iff.mpr hpm) (by show st.now + (w - st.now) ≤ p.2; omega)
  refine ⟨okD_pairs _, rfl, ?_⟩
  show isB (.bl (eqD (.lst (burnOf L (after st (.wait (w - st.now))).now)) (.lst []))) _
  rw [eqD_nilL, decide_eq_false hb]
  exact q _ Y1 he
theorem read_end2 {R : AEnds} (Y : Way cs w st ds qs []) (hnow : st.now = w) (hds : ds.length ≤ 100) (hrow : isRow row) (he : NN K C nd st e6)
    (q : ∀ e6' row' st' ds', isRow row' → Out cs w st' ds' qs → ds'.length ≤ ds.length + 1 → NN K C nd st' e6' → R.nx (fr ns row' cs w qs a2 e6' e7 a8 a9 a10)) :
    (wIfS (wOr (wTest (wOp kNe (w2e (wMeth (NN K C) 6 n_do (wCons (wTup (wCons (wC (.str "wait")) (wCons (wOp kAdd (w2e (wC (.int 1)) (wCallR sp_l_taken 1 (wCons (wC (.int 50)) wNil)))) wNil))) wNil)) (wVarB 4)))) (wTest (wOp kNe (w2e (wMeth (NN K C) 6 n_burning wNil) (fun ρ Q => (wLst wNil) ρ fun xs ρ' => Q (.lst xs) ρ'))))) (wRet (wC (.bl false))) wNext) R (fr ns row cs w qs a2 e6 e7 a8 a9 a10) := by
  have hl := Y.end
  have n0 := Y.now0
  have hdn : st.done.length = ds.length := by rw [Y.dn, List.length_map]
  refine ⟨⟨nd, st, e6, rfl, he⟩, hrow, 50, rfl, by decide, by decide, fun x row1 x0 x1 hrow1 => ?_⟩
  refine ⟨small (n := 2) (by decide), nd, st, e6, rfl, he, ?_⟩
  have Y2 := Y.out (k := 1 + x) (by omega) (by omega)
  refine do_wait Y.O (k := 1 + x) (by omega) (by omega) (by omega) fun e he => ?_
  have hb : bestS (after st (.wait (1 + x))) cs = w := by
    unfold bestS
    rw [if_neg (by have := Y2.out; omega), Y2.last]
  refine ⟨rfl, rfl, ne_int hb ?_⟩
  have hel : (after st (.wait (1 + x))).ends.length < 1000 := by have h2 : (after st (.wait (1 + x))).ends = st.ends := rfl; have := Y.endsLen; rw [h2]; omega
  refine ⟨⟨nd, _, e, rfl, he⟩, nd, _, e, rfl, he, rfl, hel, fun L hp hs e he => ?_⟩
  refine ⟨Nat.zero_le _, ?_⟩
  rw [burn_none fun p hpm => by have := last_le p (hp.mem_iff.mp hpm); have := Y2.out; omega]
  exact ⟨rfl, rfl, q _ _ _ _ hrow1 Y2 (by rw [List.length_append]; exact Nat.le_refl _) he⟩
theorem read_told {R : AEnds} (A : Along st cs (qs.map swapP)) (he : NN K C nd st e6) (hd : DE ld (qs.map swapP) e7) (q : ∀ e6', NN K C nd st e6' → R.nx (fr ns row cs w qs a2 e6' e7 a8 a9 a10)) :
    (wIfS (wNot (wTest (wToldN K C 6 3 7))) (wRet (wC (.bl false))) wNext) R (fr ns row cs w qs a2 e6 e7 a8 a9 a10) :=
  ⟨nd, st, e6, cs, ld, _, e7, rfl, he, rfl, rfl, hd, by decide, A, fun e he => q e he⟩
theorem light_split : ∀ ds : List Deed, (ds.filter fun e => (lightN e).isSome).map (fun e => match lightN e with | some n => D.int n | none => D.non) = (lightsOf ds).map D.int
  | [] => rfl
  | e :: r => by
    have ih := light_split r
    unfold lightsOf at ih ⊢
    cases e with
    | light n => rw [List.filter_cons_of_pos rfl, List.map_cons, ih]; rfl
    | wait k => rw [List.filter_cons_of_neg (by show ¬ (false = true); decide), ih]; rfl
    | get c => rw [List.filter_cons_of_neg (by show ¬ (false = true); decide), ih]; rfl
    | lose n => rw [List.filter_cons_of_neg (by show ¬ (false = true); decide), ih]; rfl
theorem eq_word {a b : Str} {c : Bool} (h : eqD (.str a) (.str b) = c) {P : Bool → Prop} (p : P c) : isB (.bl (eqD (.str a) (.str b))) P := by rw [h]; exact p
theorem okD_intsL (l : List Int) : okD (.lst (l.map D.int)) = true := by
  have h1 : ∀ l : List Int, D.plains (l.map D.int) = true := fun l => by
    induction l with
    | nil => rfl
    | cons x r ih => show (true && D.plains (r.map D.int)) = true; rw [ih]; rfl
  have h2 : ∀ l : List Int, PyData.canLayAll0 (D.pys (l.map D.int)) = true := fun l => by
    induction l with
    | nil => rfl
    | cons x r ih => show (true && PyData.canLayAll0 (D.pys (r.map D.int))) = true; rw [ih]; rfl
  have h3 : ∀ l : List Int, PyData.depthAll (D.pys (l.map D.int)) = 0 := fun l => by
    induction l with
    | nil => rfl
    | cons x r ih => show max 0 (PyData.depthAll (D.pys (r.map D.int))) = 0; rw [ih]; rfl
  show (D.plains (l.map D.int) && (PyData.canLayAll0 (D.pys (l.map D.int)) && decide (PyData.depthAll (D.pys (l.map D.int)) + 1 ≤ 64))) = true
  rw [h1, h2, h3]; rfl
theorem read_deeds {R : AEnds} (Y : Out cs w st ds qs) (hds : ds.length ≤ 200) (hq : qs.length ≤ 12) (he : NN K C nd st e6) (q : ∀ e6' a8' a9' a10', NN K C nd st e6' → R.nx (fr ns row cs w qs a2 e6' e7 a8' a9' a10')) :
    (wIfS (wTest (wOp kNe (w2e (fun ρ Q => (wLc (wSeqI (wMeth (NN K C) 6 n_deeds wNil)) (wName 10) (wTest (wOp kEq (w2e (wOp kIx (w2v 10 (wC (.int 0)))) (wC (.str "light"))))) (wOp kIx (w2v 10 (wC (.int 1)))) [10]) ρ fun xs ρ' => Q (.lst xs) ρ') (fun ρ Q => (wLc (wSeqI (wVar 5)) (wgTup 2 (wgCons (wName 8) (wgCons (wName 9) wgNil))) wYes (wVar 8) [8, 9]) ρ fun xs ρ' => Q (.lst xs) ρ')))) (wRet (wC (.bl false))) wNext) R (fr ns row cs w qs a2 e6 e7 a8 a9 a10) := by
  have h300 := small (n := 300) (by decide)
  have hdn : st.done.length = ds.length := by rw [Y.dn, List.length_map]
  refine ⟨⟨nd, st, e6, rfl, he⟩, nd, st, e6, rfl, he, rfl, by omega, fun e he => ?_⟩
  rw [Y.dn]
  show wMake _ _ _ _ _ (ds.map Deed.d) [] (fr ns row cs w qs a2 e e7 a8 a9 .un)
  refine make_map (enc := Deed.d) (fun e => (lightN e).isSome) (fun e => match lightN e with | some n => D.int n | none => D.non) ds [] ?_ (by simp; omega) ?_
  · intro d hd C' N h1 h2
    cases d with
    | light n =>
      refine ⟨.str "light", rfl, (by decide +kernel), (by decide +kernel), eq_word (c := true) (by decide +kernel) ?_⟩
      exact ⟨.int (n : Int), rfl, h1 rfl _ rfl⟩
    | wait k => exact ⟨.str "wait", rfl, (by decide +kernel), (by decide +kernel), eq_word (c := false) (by decide +kernel) (h2 rfl _ rfl)⟩
    | get k => exact ⟨.str "get", rfl, (by decide +kernel), (by decide +kernel), eq_word (c := false) (by decide +kernel) (h2 rfl _ rfl)⟩
    | lose k => exact ⟨.str "lose", rfl, (by decide +kernel), (by decide +kernel), eq_word (c := false) (by decide +kernel) (h2 rfl _ rfl)⟩
  · rw [List.nil_append, light_split, Y.li]
    show wMake _ _ _ _ _ (qs.map stepD) [] (fr ns row cs w qs a2 e e7 .un .un .un)
    refine make_map (enc := stepD) (fun _ => true) (fun p => .int p.2) qs [] ?_ (by simp; omega) ?_
    · rintro ⟨t, n⟩ hm C' N h1 h2
      exact ⟨rfl, h1 rfl _ rfl⟩
    · rw [List.nil_append, filter_true]
      have e1 : (qs.map fun p => D.int p.2) = (qs.map (·.2)).map D.int := by rw [List.map_map]; rfl
      rw [e1]
      have hz := okD_intsL (qs.map (·.2))
      refine ⟨hz, hz, ?_⟩
      show isB (.bl (!eqD (.lst ((qs.map (·.2)).map D.int)) (.lst ((qs.map (·.2)).map D.int)))) _
      rw [eqv_self hz]
      exact q _ _ _ _ he
theorem read_backs {R : AEnds} (Y : Out cs w st ds qs) (hds : ds.length ≤ 200) (he : NN K C nd st e6) (q : ∀ e6' a10', NN K C nd (st0 cs) e6' → R.nx (fr ns row cs w qs a2 e6' e7 a8 a9 a10')) :
    (wFor (wSeqI (wMeth (NN K C) 6 n_deeds wNil)) (wName 10) (wIfS (wNot (wTest (wMeth (NN K C) 6 n_back wNil))) (wRet (wC (.bl false))) wNext)) R (fr ns row cs w qs a2 e6 e7 a8 a9 a10) := by
  have hdn : st.done.length = ds.length := by rw [Y.dn, List.length_map]
  refine ⟨⟨nd, st, e6, rfl, he⟩, nd, st, e6, rfl, he, rfl, by omega, fun e he => ?_⟩
  rw [Y.dn]
  show wLoop _ _ _ (ds.map Deed.d) (fr ns row cs w qs a2 e e7 a8 a9 a10)
  refine loop_inv (enc := Deed.d) (I := fun pre ρ => ∃ e6 a10 st, ρ = fr ns row cs w qs a2 e6 e7 a8 a9 a10 ∧ NN K C nd st e6 ∧ Runs (st0 cs) (ds.length - pre.length) st) ?_ ?_ _ ⟨e, a10, st, rfl, he, Y.run⟩
  · rintro pre d post ed K' hK ρ ⟨e6, a10, st, rfl, he, hr⟩
    have hlen : pre.length < ds.length := by rw [ed, List.length_append, List.length_cons]; omega
    obtain ⟨m, hm⟩ : ∃ m, ds.length - pre.length = m + 1 := ⟨ds.length - pre.length - 1, by omega⟩
    rw [hm] at hr
    cases hr with
    | @succ _ st1 dd hr hc =>
      refine ⟨⟨nd, _, e6, rfl, he⟩, nd, _, e6, rfl, he, rfl, .inr ⟨st1, dd, rfl, hc, fun e he => ?_⟩⟩
      refine hK _ ⟨e, .d d.d, st1, rfl, he, ?_⟩
      · rw [List.length_append]
        show Runs (st0 cs) (ds.length - (pre.length + 1)) st1
        rw [show ds.length - (pre.length + 1) = m by omega]
        exact hr
  · rintro ρ ⟨e6, a10, st, rfl, he, hr⟩
    rw [Nat.sub_self] at hr
    cases hr
    exact q _ _ he
theorem read_last {R : AEnds} (Y : Way cs w (st0 cs) [] [] qs) (he : NN K C nd (st0 cs) e6) (q : ∀ e6', NN K C nd (st0 cs) e6' → R.nx (fr ns row cs w qs a2 e6' e7 a8 a9 a10)) :
    (wIfS (wOr (wTest (wMeth (NN K C) 6 n_back wNil)) (wOr (wTest (wOp kNe (w2e (wMeth (NN K C) 6 n_best wNil) (wVarB 4)))) (wOr (wTest (wOp kNe (w2e (wMeth (NN K C) 6 n_time wNil) (wC (.int 0))))) (wTest (wOp kNe (w2e (wMeth (NN K C) 6 n_deeds wNil) (fun ρ Q => (wLst wNil) ρ fun xs ρ' => Q (.lst xs) ρ'))))))) (wRet (wC (.bl false))) wNext) R (fr ns row cs w qs a2 e6 e7 a8 a9 a10) := by
  refine ⟨⟨nd, _, e6, rfl, he⟩, nd, _, e6, rfl, he, rfl, .inl ⟨rfl, fun e he => ?_⟩⟩
  refine ⟨⟨nd, _, e, rfl, he⟩, nd, _, e, rfl, he, read_best Y.O fun e he => ?_⟩
  refine ⟨rfl, rfl, ne_int Y.best ?_⟩
  refine ⟨⟨nd, _, e, rfl, he⟩, nd, _, e, rfl, he, rfl, fun e he => ?_⟩
  refine ⟨rfl, rfl, ne_int rfl ?_⟩
  refine ⟨⟨nd, _, e, rfl, he⟩, nd, _, e, rfl, he, rfl, Nat.zero_le _, fun e he => ?_⟩
  exact ⟨Nat.zero_le _, rfl, rfl, q _ he⟩
end
end FW
set_option Elab.async false
set_option linter.all false
set_option maxRecDepth 100000
set_option maxHeartbeats 2000000
namespace FW
open PySem PySem.Spec PyProof.Rows L2 AL
def sp_law : ASp := fun xs Q => ∃ ns, xs = [.scr ns] ∧ Q (.bl true)
/-! ### law -/
abbrev s_law : Stmt := topS 33
abbrev N_law : List Str := ["_law_script", "_law_row", "_law_turn", "_law_some", "_law_whole", "_law_plan", "_law_night", "_law_lit", "_law_k", "_law_at", "_law_deed"]
abbrev p_law : List Str := ["_law_script"]
theorem sc_law : FnScope N_law p_law (defScope s_law) := ⟨rfl, rfl, rfl, by decide +kernel, rfl, by decide +kernel, by decide +kernel⟩
def w_law (K : PySem.W.Frag) (C : Addr) : WS := (wSeq (wOwn (wLst (wCons (wVar 0) (wCons (wC (.int 0)) (wCons (wC (.int 0)) (wCons (wC (.int 0)) wNil))))) 1)
  (wSeq (wFor (wRng1 (wCons (wC (.int 3)) wNil)) (wName 2) (wSeq (wAsg (wCallR sp_l_candles 1 (wCons (wC (.int 1)) (wCons (wC (.int 12)) wNil))) (wName 3))
  (wSeq (wAsg (wCallS sp_longest (wCons (wVar 3) wNil)) (wgTup 2 (wgCons (wName 4) (wgCons (wName 5) wgNil))))
  (wSeq (wNightD K C 3 6 7 n_init)
  (wSeq (wIfS (wOr (wTest (wOp kNe (w2e (wMeth (NN K C) 6 n_best wNil) (wVarB 4)))) (wOr (wTest (wOp kNe (w2e (wMeth (NN K C) 6 n_time wNil) (wC (.int 0))))) (wTest (wOp kNe (w2e (wMeth (NN K C) 6 n_burning wNil) (fun ρ Q => (wLst wNil) ρ fun xs ρ' => Q (.lst xs) ρ')))))) (wRet (wC (.bl false))) wNext)
  (wSeq (wFor (wSeqI (wVar 5)) (wgTup 2 (wgCons (wName 8) (wgCons (wName 9) wgNil))) (wSeq (wIfS (wAnd (wTest (wOp kGt (w2v 9 (wMeth (NN K C) 6 n_time wNil)))) (wTest (wOp kNe (w2e (wMeth (NN K C) 6 n_do (wCons (wTup (wCons (wC (.str "wait")) (wCons (wOp kSub (w2v 9 (wMeth (NN K C) 6 n_time wNil))) wNil))) wNil)) (wVarB 4))))) (wRet (wC (.bl false))) wNext)
  (wSeq (wIfS (wOr (wNot (wTest (wToldN K C 6 3 7))) (wTest (wOp kNe (w2e (wMeth (NN K C) 6 n_do (wCons (wTup (wCons (wC (.str "light")) (wCons (wVar 8) wNil))) wNil)) (wVarB 4))))) (wRet (wC (.bl false))) wNext)
  (wSeq (wPutD 7 8 9)
  (wIfS (wNot (wTest (wToldN K C 6 3 7))) (wRet (wC (.bl false))) wNext)))))
  (wSeq (wIfS (wOr (wTest (wOp kNe (w2e (wMeth (NN K C) 6 n_do (wCons (wTup (wCons (wC (.str "wait")) (wCons (wOp kSub (w2v 4 (wMeth (NN K C) 6 n_time wNil))) wNil))) wNil)) (wVarB 4)))) (wOr (wTest (wOp kNe (w2e (wMeth (NN K C) 6 n_time wNil) (wVarB 4)))) (wTest (wOp kEq (w2e (wMeth (NN K C) 6 n_burning wNil) (fun ρ Q => (wLst wNil) ρ fun xs ρ' => Q (.lst xs) ρ')))))) (wRet (wC (.bl false))) wNext)
  (wSeq (wIfS (wOr (wTest (wOp kNe (w2e (wMeth (NN K C) 6 n_do (wCons (wTup (wCons (wC (.str "wait")) (wCons (wOp kAdd (w2e (wC (.int 1)) (wCallR sp_l_taken 1 (wCons (wC (.int 50)) wNil)))) wNil))) wNil)) (wVarB 4)))) (wTest (wOp kNe (w2e (wMeth (NN K C) 6 n_burning wNil) (fun ρ Q => (wLst wNil) ρ fun xs ρ' => Q (.lst xs) ρ'))))) (wRet (wC (.bl false))) wNext)
  (wSeq (wIfS (wNot (wTest (wToldN K C 6 3 7))) (wRet (wC (.bl false))) wNext)
  (wSeq (wIfS (wTest (wOp kNe (w2e (fun ρ Q => (wLc (wSeqI (wMeth (NN K C) 6 n_deeds wNil)) (wName 10) (wTest (wOp kEq (w2e (wOp kIx (w2v 10 (wC (.int 0)))) (wC (.str "light"))))) (wOp kIx (w2v 10 (wC (.int 1)))) [10]) ρ fun xs ρ' => Q (.lst xs) ρ') (fun ρ Q => (wLc (wSeqI (wVar 5)) (wgTup 2 (wgCons (wName 8) (wgCons (wName 9) wgNil))) wYes (wVar 8) [8, 9]) ρ fun xs ρ' => Q (.lst xs) ρ')))) (wRet (wC (.bl false))) wNext)
  (wSeq (wFor (wSeqI (wMeth (NN K C) 6 n_deeds wNil)) (wName 10) (wIfS (wNot (wTest (wMeth (NN K C) 6 n_back wNil))) (wRet (wC (.bl false))) wNext))
  (wIfS (wOr (wTest (wMeth (NN K C) 6 n_back wNil)) (wOr (wTest (wOp kNe (w2e (wMeth (NN K C) 6 n_best wNil) (wVarB 4)))) (wOr (wTest (wOp kNe (w2e (wMeth (NN K C) 6 n_time wNil) (wC (.int 0))))) (wTest (wOp kNe (w2e (wMeth (NN K C) 6 n_deeds wNil) (fun ρ Q => (wLst wNil) ρ fun xs ρ' => Q (.lst xs) ρ'))))))) (wRet (wC (.bl false))) wNext))))))))))))
  (wRet (wC (.bl true)))))
set_option maxHeartbeats 4000000 in
theorem b_law {P : Program} {w : World} {K : PySem.W.Frag} {mg : Str → Option Value} {base : Heap} (z : Zs mg) (h_l_candles : Ok P w K mg base 2 "_law_candles" p_l_candles (liftRw K sp_l_candles)) (h_l_taken : Ok P w K mg base 1 "_law_taken" p_l_taken (liftRw K sp_l_taken)) (h_longest : Ok P w K mg base 5 "longest" p_longest (liftSp K sp_longest)) {C : Addr} (NTx : NTxt K mg C) (nm_back : OkM P w K mg base C 2 "back" ["self"] n_back) (nm_best : OkM P w K mg base C 4 "best" ["self"] n_best) (nm_burning : OkM P w K mg base C 1 "burning" ["self"] n_burning) (nm_deeds : OkM P w K mg base C 1 "deeds" ["self"] n_deeds) (nm_do : OkM P w K mg base C 5 "do" ["self", "deed"] n_do) (nm_time : OkM P w K mg base C 1 "time" ["self"] n_time) (gN : mg "Night" = some (.ref C)) (ni : OkI P w K mg base C 5 ["self", "candles"] n_init) (of_l_is_told : OkF P w K mg base 3 "_law_is_told" p_told (sp_toldN K C)) (f : Addr) (cdv : Value) (A : Around) (outer : List PySem.Env) (s₀ : Shared) (H : Hp) (E : XK) (M W : Addr → Prop) (H0 T : Hp) [ClOk ⟨K, M, W, H0, T, none⟩] (hr : Room 6 (A.deeper (envOfC "law" (defScope s_law) s₀.heap.objs.size f cdv))) :
    QSs (cxOf CX0 P w K mg base N_law "law" (defScope s_law) f cdv A outer s₀ H E).nox ⟨K, M, W, H0, T, none⟩ (defBody s_law) (w_law K C) := by
  obtain ⟨f_l_candles, fd_l_candles, F_l_candles, m_l_candles, k_l_candles, d_l_candles⟩ := h_l_candles.ex
  obtain ⟨f_l_taken, fd_l_taken, F_l_taken, m_l_taken, k_l_taken, d_l_taken⟩ := h_l_taken.ex
  obtain ⟨f_longest, fd_longest, F_longest, m_longest, k_longest, d_longest⟩ := h_longest.ex
  obtain ⟨f_m_back, fd_m_back, M_back, F_m_back, D_back⟩ := nm_back.ex
  obtain ⟨f_m_best, fd_m_best, M_best, F_m_best, D_best⟩ := nm_best.ex
  obtain ⟨f_m_burning, fd_m_burning, M_burning, F_m_burning, D_burning⟩ := nm_burning.ex
  obtain ⟨f_m_deeds, fd_m_deeds, M_deeds, F_m_deeds, D_deeds⟩ := nm_deeds.ex
  obtain ⟨f_m_do, fd_m_do, M_do, F_m_do, D_do⟩ := nm_do.ex
  obtain ⟨f_m_time, fd_m_time, M_time, F_m_time, D_time⟩ := nm_time.ex
  obtain ⟨f_init, fd_init, Mk_N, F_init, D_init⟩ := ni.ex
  obtain ⟨f_l_is_told, fd_l_is_told, F_l_is_told, m_l_is_told, k_l_is_told, d_l_is_told⟩ := of_l_is_told.ex
  exact (qss_cons (qs_own (i := 1) sc_law.nd rfl (by first | exact Or.inl rfl | exact Or.inr rfl) (qf_lst (qa_cons (qv 0) (qa_cons qe_int (qa_cons qe_int (qa_cons qe_int qa_nil))))))
  (qss_cons (qs_for PassesOwn.never rfl (qi_range1 (by rfl) z.range_ (qa_cons qe_int qa_nil)) (qg_name (i := 2) sc_law.nd rfl (by first | exact Or.inl rfl | exact Or.inr rfl)) (qss_cons (qs_set (i := 3) sc_law.nd rfl (by first | exact Or.inl rfl | exact Or.inr rfl) (qe_callR (i := 1) mono_l_candles F_l_candles (hr.mono (by decide)) m_l_candles k_l_candles d_l_candles pass0 rfl (by first | exact Or.inl rfl | exact Or.inr (Or.inl rfl) | exact Or.inr (Or.inr rfl)) (qa_cons qe_int (qa_cons qe_int qa_nil))))
  (qss_cons (qs_asg (qe_call mono_longest F_longest (hr.mono (by decide)) m_longest k_longest d_longest pass0 (qa_cons (qv 3) qa_nil)) (qg_tup rfl (qgs_cons (qg_name (i := 4) sc_law.nd rfl (by first | exact Or.inl rfl | exact Or.inr rfl)) (qgs_cons (qg_name (i := 5) sc_law.nd rfl (by first | exact Or.inl rfl | exact Or.inr rfl)) qgs_nil))))
  (qss_cons (qs_nightD (i := 3) (j1 := 6) (j2 := 7) (nObjC NTx.cl) rfl mono_n_init Mk_N F_init (hr.mono (by decide)) rfl gN D_init pass0 rfl sc_law.nd rfl rfl (by decide) rfl rfl rfl (by first | exact Or.inl rfl | exact Or.inr (Or.inl rfl) | exact Or.inr (Or.inr rfl)) (by decide) (by rfl))
  (qss_cons (qs_if (QW.qt (qw_or (qt_cmp (op_neD hr.units) kNe_op kNe_mono (q2_e (qe_meth0 (i := 6) (nObjC NTx.cl) rfl (by decide) mono_n_best rfl (by first | exact Or.inl rfl | exact Or.inr (Or.inl rfl) | exact Or.inr (Or.inr rfl)) M_best F_m_best (hr.mono (by decide)) D_best pass0) (qvb 4)) (nomark _)) (qw_or (qt_cmp (op_neD hr.units) kNe_op kNe_mono (q2_e (qe_meth0 (i := 6) (nObjC NTx.cl) rfl (by decide) mono_n_time rfl (by first | exact Or.inl rfl | exact Or.inr (Or.inl rfl) | exact Or.inr (Or.inr rfl)) M_time F_m_time (hr.mono (by decide)) D_time pass0) (QE.qb qe_int)) (nomark _)) (qw_or1 (qt_cmp (op_neD hr.units) kNe_op kNe_mono (q2_e (qe_meth0 (i := 6) (nObjC NTx.cl) rfl (by decide) mono_n_burning rfl (by first | exact Or.inl rfl | exact Or.inr (Or.inl rfl) | exact Or.inr (Or.inr rfl)) M_burning F_m_burning (hr.mono (by decide)) D_burning pass0) (QE.qb (QF.qe (qf_lst qa_nil)))) (nomark _)))))) (qss_one (qs_ret qe_bl)) qss_nil)
  (qss_cons (qs_for PassesOwn.never rfl (qi_seq (qv 5)) (qg_tup rfl (qgs_cons (qg_name (i := 8) sc_law.nd rfl (by first | exact Or.inl rfl | exact Or.inr rfl)) (qgs_cons (qg_name (i := 9) sc_law.nd rfl (by first | exact Or.inl rfl | exact Or.inr rfl)) qgs_nil))) (qss_cons (qs_if (QW.qt (qw_and (qt_cmp op_gt (kI_op fun _ _ _ _ => .bl _) kI_mono (q2v 9 (QE.qb (qe_meth0 (i := 6) (nObjC NTx.cl) rfl (by decide) mono_n_time rfl (by first | exact Or.inl rfl | exact Or.inr (Or.inl rfl) | exact Or.inr (Or.inr rfl)) M_time F_m_time (hr.mono (by decide)) D_time pass0))) (nomark _)) (qw_and1 (qt_cmp (op_neD hr.units) kNe_op kNe_mono (q2_e (qe_meth (i := 6) (nObjC NTx.cl) rfl (by decide) mono_n_do rfl (by first | exact Or.inl rfl | exact Or.inr (Or.inl rfl) | exact Or.inr (Or.inr rfl)) M_do F_m_do (hr.mono (by decide)) D_do pass0 (qa_cons (qe_tup (qa_cons qe_str (qa_cons (qe_op op_sub (kI_op fun _ _ _ _ => .int _) kI_mono (q2v 9 (QE.qb (qe_meth0 (i := 6) (nObjC NTx.cl) rfl (by decide) mono_n_time rfl (by first | exact Or.inl rfl | exact Or.inr (Or.inl rfl) | exact Or.inr (Or.inr rfl)) M_time F_m_time (hr.mono (by decide)) D_time pass0)))) qa_nil))) qa_nil)) (qvb 4)) (nomark _))))) (qss_one (qs_ret qe_bl)) qss_nil)
  (qss_cons (qs_if (QW.qt (qw_or (qt_not (qt_val (qe_toldN (i := 6) (c := 3) (l := 7) rfl F_l_is_told (hr.mono (by decide)) m_l_is_told k_l_is_told d_l_is_told pass0 rfl (by first | exact Or.inl rfl | exact Or.inr (Or.inl rfl) | exact Or.inr (Or.inr rfl)) rfl (by first | exact Or.inl rfl | exact Or.inr (Or.inl rfl) | exact Or.inr (Or.inr rfl)) rfl (by first | exact Or.inl rfl | exact Or.inr (Or.inl rfl) | exact Or.inr (Or.inr rfl))))) (qw_or1 (qt_cmp (op_neD hr.units) kNe_op kNe_mono (q2_e (qe_meth (i := 6) (nObjC NTx.cl) rfl (by decide) mono_n_do rfl (by first | exact Or.inl rfl | exact Or.inr (Or.inl rfl) | exact Or.inr (Or.inr rfl)) M_do F_m_do (hr.mono (by decide)) D_do pass0 (qa_cons (qe_tup (qa_cons qe_str (qa_cons (qv 8) qa_nil))) qa_nil)) (qvb 4)) (nomark _))))) (qss_one (qs_ret qe_bl)) qss_nil)
  (qss_cons (qs_putD (i := 7) (j := 8) (l := 9) (hu_of hr) rfl (by first | exact Or.inl rfl | exact Or.inr (Or.inl rfl) | exact Or.inr (Or.inr rfl)) rfl (by first | exact Or.inl rfl | exact Or.inr (Or.inl rfl) | exact Or.inr (Or.inr rfl)) rfl (by first | exact Or.inl rfl | exact Or.inr (Or.inl rfl) | exact Or.inr (Or.inr rfl)))
  (qss_one (qs_if (qt_not (qt_val (qe_toldN (i := 6) (c := 3) (l := 7) rfl F_l_is_told (hr.mono (by decide)) m_l_is_told k_l_is_told d_l_is_told pass0 rfl (by first | exact Or.inl rfl | exact Or.inr (Or.inl rfl) | exact Or.inr (Or.inr rfl)) rfl (by first | exact Or.inl rfl | exact Or.inr (Or.inl rfl) | exact Or.inr (Or.inr rfl)) rfl (by first | exact Or.inl rfl | exact Or.inr (Or.inl rfl) | exact Or.inr (Or.inr rfl))))) (qss_one (qs_ret qe_bl)) qss_nil))))))
  (qss_cons (qs_if (QW.qt (qw_or (qt_cmp (op_neD hr.units) kNe_op kNe_mono (q2_e (qe_meth (i := 6) (nObjC NTx.cl) rfl (by decide) mono_n_do rfl (by first | exact Or.inl rfl | exact Or.inr (Or.inl rfl) | exact Or.inr (Or.inr rfl)) M_do F_m_do (hr.mono (by decide)) D_do pass0 (qa_cons (qe_tup (qa_cons qe_str (qa_cons (qe_op op_sub (kI_op fun _ _ _ _ => .int _) kI_mono (q2v 4 (QE.qb (qe_meth0 (i := 6) (nObjC NTx.cl) rfl (by decide) mono_n_time rfl (by first | exact Or.inl rfl | exact Or.inr (Or.inl rfl) | exact Or.inr (Or.inr rfl)) M_time F_m_time (hr.mono (by decide)) D_time pass0)))) qa_nil))) qa_nil)) (qvb 4)) (nomark _)) (qw_or (qt_cmp (op_neD hr.units) kNe_op kNe_mono (q2_e (qe_meth0 (i := 6) (nObjC NTx.cl) rfl (by decide) mono_n_time rfl (by first | exact Or.inl rfl | exact Or.inr (Or.inl rfl) | exact Or.inr (Or.inr rfl)) M_time F_m_time (hr.mono (by decide)) D_time pass0) (qvb 4)) (nomark _)) (qw_or1 (qt_cmp (op_eqD hr.units) kEq_op kEq_mono (q2_e (qe_meth0 (i := 6) (nObjC NTx.cl) rfl (by decide) mono_n_burning rfl (by first | exact Or.inl rfl | exact Or.inr (Or.inl rfl) | exact Or.inr (Or.inr rfl)) M_burning F_m_burning (hr.mono (by decide)) D_burning pass0) (QE.qb (QF.qe (qf_lst qa_nil)))) (nomark _)))))) (qss_one (qs_ret qe_bl)) qss_nil)
  (qss_cons (qs_if (QW.qt (qw_or (qt_cmp (op_neD hr.units) kNe_op kNe_mono (q2_e (qe_meth (i := 6) (nObjC NTx.cl) rfl (by decide) mono_n_do rfl (by first | exact Or.inl rfl | exact Or.inr (Or.inl rfl) | exact Or.inr (Or.inr rfl)) M_do F_m_do (hr.mono (by decide)) D_do pass0 (qa_cons (qe_tup (qa_cons qe_str (qa_cons (qe_op op_addA kAdd_op kAdd_mono (q2_e qe_int (QE.qb (qe_callR (i := 1) mono_l_taken F_l_taken (hr.mono (by decide)) m_l_taken k_l_taken d_l_taken pass0 rfl (by first | exact Or.inl rfl | exact Or.inr (Or.inl rfl) | exact Or.inr (Or.inr rfl)) (qa_cons qe_int qa_nil))))) qa_nil))) qa_nil)) (qvb 4)) (nomark _)) (qw_or1 (qt_cmp (op_neD hr.units) kNe_op kNe_mono (q2_e (qe_meth0 (i := 6) (nObjC NTx.cl) rfl (by decide) mono_n_burning rfl (by first | exact Or.inl rfl | exact Or.inr (Or.inl rfl) | exact Or.inr (Or.inr rfl)) M_burning F_m_burning (hr.mono (by decide)) D_burning pass0) (QE.qb (QF.qe (qf_lst qa_nil)))) (nomark _))))) (qss_one (qs_ret qe_bl)) qss_nil)
  (qss_cons (qs_if (qt_not (qt_val (qe_toldN (i := 6) (c := 3) (l := 7) rfl F_l_is_told (hr.mono (by decide)) m_l_is_told k_l_is_told d_l_is_told pass0 rfl (by first | exact Or.inl rfl | exact Or.inr (Or.inl rfl) | exact Or.inr (Or.inr rfl)) rfl (by first | exact Or.inl rfl | exact Or.inr (Or.inl rfl) | exact Or.inr (Or.inr rfl)) rfl (by first | exact Or.inl rfl | exact Or.inr (Or.inl rfl) | exact Or.inr (Or.inr rfl))))) (qss_one (qs_ret qe_bl)) qss_nil)
  (qss_cons (qs_if (qt_cmp (op_neD hr.units) kNe_op kNe_mono (q2_e (QF.qe (qf_lc rfl sc_law.nd (qi_seq (qe_meth0 (i := 6) (nObjC NTx.cl) rfl (by decide) mono_n_deeds rfl (by first | exact Or.inl rfl | exact Or.inr (Or.inl rfl) | exact Or.inr (Or.inr rfl)) M_deeds F_m_deeds (hr.mono (by decide)) D_deeds pass0)) (blkOk_by (N := N_law) (sc := defScope s_law) (own := [("_law_deed", 10)]) (by decide +kernel)) ⟨fun _ _ _ _ _ _ => (qc_name (i := 10) sc_law.nd rfl (by first | exact Or.inl rfl | exact Or.inr rfl) (by decide)), fun _ _ _ _ _ _ => qts_one (qt_cmp (op_eqD hr.units) kEq_op kEq_mono (q2_e (qe_ix ix_seq kIx_op kIx_mono (q2v 10 (QE.qb qe_int)) (fun _ _ => rfl)) (QE.qb qe_str)) (nomark _)), fun _ _ _ _ _ _ => (qe_ix ix_seq kIx_op kIx_mono (q2v 10 (QE.qb qe_int)) (fun _ _ => rfl))⟩)) (QE.qb (QF.qe (qf_lc rfl sc_law.nd (qi_seq (qv 5)) (blkOk_by (N := N_law) (sc := defScope s_law) (own := [("_law_k", 8), ("_law_at", 9)]) (by decide +kernel)) ⟨fun _ _ _ _ _ _ => (qc_tup rfl (qcs_cons (qc_name (i := 8) sc_law.nd rfl (by first | exact Or.inl rfl | exact Or.inr rfl) (by decide)) (qcs_cons (qc_name (i := 9) sc_law.nd rfl (by first | exact Or.inl rfl | exact Or.inr rfl) (by decide)) qcs_nil))), fun _ _ _ _ _ _ => qts_nil, fun _ _ _ _ _ _ => (qv 8)⟩)))) (nomark _)) (qss_one (qs_ret qe_bl)) qss_nil)
  (qss_cons (qs_for PassesOwn.never rfl (qi_seq (qe_meth0 (i := 6) (nObjC NTx.cl) rfl (by decide) mono_n_deeds rfl (by first | exact Or.inl rfl | exact Or.inr (Or.inl rfl) | exact Or.inr (Or.inr rfl)) M_deeds F_m_deeds (hr.mono (by decide)) D_deeds pass0)) (qg_name (i := 10) sc_law.nd rfl (by first | exact Or.inl rfl | exact Or.inr rfl)) (qss_one (qs_if (qt_not (qt_val (qe_meth0 (i := 6) (nObjC NTx.cl) rfl (by decide) mono_n_back rfl (by first | exact Or.inl rfl | exact Or.inr (Or.inl rfl) | exact Or.inr (Or.inr rfl)) M_back F_m_back (hr.mono (by decide)) D_back pass0))) (qss_one (qs_ret qe_bl)) qss_nil)))
  (qss_one (qs_if (QW.qt (qw_or (qt_val (qe_meth0 (i := 6) (nObjC NTx.cl) rfl (by decide) mono_n_back rfl (by first | exact Or.inl rfl | exact Or.inr (Or.inl rfl) | exact Or.inr (Or.inr rfl)) M_back F_m_back (hr.mono (by decide)) D_back pass0)) (qw_or (qt_cmp (op_neD hr.units) kNe_op kNe_mono (q2_e (qe_meth0 (i := 6) (nObjC NTx.cl) rfl (by decide) mono_n_best rfl (by first | exact Or.inl rfl | exact Or.inr (Or.inl rfl) | exact Or.inr (Or.inr rfl)) M_best F_m_best (hr.mono (by decide)) D_best pass0) (qvb 4)) (nomark _)) (qw_or (qt_cmp (op_neD hr.units) kNe_op kNe_mono (q2_e (qe_meth0 (i := 6) (nObjC NTx.cl) rfl (by decide) mono_n_time rfl (by first | exact Or.inl rfl | exact Or.inr (Or.inl rfl) | exact Or.inr (Or.inr rfl)) M_time F_m_time (hr.mono (by decide)) D_time pass0) (QE.qb qe_int)) (nomark _)) (qw_or1 (qt_cmp (op_neD hr.units) kNe_op kNe_mono (q2_e (qe_meth0 (i := 6) (nObjC NTx.cl) rfl (by decide) mono_n_deeds rfl (by first | exact Or.inl rfl | exact Or.inr (Or.inl rfl) | exact Or.inr (Or.inr rfl)) M_deeds F_m_deeds (hr.mono (by decide)) D_deeds pass0) (QE.qb (QF.qe (qf_lst qa_nil)))) (nomark _))))))) (qss_one (qs_ret qe_bl)) qss_nil)))))))))))))
  (qss_one (qs_ret qe_bl))))
end FW
set_option Elab.async false
set_option linter.all false
set_option maxRecDepth 100000
set_option maxHeartbeats 8000000
namespace FW
open PySem PySem.Spec PyProof.Rows L2 AL
theorem read_law {K : PySem.W.Frag} {C : Addr} : ∀ xs Q, sp_law xs Q → w_law K C { nx := fun _ => Q .non, rt := fun y _ => Q y } (startE N_law [] xs) := by
  rintro xs Q ⟨ns, rfl, hQ⟩
  refine ⟨small (n := 4) (by decide), ?_⟩
  refine ⟨⟨by decide, by decide⟩, ?_⟩
  show wLoop _ _ _ (intsD 0 (3 : Int).toNat) _
  rw [intsD_map]
  refine loop_inv (enc := fun k : Nat => .int (k : Nat)) (I := fun pre ρ => ∃ (row : List D) (a2 a3 a4 a5 a6 a7 a8 a9 a10 : En), ρ = [.d (.scr ns), .own false row, a2, a3, a4, a5, a6, a7, a8, a9, a10] ∧ isRow row) ?_ ?_ _ ⟨rowD ns 0 0 0, .un, .un, .un, .un, .un, .un, .un, .un, .un, rfl, ⟨ns, 0, 0, 0, rfl, Int.le_refl _⟩⟩
  · rintro pre k post e K' hK ρ ⟨row, a2, a3, a4, a5, a6, a7, a8, a9, a10, rfl, hrow⟩
    refine ⟨hrow, 1, 12, rfl, by decide, by decide, by decide, fun cs row1 G l0 l1 hrow1 => ?_⟩
    refine ⟨cs, rfl, G, fun t qs hL => ⟨rfl, ?_⟩⟩
    have A : Alls cs := G.all
    have ht := longestR_best G hL
    have b1 := best_hi A
    have hw : t ≤ 1188 := by rw [ht]; omega
    have hpos : 1 ≤ t := by rw [ht]; exact best_pos A (by intro z; rw [z] at l0; simp at l0)
    have hq12 := (judge_longest G hL).2.2
    have Y0 := way_start G hL
    refine ⟨csD cs, rfl, cs.map cD, rfl, cs, rfl, G, ?_⟩
    intro nd e6 he6 ld e7 he7
    show (wSeq _ _) _ (fr ns row1 cs t qs (.d (.int (k : Nat))) e6 e7 a8 a9 a10)
    refine read_first Y0 rfl rfl he6 fun e6 he6 => ?_
    show wLoop _ _ _ (qs.map stepD) (fr ns row1 cs t qs (.d (.int (k : Nat))) e6 e7 a8 a9 a10)
    refine loop_inv (enc := stepD) (I := fun pre ρ => ∃ e6 e7 a8 a9 st ds, ρ = fr ns row1 cs t qs (.d (.int (k : Nat))) e6 e7 a8 a9 a10 ∧ NN K C nd st e6 ∧ DE ld (pre.map swapP) e7 ∧ Way cs t st ds pre (qs.drop pre.length) ∧ ((pre = [] ∧ lastOf st = 0) ∨ st.now < lastOf st ∧ st.ends ≠ []) ∧ ds.length ≤ 2 * pre.length) ?_ ?_ _ ⟨e6, e7, a8, a9, st0 cs, [], rfl, he6, he7, Y0, .inl ⟨rfl, rfl⟩, Nat.le_refl _⟩
    · rintro pre ⟨tm, n⟩ post ed K'' hK' ρ ⟨e6, e7, a8, a9, st, ds, rfl, he6, he7, Y, hst, hds⟩
      have hlen : pre.length < qs.length := by rw [ed, List.length_append, List.length_cons]; omega
      have hdrop : qs.drop pre.length = (tm, n) :: post := by rw [ed, List.drop_left]
      rw [hdrop] at Y
      refine ⟨rfl, ?_⟩
      dsimp only [wgCons, wgNil, wName, fr, List.set]
      refine read_step Y hw (by omega) he6 he7 fun st' ds' e6' e7' Y' hlt hds' he6' he7' => ?_
      refine hK' _ ⟨e6', e7', _, _, st', ds', rfl, he6', he7', ?_, .inr ⟨hlt, ?_⟩, ?_⟩
      · have : qs.drop (pre ++ [(tm, n)]).length = post := by
          rw [ed, List.length_append]
          show (pre ++ (tm, n) :: post).drop (pre.length + 1) = post
          rw [show pre ++ (tm, n) :: post = (pre ++ [(tm, n)]) ++ post by rw [List.append_assoc]; rfl]
          exact List.drop_left' (by rw [List.length_append]; rfl)
        rw [this]; exact Y'
      · intro z
        have := Y'.A.ends
        rw [z] at this
        simp at this
      · rw [List.length_append]; show ds'.length ≤ 2 * (pre.length + 1); omega
    · rintro ρ ⟨e6, e7, a8, a9, st, ds, rfl, he6, he7, Y, hst, hds⟩
      rw [List.drop_length] at Y
      have hend := Y.end
      have hst : st.now < lastOf st ∧ st.ends ≠ [] := by
        rcases hst with ⟨_, h⟩ | h
        · omega
        · exact h
      refine read_end1 Y (by omega) hw hst.2 (by omega) he6 fun e6 Y1 he6 => ?_
      refine read_end2 Y1 (by show st.now + (t - st.now) = t; omega) (by rw [List.length_append]; show ds.length + 1 ≤ 100; omega) hrow1 he6 fun e6 row2 st2 ds2 hrow2 Y2 hds2 he6 => ?_
      rw [List.length_append] at hds2
      have hds2 : ds2.length ≤ ds.length + 2 := hds2
      refine read_told Y2.A he6 he7 fun e6 he6 => ?_
      refine read_deeds Y2 (by omega) hq12 he6 fun e6 a8 a9 a10 he6 => ?_
      refine read_backs Y2 (by omega) he6 fun e6 a10 he6 => ?_
      refine read_last Y0 he6 fun e6 he6 => ?_
      exact hK _ ⟨row2, _, _, _, _, _, _, _, _, _, rfl, hrow2⟩
  · rintro ρ ⟨row, a2, a3, a4, a5, a6, a7, a8, a9, a10, rfl, hrow⟩
    exact hQ
end FW
set_option Elab.async false
set_option linter.all false
set_option maxRecDepth 100000
set_option maxHeartbeats 8000000
namespace FW
open PySem PySem.Spec PyProof.Rows L2 AL
/-! ### the class as a whole -/
structure NMe (K : PySem.W.Frag) (C : Addr) (m qual : Str) (st : Stmt) (ps : List Str) : Prop where
  ex : ∃ f fd, Meth K C m f ∧ Fun K m qual st f fd ∧ Binds K fd ps []
structure NIn (K : PySem.W.Frag) (C : Addr) (st : Stmt) (ps : List Str) : Prop where
  ex : ∃ f fd, Mk K C f ∧ Fun K "__init__" "Night.__init__" st f fd ∧ Binds K fd ps []
/-- the methods, as the program's text has them -/
structure NCls (K : PySem.W.Frag) (C : Addr) : Prop where
  m0 : NIn K C (s_n 0) ["self", "candles"]
  m1 : NMe K C "do" "Night.do" (s_n 1) ["self", "deed"]
  m3 : NMe K C "back" "Night.back" (s_n 3) ["self"]
  m4 : NMe K C "best" "Night.best" (s_n 4) ["self"]
  m5 : NMe K C "time" "Night.time" (s_n 5) ["self"]
  m6 : NMe K C "burning" "Night.burning" (s_n 6) ["self"]
  m7 : NMe K C "unlit" "Night.unlit" (s_n 7) ["self"]
  m8 : NMe K C "deeds" "Night.deeds" (s_n 8) ["self"]
  m9 : NMe K C "lasts" "Night.lasts" (s_n 9) ["self"]
  m10 : NMe K C "has_flame" "Night.has_flame" (s_n 10) ["self"]
  m11 : NMe K C "is_dry" "Night.is_dry" (s_n 11) ["self", "number"]
  m12 : NMe K C "is_left" "Night.is_left" (s_n 12) ["self", "number"]
  m13 : NMe K C "can_do" "Night.can_do" (s_n 13) ["self", "deed"]
  m14 : NMe K C "carry_out" "Night.carry_out" (s_n 14) ["self", "deed"]
  m15 : NMe K C "take_back" "Night.take_back" (s_n 15) ["self", "many"]
section
variable {P : Program} {w : World} {K : PySem.W.Frag} {mg : Str → Option Value} {base : Heap} {C : Addr}
structure NAll (P : Program) (w : World) (K : PySem.W.Frag) (mg : Str → Option Value) (base : Heap) (C : Addr) : Prop where
  init : OkI P w K mg base C 5 ["self", "candles"] n_init
  do_ : OkM P w K mg base C 5 "do" ["self", "deed"] n_do
  back : OkM P w K mg base C 2 "back" ["self"] n_back
  best : OkM P w K mg base C 4 "best" ["self"] n_best
  time : OkM P w K mg base C 1 "time" ["self"] n_time
  burning : OkM P w K mg base C 1 "burning" ["self"] n_burning
  unlit : OkM P w K mg base C 2 "unlit" ["self"] n_unlit
  deeds : OkM P w K mg base C 1 "deeds" ["self"] n_deeds
  can : OkM P w K mg base C 4 "can_do" ["self", "deed"] n_can_do
  carry : OkM P w K mg base C 1 "carry_out" ["self", "deed"] sp_carry
  take : OkM P w K mg base C 1 "take_back" ["self", "many"] sp_take
theorem night_ok (z : Zs mg) (T : NTxt K mg C) (N : NCls K C) (o_w : Ok P w K mg base 2 "is_within" p_is_within (liftSp K sp_is_within)) (o_c : Ok P w K mg base 3 "is_candle" p_is_candle (liftSp K sp_is_candle)) (o_n : Ok P w K mg base 3 "is_candle_number" p_is_candle_number (liftSp K sp_is_candle_number))
    (o_l : Ok P w K mg base 3 "longest_from" p_longest_from (liftSp K sp_longest_from)) (o_k : Ok P w K mg base 4 "check_candles" p_check_candles (liftSp K sp_check_candles)) (o_d : Ok P w K mg base 1 "is_deed" p_is_deed (liftSp K sp_is_deed)) : NAll P w K mg base C := by
  obtain ⟨f0, fd0, M0, F0, B0⟩ := N.m0.ex
  obtain ⟨f1, fd1, M1, F1, B1⟩ := N.m1.ex
  obtain ⟨f3, fd3, M3, F3, B3⟩ := N.m3.ex
  obtain ⟨f4, fd4, M4, F4, B4⟩ := N.m4.ex
  obtain ⟨f5, fd5, M5, F5, B5⟩ := N.m5.ex
  obtain ⟨f6, fd6, M6, F6, B6⟩ := N.m6.ex
  obtain ⟨f7, fd7, M7, F7, B7⟩ := N.m7.ex
  obtain ⟨f8, fd8, M8, F8, B8⟩ := N.m8.ex
  obtain ⟨f9, fd9, M9, F9, B9⟩ := N.m9.ex
  obtain ⟨f10, fd10, M10, F10, B10⟩ := N.m10.ex
  obtain ⟨f11, fd11, M11, F11, B11⟩ := N.m11.ex
  obtain ⟨f12, fd12, M12, F12, B12⟩ := N.m12.ex
  obtain ⟨f13, fd13, M13, F13, B13⟩ := N.m13.ex
  obtain ⟨f14, fd14, M14, F14, B14⟩ := N.m14.ex
  obtain ⟨f15, fd15, M15, F15, B15⟩ := N.m15.ex
  obtain ⟨fw, fdw, Fw, mw, kw, dw⟩ := o_w.ex
  obtain ⟨fc, fdc, Fc, mc, kc, dc⟩ := o_c.ex
  obtain ⟨fn, fdn, Fn, mn, kn, dn⟩ := o_n.ex
  obtain ⟨fl, fdl, Fl, ml, kl, dl⟩ := o_l.ex
  obtain ⟨fk, fdk, Fk, mk, kk, dk⟩ := o_k.ex
  obtain ⟨fd', fdd, Fd, md, kd, dd⟩ := o_d.ex
  have G5 := ok_time (P := P) (w := w) (mg := mg) (base := base) F5 T
  have G8 := ok_deeds (P := P) (w := w) (base := base) F8 T
  have G9 := ok_lasts (P := P) (w := w) (base := base) F9 T z.max_
  have G10 := ok_flame (P := P) (w := w) (base := base) F10 T M9 B9 G9
  have G11 := ok_dry (P := P) (w := w) (base := base) F11 T
  have G12 := ok_left (P := P) (w := w) (base := base) F12 T
  have G7 := ok_unlit (P := P) (w := w) (base := base) F7 T z.range_ z.len_ M11 B11 G11 M12 B12 G12
  have G6 := ok_burning (P := P) (w := w) (base := base) F6 T z.sorted_
  have G14 := ok_carry (P := P) (w := w) (base := base) F14 T
  have G15 := ok_take (P := P) (w := w) (base := base) F15 T z.range_
  have G3 := ok_back (P := P) (w := w) (base := base) F3 T M15 B15 G15
  have G4 := ok_best (P := P) (w := w) (base := base) mono_longest_from F4 T M9 B9 G9 M10 B10 G10 M7 B7 G7 ml kl dl Fl (by decide)
  have G13 := ok_can (P := P) (w := w) (base := base) (kX := 3) mono_is_within mono_is_candle mono_is_candle_number F13 T z.len_ z.LONGEST_WAIT_ z.MOST_CANDLES_ mw kw dw (FnUp (by decide) Fw) mc kc dc Fc mn kn dn Fn (by decide) M12 B12 G12 M11 B11 G11 M10 B10 G10
  have G1 := ok_do (P := P) (w := w) (base := base) mono_n_can_do mono_n_best F1 T md kd dd Fd M13 B13 G13 M14 B14 G14 M4 B4 G4 (by decide) (by decide)
  have G0 := ok_init (P := P) (w := w) (base := base) mono_check_candles F0 T mk kk dk Fk
  exact ⟨⟨f0, fd0, M0, G0, B0⟩, ⟨f1, fd1, M1, G1, B1⟩, ⟨f3, fd3, M3, G3, B3⟩, ⟨f4, fd4, M4, G4, B4⟩, ⟨f5, fd5, M5, G5, B5⟩, ⟨f6, fd6, M6, G6, B6⟩, ⟨f7, fd7, M7, G7, B7⟩, ⟨f8, fd8, M8, G8, B8⟩, ⟨f13, fd13, M13, G13, B13⟩, ⟨f14, fd14, M14, G14, B14⟩, ⟨f15, fd15, M15, G15, B15⟩⟩
end
end FW
set_option Elab.async false
set_option linter.all false
set_option maxRecDepth 100000
set_option maxHeartbeats 4000000
namespace FW
open PySem PySem.Spec PyProof.Rows L2 AL
section
variable {P : Program} {w : World} {K : PySem.W.Frag} {mg : Str → Option Value} {base : Heap}
theorem ok_is_whole (z : Zs mg)  (dn : Dn K mg "is_whole" p_is_whole s_is_whole) : Ok P w K mg base 1 "is_whole" p_is_whole (liftSp K sp_is_whole) := by
  obtain ⟨f, fd, F, m, B⟩ := dn.ex
  exact ⟨f, fd, fn_ok F sc_is_whole (by rintro _ _ h; first | (obtain ⟨_, rfl, _⟩ := h; rfl) | (obtain ⟨_, _, rfl, _⟩ := h; rfl) | (obtain ⟨_, _, _, rfl, _⟩ := h; rfl) | (obtain ⟨_, _, _, _, rfl, _⟩ := h; rfl) | (obtain ⟨_, _, _, _, _, rfl, _⟩ := h; rfl) | (obtain ⟨_, _, _, _, _, _, rfl, _⟩ := h; rfl)) (fun cdv A outer s₀ H E M W H0 T _ hr => b_is_whole z  f cdv A outer s₀ H E M W H0 T hr) read_is_whole, m, F.kp, B⟩
theorem ok_is_within (z : Zs mg) (h_is_whole : Ok P w K mg base 1 "is_whole" p_is_whole (liftSp K sp_is_whole)) (dn : Dn K mg "is_within" p_is_within s_is_within) : Ok P w K mg base 2 "is_within" p_is_within (liftSp K sp_is_within) := by
  obtain ⟨f, fd, F, m, B⟩ := dn.ex
  exact ⟨f, fd, fn_ok F sc_is_within (by rintro _ _ h; first | (obtain ⟨_, rfl, _⟩ := h; rfl) | (obtain ⟨_, _, rfl, _⟩ := h; rfl) | (obtain ⟨_, _, _, rfl, _⟩ := h; rfl) | (obtain ⟨_, _, _, _, rfl, _⟩ := h; rfl) | (obtain ⟨_, _, _, _, _, rfl, _⟩ := h; rfl) | (obtain ⟨_, _, _, _, _, _, rfl, _⟩ := h; rfl)) (fun cdv A outer s₀ H E M W H0 T _ hr => b_is_within z h_is_whole f cdv A outer s₀ H E M W H0 T hr) read_is_within, m, F.kp, B⟩
theorem ok_is_candle (z : Zs mg) (h_is_within : Ok P w K mg base 2 "is_within" p_is_within (liftSp K sp_is_within)) (dn : Dn K mg "is_candle" p_is_candle s_is_candle) : Ok P w K mg base 3 "is_candle" p_is_candle (liftSp K sp_is_candle) := by
  obtain ⟨f, fd, F, m, B⟩ := dn.ex
  exact ⟨f, fd, fn_ok F sc_is_candle (by rintro _ _ h; first | (obtain ⟨_, rfl, _⟩ := h; rfl) | (obtain ⟨_, _, rfl, _⟩ := h; rfl) | (obtain ⟨_, _, _, rfl, _⟩ := h; rfl) | (obtain ⟨_, _, _, _, rfl, _⟩ := h; rfl) | (obtain ⟨_, _, _, _, _, rfl, _⟩ := h; rfl) | (obtain ⟨_, _, _, _, _, _, rfl, _⟩ := h; rfl)) (fun cdv A outer s₀ H E M W H0 T _ hr => b_is_candle z h_is_within f cdv A outer s₀ H E M W H0 T hr) read_is_candle, m, F.kp, B⟩
theorem ok_check_candles (z : Zs mg) (h_is_candle : Ok P w K mg base 3 "is_candle" p_is_candle (liftSp K sp_is_candle)) (dn : Dn K mg "check_candles" p_check_candles s_check_candles) : Ok P w K mg base 4 "check_candles" p_check_candles (liftSp K sp_check_candles) := by
  obtain ⟨f, fd, F, m, B⟩ := dn.ex
  exact ⟨f, fd, fn_ok F sc_check_candles (by rintro _ _ h; first | (obtain ⟨_, rfl, _⟩ := h; rfl) | (obtain ⟨_, _, rfl, _⟩ := h; rfl) | (obtain ⟨_, _, _, rfl, _⟩ := h; rfl) | (obtain ⟨_, _, _, _, rfl, _⟩ := h; rfl) | (obtain ⟨_, _, _, _, _, rfl, _⟩ := h; rfl) | (obtain ⟨_, _, _, _, _, _, rfl, _⟩ := h; rfl)) (fun cdv A outer s₀ H E M W H0 T _ hr => b_check_candles z h_is_candle f cdv A outer s₀ H E M W H0 T hr) read_check_candles, m, F.kp, B⟩
theorem ok_lit_in_turn (z : Zs mg)  (dn : Dn K mg "lit_in_turn" p_lit_in_turn s_lit_in_turn) : Ok P w K mg base 1 "lit_in_turn" p_lit_in_turn (liftSp K sp_lit_in_turn) := by
  obtain ⟨f, fd, F, m, B⟩ := dn.ex
  exact ⟨f, fd, fn_ok F sc_lit_in_turn (by rintro _ _ h; first | (obtain ⟨_, rfl, _⟩ := h; rfl) | (obtain ⟨_, _, rfl, _⟩ := h; rfl) | (obtain ⟨_, _, _, rfl, _⟩ := h; rfl) | (obtain ⟨_, _, _, _, rfl, _⟩ := h; rfl) | (obtain ⟨_, _, _, _, _, rfl, _⟩ := h; rfl) | (obtain ⟨_, _, _, _, _, _, rfl, _⟩ := h; rfl)) (fun cdv A outer s₀ H E M W H0 T _ hr => b_lit_in_turn z  f cdv A outer s₀ H E M W H0 T hr) read_lit_in_turn, m, F.kp, B⟩
theorem ok_planned (z : Zs mg) (h_lit_in_turn : Ok P w K mg base 1 "lit_in_turn" p_lit_in_turn (liftSp K sp_lit_in_turn)) (dn : Dn K mg "planned" p_planned s_planned) : Ok P w K mg base 2 "planned" p_planned (liftSp K sp_planned) := by
  obtain ⟨f, fd, F, m, B⟩ := dn.ex
  exact ⟨f, fd, fn_ok F sc_planned (by rintro _ _ h; first | (obtain ⟨_, rfl, _⟩ := h; rfl) | (obtain ⟨_, _, rfl, _⟩ := h; rfl) | (obtain ⟨_, _, _, rfl, _⟩ := h; rfl) | (obtain ⟨_, _, _, _, rfl, _⟩ := h; rfl) | (obtain ⟨_, _, _, _, _, rfl, _⟩ := h; rfl) | (obtain ⟨_, _, _, _, _, _, rfl, _⟩ := h; rfl)) (fun cdv A outer s₀ H E M W H0 T _ hr => b_planned z h_lit_in_turn f cdv A outer s₀ H E M W H0 T hr) read_planned, m, F.kp, B⟩
theorem ok_latest_end (z : Zs mg)  (dn : Dn K mg "latest_end" p_latest_end s_latest_end) : Ok P w K mg base 1 "latest_end" p_latest_end (liftSp K sp_latest_end) := by
  obtain ⟨f, fd, F, m, B⟩ := dn.ex
  exact ⟨f, fd, fn_ok F sc_latest_end (by rintro _ _ h; first | (obtain ⟨_, rfl, _⟩ := h; rfl) | (obtain ⟨_, _, rfl, _⟩ := h; rfl) | (obtain ⟨_, _, _, rfl, _⟩ := h; rfl) | (obtain ⟨_, _, _, _, rfl, _⟩ := h; rfl) | (obtain ⟨_, _, _, _, _, rfl, _⟩ := h; rfl) | (obtain ⟨_, _, _, _, _, _, rfl, _⟩ := h; rfl)) (fun cdv A outer s₀ H E M W H0 T _ hr => b_latest_end z  f cdv A outer s₀ H E M W H0 T hr) read_latest_end, m, F.kp, B⟩
theorem ok_by_latest_end (z : Zs mg) (h_latest_end : Ok P w K mg base 1 "latest_end" p_latest_end (liftSp K sp_latest_end)) (dn : Dn K mg "by_latest_end" p_by_latest_end s_by_latest_end) : Ok P w K mg base 2 "by_latest_end" p_by_latest_end (liftSp K sp_by_latest_end) := by
  obtain ⟨f, fd, F, m, B⟩ := dn.ex
  exact ⟨f, fd, fn_ok F sc_by_latest_end (by rintro _ _ h; first | (obtain ⟨_, rfl, _⟩ := h; rfl) | (obtain ⟨_, _, rfl, _⟩ := h; rfl) | (obtain ⟨_, _, _, rfl, _⟩ := h; rfl) | (obtain ⟨_, _, _, _, rfl, _⟩ := h; rfl) | (obtain ⟨_, _, _, _, _, rfl, _⟩ := h; rfl) | (obtain ⟨_, _, _, _, _, _, rfl, _⟩ := h; rfl)) (fun cdv A outer s₀ H E M W H0 T _ hr => b_by_latest_end z h_latest_end f cdv A outer s₀ H E M W H0 T hr) read_by_latest_end, m, F.kp, B⟩
theorem ok_all_numbers (z : Zs mg)  (dn : Dn K mg "all_numbers" p_all_numbers s_all_numbers) : Ok P w K mg base 1 "all_numbers" p_all_numbers (liftSp K sp_all_numbers) := by
  obtain ⟨f, fd, F, m, B⟩ := dn.ex
  exact ⟨f, fd, fn_ok F sc_all_numbers (by rintro _ _ h; first | (obtain ⟨_, rfl, _⟩ := h; rfl) | (obtain ⟨_, _, rfl, _⟩ := h; rfl) | (obtain ⟨_, _, _, rfl, _⟩ := h; rfl) | (obtain ⟨_, _, _, _, rfl, _⟩ := h; rfl) | (obtain ⟨_, _, _, _, _, rfl, _⟩ := h; rfl) | (obtain ⟨_, _, _, _, _, _, rfl, _⟩ := h; rfl)) (fun cdv A outer s₀ H E M W H0 T _ hr => b_all_numbers z  f cdv A outer s₀ H E M W H0 T hr) read_all_numbers, m, F.kp, B⟩
theorem ok_longest (z : Zs mg) (h_all_numbers : Ok P w K mg base 1 "all_numbers" p_all_numbers (liftSp K sp_all_numbers)) (h_by_latest_end : Ok P w K mg base 2 "by_latest_end" p_by_latest_end (liftSp K sp_by_latest_end)) (h_check_candles : Ok P w K mg base 4 "check_candles" p_check_candles (liftSp K sp_check_candles)) (h_planned : Ok P w K mg base 2 "planned" p_planned (liftSp K sp_planned)) (dn : Dn K mg "longest" p_longest s_longest) : Ok P w K mg base 5 "longest" p_longest (liftSp K sp_longest) := by
  obtain ⟨f, fd, F, m, B⟩ := dn.ex
  exact ⟨f, fd, fn_ok F sc_longest (by rintro _ _ h; first | (obtain ⟨_, rfl, _⟩ := h; rfl) | (obtain ⟨_, _, rfl, _⟩ := h; rfl) | (obtain ⟨_, _, _, rfl, _⟩ := h; rfl) | (obtain ⟨_, _, _, _, rfl, _⟩ := h; rfl) | (obtain ⟨_, _, _, _, _, rfl, _⟩ := h; rfl) | (obtain ⟨_, _, _, _, _, _, rfl, _⟩ := h; rfl)) (fun cdv A outer s₀ H E M W H0 T _ hr => b_longest z h_all_numbers h_by_latest_end h_check_candles h_planned f cdv A outer s₀ H E M W H0 T hr) read_longest, m, F.kp, B⟩
theorem ok_longest_from (z : Zs mg) (h_by_latest_end : Ok P w K mg base 2 "by_latest_end" p_by_latest_end (liftSp K sp_by_latest_end)) (h_lit_in_turn : Ok P w K mg base 1 "lit_in_turn" p_lit_in_turn (liftSp K sp_lit_in_turn)) (dn : Dn K mg "longest_from" p_longest_from s_longest_from) : Ok P w K mg base 3 "longest_from" p_longest_from (liftSp K sp_longest_from) := by
  obtain ⟨f, fd, F, m, B⟩ := dn.ex
  exact ⟨f, fd, fn_ok F sc_longest_from (by rintro _ _ h; first | (obtain ⟨_, rfl, _⟩ := h; rfl) | (obtain ⟨_, _, rfl, _⟩ := h; rfl) | (obtain ⟨_, _, _, rfl, _⟩ := h; rfl) | (obtain ⟨_, _, _, _, rfl, _⟩ := h; rfl) | (obtain ⟨_, _, _, _, _, rfl, _⟩ := h; rfl) | (obtain ⟨_, _, _, _, _, _, rfl, _⟩ := h; rfl)) (fun cdv A outer s₀ H E M W H0 T _ hr => b_longest_from z h_by_latest_end h_lit_in_turn f cdv A outer s₀ H E M W H0 T hr) read_longest_from, m, F.kp, B⟩
theorem ok_is_candle_number (z : Zs mg) (h_is_within : Ok P w K mg base 2 "is_within" p_is_within (liftSp K sp_is_within)) (dn : Dn K mg "is_candle_number" p_is_candle_number s_is_candle_number) : Ok P w K mg base 3 "is_candle_number" p_is_candle_number (liftSp K sp_is_candle_number) := by
  obtain ⟨f, fd, F, m, B⟩ := dn.ex
  exact ⟨f, fd, fn_ok F sc_is_candle_number (by rintro _ _ h; first | (obtain ⟨_, rfl, _⟩ := h; rfl) | (obtain ⟨_, _, rfl, _⟩ := h; rfl) | (obtain ⟨_, _, _, rfl, _⟩ := h; rfl) | (obtain ⟨_, _, _, _, rfl, _⟩ := h; rfl) | (obtain ⟨_, _, _, _, _, rfl, _⟩ := h; rfl) | (obtain ⟨_, _, _, _, _, _, rfl, _⟩ := h; rfl)) (fun cdv A outer s₀ H E M W H0 T _ hr => b_is_candle_number z h_is_within f cdv A outer s₀ H E M W H0 T hr) read_is_candle_number, m, F.kp, B⟩
theorem ok_l_taken (z : Zs mg)  (dn : Dn K mg "_law_taken" p_l_taken s_l_taken) : Ok P w K mg base 1 "_law_taken" p_l_taken (liftRw K sp_l_taken) := by
  obtain ⟨f, fd, F, m, B⟩ := dn.ex
  exact ⟨f, fd, fn_okR F sc_l_taken (by rintro _ _ _ ⟨_, _, rfl, _⟩; rfl) (fun _ _ _ _ _ _ => trivial) (fun cdv A outer s₀ H E M W H0 T _ hr => b_l_taken z  f cdv A outer s₀ H E M W H0 T hr) read_l_taken, m, F.kp, B⟩
theorem ok_l_candles (z : Zs mg) (h_l_taken : Ok P w K mg base 1 "_law_taken" p_l_taken (liftRw K sp_l_taken)) (dn : Dn K mg "_law_candles" p_l_candles s_l_candles) : Ok P w K mg base 2 "_law_candles" p_l_candles (liftRw K sp_l_candles) := by
  obtain ⟨f, fd, F, m, B⟩ := dn.ex
  exact ⟨f, fd, fn_okR F sc_l_candles (by rintro _ _ _ ⟨_, _, _, rfl, _⟩; rfl) (fun _ _ _ _ _ _ => trivial) (fun cdv A outer s₀ H E M W H0 T _ hr => b_l_candles z h_l_taken f cdv A outer s₀ H E M W H0 T hr) read_l_candles, m, F.kp, B⟩
theorem ok_law (z : Zs mg) (h_l_candles : Ok P w K mg base 2 "_law_candles" p_l_candles (liftRw K sp_l_candles)) (h_l_taken : Ok P w K mg base 1 "_law_taken" p_l_taken (liftRw K sp_l_taken)) (h_longest : Ok P w K mg base 5 "longest" p_longest (liftSp K sp_longest)) {C : Addr} (NTx : NTxt K mg C) (nm_back : OkM P w K mg base C 2 "back" ["self"] n_back) (nm_best : OkM P w K mg base C 4 "best" ["self"] n_best) (nm_burning : OkM P w K mg base C 1 "burning" ["self"] n_burning) (nm_deeds : OkM P w K mg base C 1 "deeds" ["self"] n_deeds) (nm_do : OkM P w K mg base C 5 "do" ["self", "deed"] n_do) (nm_time : OkM P w K mg base C 1 "time" ["self"] n_time) (gN : mg "Night" = some (.ref C)) (ni : OkI P w K mg base C 5 ["self", "candles"] n_init) (of_l_is_told : OkF P w K mg base 3 "_law_is_told" p_told (sp_toldN K C)) {f : Addr} {fd : FuncData} (F : Fun K "law" "law" s_law f fd) : FnOk P w K mg base CX0 7 f fd p_law (liftSp K sp_law) :=
  fn_ok F sc_law (by rintro _ _ h; first | (obtain ⟨_, rfl, _⟩ := h; rfl) | (obtain ⟨_, _, rfl, _⟩ := h; rfl) | (obtain ⟨_, _, _, rfl, _⟩ := h; rfl) | (obtain ⟨_, _, _, _, rfl, _⟩ := h; rfl) | (obtain ⟨_, _, _, _, _, rfl, _⟩ := h; rfl) | (obtain ⟨_, _, _, _, _, _, rfl, _⟩ := h; rfl)) (fun cdv A outer s₀ H E M W H0 T _ hr => b_law z h_l_candles h_l_taken h_longest NTx nm_back nm_best nm_burning nm_deeds nm_do nm_time gN ni of_l_is_told f cdv A outer s₀ H E M W H0 T hr) read_law
theorem all_ok (z : Zs mg) {C wa : Addr} (NTx : NTxt K mg C) (gN : mg "Night" = some (.ref C)) (N0 : NCls K C) (gw : mg "WORDS" = some (.ref wa)) (hw : ∀ H, SqT K H wa (wordsL.map V.str)) (dn_is_deed : Dn K mg "is_deed" p_is_deed s_is_deed) (dn_told : Dn K mg "_law_is_told" p_told s_told) (dn_is_whole : Dn K mg "is_whole" p_is_whole s_is_whole) (dn_is_within : Dn K mg "is_within" p_is_within s_is_within) (dn_is_candle : Dn K mg "is_candle" p_is_candle s_is_candle) (dn_check_candles : Dn K mg "check_candles" p_check_candles s_check_candles) (dn_lit_in_turn : Dn K mg "lit_in_turn" p_lit_in_turn s_lit_in_turn) (dn_planned : Dn K mg "planned" p_planned s_planned) (dn_latest_end : Dn K mg "latest_end" p_latest_end s_latest_end) (dn_by_latest_end : Dn K mg "by_latest_end" p_by_latest_end s_by_latest_end) (dn_all_numbers : Dn K mg "all_numbers" p_all_numbers s_all_numbers) (dn_longest : Dn K mg "longest" p_longest s_longest) (dn_longest_from : Dn K mg "longest_from" p_longest_from s_longest_from) (dn_is_candle_number : Dn K mg "is_candle_number" p_is_candle_number s_is_candle_number) (dn_l_taken : Dn K mg "_law_taken" p_l_taken s_l_taken) (dn_l_candles : Dn K mg "_law_candles" p_l_candles s_l_candles) {f : Addr} {fd : FuncData} (F : Fun K "law" "law" s_law f fd) : FnOk P w K mg base CX0 7 f fd p_law (liftSp K sp_law) := by
  have o_is_whole := ok_is_whole (P := P) (w := w) (base := base) z  dn_is_whole
  have o_is_within := ok_is_within (P := P) (w := w) (base := base) z o_is_whole dn_is_within
  have o_is_candle := ok_is_candle (P := P) (w := w) (base := base) z o_is_within dn_is_candle
  have o_check_candles := ok_check_candles (P := P) (w := w) (base := base) z o_is_candle dn_check_candles
  have o_lit_in_turn := ok_lit_in_turn (P := P) (w := w) (base := base) z  dn_lit_in_turn
  have o_planned := ok_planned (P := P) (w := w) (base := base) z o_lit_in_turn dn_planned
  have o_latest_end := ok_latest_end (P := P) (w := w) (base := base) z  dn_latest_end
  have o_by_latest_end := ok_by_latest_end (P := P) (w := w) (base := base) z o_latest_end dn_by_latest_end
  have o_all_numbers := ok_all_numbers (P := P) (w := w) (base := base) z  dn_all_numbers
  have o_longest := ok_longest (P := P) (w := w) (base := base) z o_all_numbers o_by_latest_end o_check_candles o_planned dn_longest
  have o_longest_from := ok_longest_from (P := P) (w := w) (base := base) z o_by_latest_end o_lit_in_turn dn_longest_from
  have o_is_candle_number := ok_is_candle_number (P := P) (w := w) (base := base) z o_is_within dn_is_candle_number
  have o_l_taken := ok_l_taken (P := P) (w := w) (base := base) z  dn_l_taken
  have o_l_candles := ok_l_candles (P := P) (w := w) (base := base) z o_l_taken dn_l_candles
  have o_is_deed := ok_is_deed (P := P) (w := w) (base := base) z gw hw dn_is_deed
  have N := night_ok (P := P) (w := w) (base := base) z NTx N0 o_is_within o_is_candle o_is_candle_number o_longest_from o_check_candles o_is_deed
  have o_told : OkF P w K mg base 3 "_law_is_told" p_told (sp_toldN K C) := by
    obtain ⟨f5, fd5, M5, F5, B5⟩ := N.time.ex
    obtain ⟨f6, fd6, M6, F6, B6⟩ := N.burning.ex
    obtain ⟨f7, fd7, M7, F7, B7⟩ := N.unlit.ex
    obtain ⟨ft, fdt, Ft, mt, Bt⟩ := dn_told.ex
    exact ⟨ft, fdt, ok_told Ft NTx z.range_ z.len_ z.sorted_ M5 B5 F5 M6 B6 F6 M7 B7 F7, mt, Ft.kp, Bt⟩
  exact ok_law (P := P) (w := w) (base := base) z o_l_candles o_l_taken o_longest NTx N.back N.best N.burning N.deeds N.do_ N.time gN N.init o_told F
end
theorem all_mk {l : PySem.W.OpenLaw} {w : World} {K : PySem.W.Frag} {h : Heap} {mg : Str → Option Value} {fa C wa f0 f1 f2 f3 f4 f5 f6 f7 f8 f9 f10 f11 f12 f13 f14 f15 f16 : Addr} (X : K.In h) (G : h.Ns mainGlobals mg) (hfa : mg "law" = some (.ref fa))
    {od0 an0 od1 an1 od2 an2 od3 an3 od4 an4 od5 an5 od6 an6 od7 an7 od8 an8 od9 an9 od10 an10 od11 an11 od12 an12 od13 an13 od14 an14 od15 an15 od16 an16 : Option Addr} {sl0 sl1 sl2 sl3 sl4 sl5 sl6 sl7 sl8 sl9 sl10 sl11 sl12 sl13 sl14 sl15 sl16 : Array (Option Value)} {oc0 kV0 dc0 pm0 cd0 ct0 oc1 kV1 dc1 pm1 cd1 ct1 oc2 kV2 dc2 pm2 cd2 ct2 oc3 kV3 dc3 pm3 cd3 ct3 oc4 kV4 dc4 pm4 cd4 ct4 oc5 kV5 dc5 pm5 cd5 ct5 oc6 kV6 dc6 pm6 cd6 ct6 oc7 kV7 dc7 pm7 cd7 ct7 oc8 kV8 dc8 pm8 cd8 ct8 oc9 kV9 dc9 pm9 cd9 ct9 oc10 kV10 dc10 pm10 cd10 ct10 oc11 kV11 dc11 pm11 cd11 ct11 oc12 kV12 dc12 pm12 cd12 ct12 oc13 kV13 dc13 pm13 cd13 ct13 oc14 kV14 dc14 pm14 cd14 ct14 oc15 kV15 dc15 pm15 cd15 ct15 oc16 kV16 dc16 pm16 cd16 ct16 : Value}
    {mf0 mf1 mf3 mf4 mf5 mf6 mf7 mf8 mf9 mf10 mf11 mf12 mf13 mf14 mf15 : Addr} {mo0 ma0 mo1 ma1 mo3 ma3 mo4 ma4 mo5 ma5 mo6 ma6 mo7 ma7 mo8 ma8 mo9 ma9 mo10 ma10 mo11 ma11 mo12 ma12 mo13 ma13 mo14 ma14 mo15 ma15 : Option Addr} {ms0 ms1 ms3 ms4 ms5 ms6 ms7 ms8 ms9 ms10 ms11 ms12 ms13 ms14 ms15 : Array (Option Value)} {mc0 mk0 md0 mp0 mq0 mt0 mc1 mk1 md1 mp1 mq1 mt1 mc3 mk3 md3 mp3 mq3 mt3 mc4 mk4 md4 mp4 mq4 mt4 mc5 mk5 md5 mp5 mq5 mt5 mc6 mk6 md6 mp6 mq6 mt6 mc7 mk7 md7 mp7 mq7 mt7 mc8 mk8 md8 mp8 mq8 mt8 mc9 mk9 md9 mp9 mq9 mt9 mc10 mk10 md10 mp10 mq10 mt10 mc11 mk11 md11 mp11 mq11 mt11 mc12 mk12 md12 mp12 mq12 mt12 mc13 mk13 md13 mp13 mq13 mt13 mc14 mk14 md14 mp14 mq14 mt14 mc15 mk15 md15 mp15 mq15 mt15 : Value}
    {tg_MOST_CANDLES tg_LONGEST_LENGTH tg_LATEST_DAMP tg_HIGHEST_PRICE tg_LONGEST_WAIT : _}
    (a0 : PySem.W.nsIn K mainGlobals "is_whole" = some (some (.ref f0))) (l0 : K.lookup f0 = some ⟨oc0, od0, .func (PySem.W.fnOf "is_whole" "is_whole" (defArgs s_is_whole) (defBody s_is_whole) (defScope s_is_whole) .none kV0 dc0 pm0 an0 cd0 ct0), sl0⟩) (c0 : PySem.W.codeIn K cd0 "is_whole" = true) (k0 : PySem.W.keepIn K (.ref f0) = true)
    (a1 : PySem.W.nsIn K mainGlobals "is_within" = some (some (.ref f1))) (l1 : K.lookup f1 = some ⟨oc1, od1, .func (PySem.W.fnOf "is_within" "is_within" (defArgs s_is_within) (defBody s_is_within) (defScope s_is_within) .none kV1 dc1 pm1 an1 cd1 ct1), sl1⟩) (c1 : PySem.W.codeIn K cd1 "is_within" = true) (k1 : PySem.W.keepIn K (.ref f1) = true)
    (a2 : PySem.W.nsIn K mainGlobals "is_candle" = some (some (.ref f2))) (l2 : K.lookup f2 = some ⟨oc2, od2, .func (PySem.W.fnOf "is_candle" "is_candle" (defArgs s_is_candle) (defBody s_is_candle) (defScope s_is_candle) .none kV2 dc2 pm2 an2 cd2 ct2), sl2⟩) (c2 : PySem.W.codeIn K cd2 "is_candle" = true) (k2 : PySem.W.keepIn K (.ref f2) = true)
    (a3 : PySem.W.nsIn K mainGlobals "check_candles" = some (some (.ref f3))) (l3 : K.lookup f3 = some ⟨oc3, od3, .func (PySem.W.fnOf "check_candles" "check_candles" (defArgs s_check_candles) (defBody s_check_candles) (defScope s_check_candles) .none kV3 dc3 pm3 an3 cd3 ct3), sl3⟩) (c3 : PySem.W.codeIn K cd3 "check_candles" = true) (k3 : PySem.W.keepIn K (.ref f3) = true)
    (a4 : PySem.W.nsIn K mainGlobals "lit_in_turn" = some (some (.ref f4))) (l4 : K.lookup f4 = some ⟨oc4, od4, .func (PySem.W.fnOf "lit_in_turn" "lit_in_turn" (defArgs s_lit_in_turn) (defBody s_lit_in_turn) (defScope s_lit_in_turn) .none kV4 dc4 pm4 an4 cd4 ct4), sl4⟩) (c4 : PySem.W.codeIn K cd4 "lit_in_turn" = true) (k4 : PySem.W.keepIn K (.ref f4) = true)
    (a5 : PySem.W.nsIn K mainGlobals "planned" = some (some (.ref f5))) (l5 : K.lookup f5 = some ⟨oc5, od5, .func (PySem.W.fnOf "planned" "planned" (defArgs s_planned) (defBody s_planned) (defScope s_planned) .none kV5 dc5 pm5 an5 cd5 ct5), sl5⟩) (c5 : PySem.W.codeIn K cd5 "planned" = true) (k5 : PySem.W.keepIn K (.ref f5) = true)
    (a6 : PySem.W.nsIn K mainGlobals "latest_end" = some (some (.ref f6))) (l6 : K.lookup f6 = some ⟨oc6, od6, .func (PySem.W.fnOf "latest_end" "latest_end" (defArgs s_latest_end) (defBody s_latest_end) (defScope s_latest_end) .none kV6 dc6 pm6 an6 cd6 ct6), sl6⟩) (c6 : PySem.W.codeIn K cd6 "latest_end" = true) (k6 : PySem.W.keepIn K (.ref f6) = true)
    (a7 : PySem.W.nsIn K mainGlobals "by_latest_end" = some (some (.ref f7))) (l7 : K.lookup f7 = some ⟨oc7, od7, .func (PySem.W.fnOf "by_latest_end" "by_latest_end" (defArgs s_by_latest_end) (defBody s_by_latest_end) (defScope s_by_latest_end) .none kV7 dc7 pm7 an7 cd7 ct7), sl7⟩) (c7 : PySem.W.codeIn K cd7 "by_latest_end" = true) (k7 : PySem.W.keepIn K (.ref f7) = true)
    (a8 : PySem.W.nsIn K mainGlobals "all_numbers" = some (some (.ref f8))) (l8 : K.lookup f8 = some ⟨oc8, od8, .func (PySem.W.fnOf "all_numbers" "all_numbers" (defArgs s_all_numbers) (defBody s_all_numbers) (defScope s_all_numbers) .none kV8 dc8 pm8 an8 cd8 ct8), sl8⟩) (c8 : PySem.W.codeIn K cd8 "all_numbers" = true) (k8 : PySem.W.keepIn K (.ref f8) = true)
    (a9 : PySem.W.nsIn K mainGlobals "longest" = some (some (.ref f9))) (l9 : K.lookup f9 = some ⟨oc9, od9, .func (PySem.W.fnOf "longest" "longest" (defArgs s_longest) (defBody s_longest) (defScope s_longest) .none kV9 dc9 pm9 an9 cd9 ct9), sl9⟩) (c9 : PySem.W.codeIn K cd9 "longest" = true) (k9 : PySem.W.keepIn K (.ref f9) = true)
    (a10 : PySem.W.nsIn K mainGlobals "longest_from" = some (some (.ref f10))) (l10 : K.lookup f10 = some ⟨oc10, od10, .func (PySem.W.fnOf "longest_from" "longest_from" (defArgs s_longest_from) (defBody s_longest_from) (defScope s_longest_from) .none kV10 dc10 pm10 an10 cd10 ct10), sl10⟩) (c10 : PySem.W.codeIn K cd10 "longest_from" = true) (k10 : PySem.W.keepIn K (.ref f10) = true)
    (a11 : PySem.W.nsIn K mainGlobals "is_candle_number" = some (some (.ref f11))) (l11 : K.lookup f11 = some ⟨oc11, od11, .func (PySem.W.fnOf "is_candle_number" "is_candle_number" (defArgs s_is_candle_number) (defBody s_is_candle_number) (defScope s_is_candle_number) .none kV11 dc11 pm11 an11 cd11 ct11), sl11⟩) (c11 : PySem.W.codeIn K cd11 "is_candle_number" = true) (k11 : PySem.W.keepIn K (.ref f11) = true)
    (a12 : PySem.W.nsIn K mainGlobals "_law_taken" = some (some (.ref f12))) (l12 : K.lookup f12 = some ⟨oc12, od12, .func (PySem.W.fnOf "_law_taken" "_law_taken" (defArgs s_l_taken) (defBody s_l_taken) (defScope s_l_taken) .none kV12 dc12 pm12 an12 cd12 ct12), sl12⟩) (c12 : PySem.W.codeIn K cd12 "_law_taken" = true) (k12 : PySem.W.keepIn K (.ref f12) = true)
    (a13 : PySem.W.nsIn K mainGlobals "_law_candles" = some (some (.ref f13))) (l13 : K.lookup f13 = some ⟨oc13, od13, .func (PySem.W.fnOf "_law_candles" "_law_candles" (defArgs s_l_candles) (defBody s_l_candles) (defScope s_l_candles) .none kV13 dc13 pm13 an13 cd13 ct13), sl13⟩) (c13 : PySem.W.codeIn K cd13 "_law_candles" = true) (k13 : PySem.W.keepIn K (.ref f13) = true)
    (a14 : PySem.W.nsIn K mainGlobals "law" = some (some (.ref f14))) (l14 : K.lookup f14 = some ⟨oc14, od14, .func (PySem.W.fnOf "law" "law" (defArgs s_law) (defBody s_law) (defScope s_law) .none kV14 dc14 pm14 an14 cd14 ct14), sl14⟩) (c14 : PySem.W.codeIn K cd14 "law" = true) (k14 : PySem.W.keepIn K (.ref f14) = true)
    (a15 : PySem.W.nsIn K mainGlobals "is_deed" = some (some (.ref f15))) (l15 : K.lookup f15 = some ⟨oc15, od15, .func (PySem.W.fnOf "is_deed" "is_deed" (defArgs s_is_deed) (defBody s_is_deed) (defScope s_is_deed) .none kV15 dc15 pm15 an15 cd15 ct15), sl15⟩) (c15 : PySem.W.codeIn K cd15 "is_deed" = true) (k15 : PySem.W.keepIn K (.ref f15) = true)
    (a16 : PySem.W.nsIn K mainGlobals "_law_is_told" = some (some (.ref f16))) (l16 : K.lookup f16 = some ⟨oc16, od16, .func (PySem.W.fnOf "_law_is_told" "_law_is_told" (defArgs s_told) (defBody s_told) (defScope s_told) .none kV16 dc16 pm16 an16 cd16 ct16), sl16⟩) (c16 : PySem.W.codeIn K cd16 "_law_is_told" = true) (k16 : PySem.W.keepIn K (.ref f16) = true)
    (aC : PySem.W.nsIn K mainGlobals "Night" = some (some (.ref C))) (pg : PySem.W.plainGet K C Str.empty = true) (hd : PySem.W.hasDictIn K C = true) (po : PySem.W.plainOver K C = true) (sa : PySem.W.findIn K (.ref C) "__setattr__" = some (some (.builtin "object.__setattr__"))) (mk : PySem.W.makesIn K C = true) (kc : PySem.W.keepIn K (.ref C) = true)
    (n_candles : PySem.W.findIn K (.ref C) "candles" = some none)
    (n_ends : PySem.W.findIn K (.ref C) "ends" = some none)
    (n_lost : PySem.W.findIn K (.ref C) "lost" = some none)
    (n_now : PySem.W.findIn K (.ref C) "now" = some none)
    (n_done : PySem.W.findIn K (.ref C) "done" = some none)
    (fa0 : PySem.W.findIn K (.ref C) "__init__" = some (some (.ref mf0))) (fi0 : PySem.W.isFn K (.ref mf0) = true) (fl0 : K.lookup mf0 = some ⟨mc0, mo0, .func (PySem.W.fnOf "__init__" "Night.__init__" (defArgs (s_n 0)) (defBody (s_n 0)) (defScope (s_n 0)) .none mk0 md0 mp0 ma0 mq0 mt0), ms0⟩) (fc0 : PySem.W.codeIn K mq0 "Night.__init__" = true) (fk0 : PySem.W.keepIn K (.ref mf0) = true)
    (fa1 : PySem.W.findIn K (.ref C) "do" = some (some (.ref mf1))) (fi1 : PySem.W.isFn K (.ref mf1) = true) (fl1 : K.lookup mf1 = some ⟨mc1, mo1, .func (PySem.W.fnOf "do" "Night.do" (defArgs (s_n 1)) (defBody (s_n 1)) (defScope (s_n 1)) .none mk1 md1 mp1 ma1 mq1 mt1), ms1⟩) (fc1 : PySem.W.codeIn K mq1 "Night.do" = true) (fk1 : PySem.W.keepIn K (.ref mf1) = true)
    (fa3 : PySem.W.findIn K (.ref C) "back" = some (some (.ref mf3))) (fi3 : PySem.W.isFn K (.ref mf3) = true) (fl3 : K.lookup mf3 = some ⟨mc3, mo3, .func (PySem.W.fnOf "back" "Night.back" (defArgs (s_n 3)) (defBody (s_n 3)) (defScope (s_n 3)) .none mk3 md3 mp3 ma3 mq3 mt3), ms3⟩) (fc3 : PySem.W.codeIn K mq3 "Night.back" = true) (fk3 : PySem.W.keepIn K (.ref mf3) = true)
    (fa4 : PySem.W.findIn K (.ref C) "best" = some (some (.ref mf4))) (fi4 : PySem.W.isFn K (.ref mf4) = true) (fl4 : K.lookup mf4 = some ⟨mc4, mo4, .func (PySem.W.fnOf "best" "Night.best" (defArgs (s_n 4)) (defBody (s_n 4)) (defScope (s_n 4)) .none mk4 md4 mp4 ma4 mq4 mt4), ms4⟩) (fc4 : PySem.W.codeIn K mq4 "Night.best" = true) (fk4 : PySem.W.keepIn K (.ref mf4) = true)
    (fa5 : PySem.W.findIn K (.ref C) "time" = some (some (.ref mf5))) (fi5 : PySem.W.isFn K (.ref mf5) = true) (fl5 : K.lookup mf5 = some ⟨mc5, mo5, .func (PySem.W.fnOf "time" "Night.time" (defArgs (s_n 5)) (defBody (s_n 5)) (defScope (s_n 5)) .none mk5 md5 mp5 ma5 mq5 mt5), ms5⟩) (fc5 : PySem.W.codeIn K mq5 "Night.time" = true) (fk5 : PySem.W.keepIn K (.ref mf5) = true)
    (fa6 : PySem.W.findIn K (.ref C) "burning" = some (some (.ref mf6))) (fi6 : PySem.W.isFn K (.ref mf6) = true) (fl6 : K.lookup mf6 = some ⟨mc6, mo6, .func (PySem.W.fnOf "burning" "Night.burning" (defArgs (s_n 6)) (defBody (s_n 6)) (defScope (s_n 6)) .none mk6 md6 mp6 ma6 mq6 mt6), ms6⟩) (fc6 : PySem.W.codeIn K mq6 "Night.burning" = true) (fk6 : PySem.W.keepIn K (.ref mf6) = true)
    (fa7 : PySem.W.findIn K (.ref C) "unlit" = some (some (.ref mf7))) (fi7 : PySem.W.isFn K (.ref mf7) = true) (fl7 : K.lookup mf7 = some ⟨mc7, mo7, .func (PySem.W.fnOf "unlit" "Night.unlit" (defArgs (s_n 7)) (defBody (s_n 7)) (defScope (s_n 7)) .none mk7 md7 mp7 ma7 mq7 mt7), ms7⟩) (fc7 : PySem.W.codeIn K mq7 "Night.unlit" = true) (fk7 : PySem.W.keepIn K (.ref mf7) = true)
    (fa8 : PySem.W.findIn K (.ref C) "deeds" = some (some (.ref mf8))) (fi8 : PySem.W.isFn K (.ref mf8) = true) (fl8 : K.lookup mf8 = some ⟨mc8, mo8, .func (PySem.W.fnOf "deeds" "Night.deeds" (defArgs (s_n 8)) (defBody (s_n 8)) (defScope (s_n 8)) .none mk8 md8 mp8 ma8 mq8 mt8), ms8⟩) (fc8 : PySem.W.codeIn K mq8 "Night.deeds" = true) (fk8 : PySem.W.keepIn K (.ref mf8) = true)
    (fa9 : PySem.W.findIn K (.ref C) "lasts" = some (some (.ref mf9))) (fi9 : PySem.W.isFn K (.ref mf9) = true) (fl9 : K.lookup mf9 = some ⟨mc9, mo9, .func (PySem.W.fnOf "lasts" "Night.lasts" (defArgs (s_n 9)) (defBody (s_n 9)) (defScope (s_n 9)) .none mk9 md9 mp9 ma9 mq9 mt9), ms9⟩) (fc9 : PySem.W.codeIn K mq9 "Night.lasts" = true) (fk9 : PySem.W.keepIn K (.ref mf9) = true)
    (fa10 : PySem.W.findIn K (.ref C) "has_flame" = some (some (.ref mf10))) (fi10 : PySem.W.isFn K (.ref mf10) = true) (fl10 : K.lookup mf10 = some ⟨mc10, mo10, .func (PySem.W.fnOf "has_flame" "Night.has_flame" (defArgs (s_n 10)) (defBody (s_n 10)) (defScope (s_n 10)) .none mk10 md10 mp10 ma10 mq10 mt10), ms10⟩) (fc10 : PySem.W.codeIn K mq10 "Night.has_flame" = true) (fk10 : PySem.W.keepIn K (.ref mf10) = true)
    (fa11 : PySem.W.findIn K (.ref C) "is_dry" = some (some (.ref mf11))) (fi11 : PySem.W.isFn K (.ref mf11) = true) (fl11 : K.lookup mf11 = some ⟨mc11, mo11, .func (PySem.W.fnOf "is_dry" "Night.is_dry" (defArgs (s_n 11)) (defBody (s_n 11)) (defScope (s_n 11)) .none mk11 md11 mp11 ma11 mq11 mt11), ms11⟩) (fc11 : PySem.W.codeIn K mq11 "Night.is_dry" = true) (fk11 : PySem.W.keepIn K (.ref mf11) = true)
    (fa12 : PySem.W.findIn K (.ref C) "is_left" = some (some (.ref mf12))) (fi12 : PySem.W.isFn K (.ref mf12) = true) (fl12 : K.lookup mf12 = some ⟨mc12, mo12, .func (PySem.W.fnOf "is_left" "Night.is_left" (defArgs (s_n 12)) (defBody (s_n 12)) (defScope (s_n 12)) .none mk12 md12 mp12 ma12 mq12 mt12), ms12⟩) (fc12 : PySem.W.codeIn K mq12 "Night.is_left" = true) (fk12 : PySem.W.keepIn K (.ref mf12) = true)
    (fa13 : PySem.W.findIn K (.ref C) "can_do" = some (some (.ref mf13))) (fi13 : PySem.W.isFn K (.ref mf13) = true) (fl13 : K.lookup mf13 = some ⟨mc13, mo13, .func (PySem.W.fnOf "can_do" "Night.can_do" (defArgs (s_n 13)) (defBody (s_n 13)) (defScope (s_n 13)) .none mk13 md13 mp13 ma13 mq13 mt13), ms13⟩) (fc13 : PySem.W.codeIn K mq13 "Night.can_do" = true) (fk13 : PySem.W.keepIn K (.ref mf13) = true)
    (fa14 : PySem.W.findIn K (.ref C) "carry_out" = some (some (.ref mf14))) (fi14 : PySem.W.isFn K (.ref mf14) = true) (fl14 : K.lookup mf14 = some ⟨mc14, mo14, .func (PySem.W.fnOf "carry_out" "Night.carry_out" (defArgs (s_n 14)) (defBody (s_n 14)) (defScope (s_n 14)) .none mk14 md14 mp14 ma14 mq14 mt14), ms14⟩) (fc14 : PySem.W.codeIn K mq14 "Night.carry_out" = true) (fk14 : PySem.W.keepIn K (.ref mf14) = true)
    (fa15 : PySem.W.findIn K (.ref C) "take_back" = some (some (.ref mf15))) (fi15 : PySem.W.isFn K (.ref mf15) = true) (fl15 : K.lookup mf15 = some ⟨mc15, mo15, .func (PySem.W.fnOf "take_back" "Night.take_back" (defArgs (s_n 15)) (defBody (s_n 15)) (defScope (s_n 15)) .none mk15 md15 mp15 ma15 mq15 mt15), ms15⟩) (fc15 : PySem.W.codeIn K mq15 "Night.take_back" = true) (fk15 : PySem.W.keepIn K (.ref mf15) = true)
    {wd : Option Addr} {wi : Array Value} {wn : Nat} {wsl : Array (Option Value)} (w0 : PySem.W.nsIn K mainGlobals "WORDS" = some (some (.ref wa))) (w1 : K.lookup wa = some ⟨.type "tuple", wd, .seq wi wn, wsl⟩) (w2 : wi.size ≤ sizeLine) (w3 : Vals (wordsL.map V.str) wi.toList)
    (z_len : PySem.W.nsIn K mainGlobals "len" = some none)
    (z_int : PySem.W.nsIn K mainGlobals "int" = some none)
    (z_bool : PySem.W.nsIn K mainGlobals "bool" = some none)
    (z_tuple : PySem.W.nsIn K mainGlobals "tuple" = some none)
    (z_list : PySem.W.nsIn K mainGlobals "list" = some none)
    (z_isinstance : PySem.W.nsIn K mainGlobals "isinstance" = some none)
    (z_enumerate : PySem.W.nsIn K mainGlobals "enumerate" = some none)
    (z_range : PySem.W.nsIn K mainGlobals "range" = some none)
    (z_sum : PySem.W.nsIn K mainGlobals "sum" = some none)
    (z_min : PySem.W.nsIn K mainGlobals "min" = some none)
    (z_max : PySem.W.nsIn K mainGlobals "max" = some none)
    (z_sorted : PySem.W.nsIn K mainGlobals "sorted" = some none)
    (z_MOST_CANDLES : PySem.W.nsIn K mainGlobals "MOST_CANDLES" = some (some (.int 12 tg_MOST_CANDLES)))
    (z_LONGEST_LENGTH : PySem.W.nsIn K mainGlobals "LONGEST_LENGTH" = some (some (.int 99 tg_LONGEST_LENGTH)))
    (z_LATEST_DAMP : PySem.W.nsIn K mainGlobals "LATEST_DAMP" = some (some (.int 999 tg_LATEST_DAMP)))
    (z_HIGHEST_PRICE : PySem.W.nsIn K mainGlobals "HIGHEST_PRICE" = some (some (.int 99 tg_HIGHEST_PRICE)))
    (z_LONGEST_WAIT : PySem.W.nsIn K mainGlobals "LONGEST_WAIT" = some (some (.int 9999 tg_LONGEST_WAIT)))
    : ∃ fd : FuncData, (∀ (s : Shared) (v : Value), BindsTo s fd ⟨[v], []⟩ [("_law_script", v)]) ∧ ∀ base : Heap, K.In base → base.Ns mainGlobals mg → FnOk l.prog w K mg base CX0 7 fa fd ["_law_script"] (liftSp K sp_law) := by
  have e := hfa.symm.trans (PySem.W.mg_of X G a14)
  cases e
  have F0 := fun_mk (st := s_is_whole) l0 c0 k0
  have d0 : Dn K mg "is_whole" p_is_whole s_is_whole := ⟨f0, _, F0, PySem.W.mg_of X G a0, F0.binds (ps := p_is_whole) fun _ _ _ _ _ _ us hl => match us, hl with | [_], _ => rfl⟩
  have F1 := fun_mk (st := s_is_within) l1 c1 k1
  have d1 : Dn K mg "is_within" p_is_within s_is_within := ⟨f1, _, F1, PySem.W.mg_of X G a1, F1.binds (ps := p_is_within) fun _ _ _ _ _ _ us hl => match us, hl with | [_, _, _], _ => rfl⟩
  have F2 := fun_mk (st := s_is_candle) l2 c2 k2
  have d2 : Dn K mg "is_candle" p_is_candle s_is_candle := ⟨f2, _, F2, PySem.W.mg_of X G a2, F2.binds (ps := p_is_candle) fun _ _ _ _ _ _ us hl => match us, hl with | [_], _ => rfl⟩
  have F3 := fun_mk (st := s_check_candles) l3 c3 k3
  have d3 : Dn K mg "check_candles" p_check_candles s_check_candles := ⟨f3, _, F3, PySem.W.mg_of X G a3, F3.binds (ps := p_check_candles) fun _ _ _ _ _ _ us hl => match us, hl with | [_], _ => rfl⟩
  have F4 := fun_mk (st := s_lit_in_turn) l4 c4 k4
  have d4 : Dn K mg "lit_in_turn" p_lit_in_turn s_lit_in_turn := ⟨f4, _, F4, PySem.W.mg_of X G a4, F4.binds (ps := p_lit_in_turn) fun _ _ _ _ _ _ us hl => match us, hl with | [_, _, _], _ => rfl⟩
  have F5 := fun_mk (st := s_planned) l5 c5 k5
  have d5 : Dn K mg "planned" p_planned s_planned := ⟨f5, _, F5, PySem.W.mg_of X G a5, F5.binds (ps := p_planned) fun _ _ _ _ _ _ us hl => match us, hl with | [_, _], _ => rfl⟩
  have F6 := fun_mk (st := s_latest_end) l6 c6 k6
  have d6 : Dn K mg "latest_end" p_latest_end s_latest_end := ⟨f6, _, F6, PySem.W.mg_of X G a6, F6.binds (ps := p_latest_end) fun _ _ _ _ _ _ us hl => match us, hl with | [_], _ => rfl⟩
  have F7 := fun_mk (st := s_by_latest_end) l7 c7 k7
  have d7 : Dn K mg "by_latest_end" p_by_latest_end s_by_latest_end := ⟨f7, _, F7, PySem.W.mg_of X G a7, F7.binds (ps := p_by_latest_end) fun _ _ _ _ _ _ us hl => match us, hl with | [_, _], _ => rfl⟩
  have F8 := fun_mk (st := s_all_numbers) l8 c8 k8
  have d8 : Dn K mg "all_numbers" p_all_numbers s_all_numbers := ⟨f8, _, F8, PySem.W.mg_of X G a8, F8.binds (ps := p_all_numbers) fun _ _ _ _ _ _ us hl => match us, hl with | [_], _ => rfl⟩
  have F9 := fun_mk (st := s_longest) l9 c9 k9
  have d9 : Dn K mg "longest" p_longest s_longest := ⟨f9, _, F9, PySem.W.mg_of X G a9, F9.binds (ps := p_longest) fun _ _ _ _ _ _ us hl => match us, hl with | [_], _ => rfl⟩
  have F10 := fun_mk (st := s_longest_from) l10 c10 k10
  have d10 : Dn K mg "longest_from" p_longest_from s_longest_from := ⟨f10, _, F10, PySem.W.mg_of X G a10, F10.binds (ps := p_longest_from) fun _ _ _ _ _ _ us hl => match us, hl with | [_, _, _], _ => rfl⟩
  have F11 := fun_mk (st := s_is_candle_number) l11 c11 k11
  have d11 : Dn K mg "is_candle_number" p_is_candle_number s_is_candle_number := ⟨f11, _, F11, PySem.W.mg_of X G a11, F11.binds (ps := p_is_candle_number) fun _ _ _ _ _ _ us hl => match us, hl with | [_, _], _ => rfl⟩
  have F12 := fun_mk (st := s_l_taken) l12 c12 k12
  have d12 : Dn K mg "_law_taken" p_l_taken s_l_taken := ⟨f12, _, F12, PySem.W.mg_of X G a12, F12.binds (ps := p_l_taken) fun _ _ _ _ _ _ us hl => match us, hl with | [_, _], _ => rfl⟩
  have F13 := fun_mk (st := s_l_candles) l13 c13 k13
  have d13 : Dn K mg "_law_candles" p_l_candles s_l_candles := ⟨f13, _, F13, PySem.W.mg_of X G a13, F13.binds (ps := p_l_candles) fun _ _ _ _ _ _ us hl => match us, hl with | [_, _, _], _ => rfl⟩
  have F14 := fun_mk (st := s_law) l14 c14 k14
  have F15 := fun_mk (st := s_is_deed) l15 c15 k15
  have d15 : Dn K mg "is_deed" p_is_deed s_is_deed := ⟨f15, _, F15, PySem.W.mg_of X G a15, F15.binds (ps := p_is_deed) fun _ _ _ _ _ _ us hl => match us, hl with | [_], _ => rfl⟩
  have F16 := fun_mk (st := s_told) l16 c16 k16
  have d16 : Dn K mg "_law_is_told" p_told s_told := ⟨f16, _, F16, PySem.W.mg_of X G a16, F16.binds (ps := p_told) fun _ _ _ _ _ _ us hl => match us, hl with | [_, _, _], _ => rfl⟩
  have z : Zs mg := ⟨PySem.W.mg_none_of X G z_len, PySem.W.mg_none_of X G z_int, PySem.W.mg_none_of X G z_bool, PySem.W.mg_none_of X G z_tuple, PySem.W.mg_none_of X G z_list, PySem.W.mg_none_of X G z_isinstance, PySem.W.mg_none_of X G z_enumerate, PySem.W.mg_none_of X G z_range, PySem.W.mg_none_of X G z_sum, PySem.W.mg_none_of X G z_min, PySem.W.mg_none_of X G z_max, PySem.W.mg_none_of X G z_sorted, ⟨_, PySem.W.mg_of X G z_MOST_CANDLES⟩, ⟨_, PySem.W.mg_of X G z_LONGEST_LENGTH⟩, ⟨_, PySem.W.mg_of X G z_LATEST_DAMP⟩, ⟨_, PySem.W.mg_of X G z_HIGHEST_PRICE⟩, ⟨_, PySem.W.mg_of X G z_LONGEST_WAIT⟩⟩
  have NTx : NTxt K mg C := ⟨⟨pg, hd, po, sa⟩, n_candles, n_ends, n_lost, n_now, n_done, z.list_⟩
  have G0 := fun_mk (st := s_n 0) fl0 fc0 fk0
  have e0 : NIn K C (s_n 0) ["self", "candles"] := ⟨mf0, _, ⟨mk, fa0, fi0, kc⟩, G0, G0.binds (ps := ["self", "candles"]) fun _ _ _ _ _ _ us hl => match us, hl with | [_, _], _ => rfl⟩
  have G1 := fun_mk (st := s_n 1) fl1 fc1 fk1
  have e1 : NMe K C "do" "Night.do" (s_n 1) ["self", "deed"] := ⟨mf1, _, ⟨fa1, fi1, fk1⟩, G1, G1.binds (ps := ["self", "deed"]) fun _ _ _ _ _ _ us hl => match us, hl with | [_, _], _ => rfl⟩
  have G3 := fun_mk (st := s_n 3) fl3 fc3 fk3
  have e3 : NMe K C "back" "Night.back" (s_n 3) ["self"] := ⟨mf3, _, ⟨fa3, fi3, fk3⟩, G3, G3.binds (ps := ["self"]) fun _ _ _ _ _ _ us hl => match us, hl with | [_], _ => rfl⟩
  have G4 := fun_mk (st := s_n 4) fl4 fc4 fk4
  have e4 : NMe K C "best" "Night.best" (s_n 4) ["self"] := ⟨mf4, _, ⟨fa4, fi4, fk4⟩, G4, G4.binds (ps := ["self"]) fun _ _ _ _ _ _ us hl => match us, hl with | [_], _ => rfl⟩
  have G5 := fun_mk (st := s_n 5) fl5 fc5 fk5
  have e5 : NMe K C "time" "Night.time" (s_n 5) ["self"] := ⟨mf5, _, ⟨fa5, fi5, fk5⟩, G5, G5.binds (ps := ["self"]) fun _ _ _ _ _ _ us hl => match us, hl with | [_], _ => rfl⟩
  have G6 := fun_mk (st := s_n 6) fl6 fc6 fk6
  have e6 : NMe K C "burning" "Night.burning" (s_n 6) ["self"] := ⟨mf6, _, ⟨fa6, fi6, fk6⟩, G6, G6.binds (ps := ["self"]) fun _ _ _ _ _ _ us hl => match us, hl with | [_], _ => rfl⟩
  have G7 := fun_mk (st := s_n 7) fl7 fc7 fk7
  have e7 : NMe K C "unlit" "Night.unlit" (s_n 7) ["self"] := ⟨mf7, _, ⟨fa7, fi7, fk7⟩, G7, G7.binds (ps := ["self"]) fun _ _ _ _ _ _ us hl => match us, hl with | [_], _ => rfl⟩
  have G8 := fun_mk (st := s_n 8) fl8 fc8 fk8
  have e8 : NMe K C "deeds" "Night.deeds" (s_n 8) ["self"] := ⟨mf8, _, ⟨fa8, fi8, fk8⟩, G8, G8.binds (ps := ["self"]) fun _ _ _ _ _ _ us hl => match us, hl with | [_], _ => rfl⟩
  have G9 := fun_mk (st := s_n 9) fl9 fc9 fk9
  have e9 : NMe K C "lasts" "Night.lasts" (s_n 9) ["self"] := ⟨mf9, _, ⟨fa9, fi9, fk9⟩, G9, G9.binds (ps := ["self"]) fun _ _ _ _ _ _ us hl => match us, hl with | [_], _ => rfl⟩
  have G10 := fun_mk (st := s_n 10) fl10 fc10 fk10
  have e10 : NMe K C "has_flame" "Night.has_flame" (s_n 10) ["self"] := ⟨mf10, _, ⟨fa10, fi10, fk10⟩, G10, G10.binds (ps := ["self"]) fun _ _ _ _ _ _ us hl => match us, hl with | [_], _ => rfl⟩
  have G11 := fun_mk (st := s_n 11) fl11 fc11 fk11
  have e11 : NMe K C "is_dry" "Night.is_dry" (s_n 11) ["self", "number"] := ⟨mf11, _, ⟨fa11, fi11, fk11⟩, G11, G11.binds (ps := ["self", "number"]) fun _ _ _ _ _ _ us hl => match us, hl with | [_, _], _ => rfl⟩
  have G12 := fun_mk (st := s_n 12) fl12 fc12 fk12
  have e12 : NMe K C "is_left" "Night.is_left" (s_n 12) ["self", "number"] := ⟨mf12, _, ⟨fa12, fi12, fk12⟩, G12, G12.binds (ps := ["self", "number"]) fun _ _ _ _ _ _ us hl => match us, hl with | [_, _], _ => rfl⟩
  have G13 := fun_mk (st := s_n 13) fl13 fc13 fk13
  have e13 : NMe K C "can_do" "Night.can_do" (s_n 13) ["self", "deed"] := ⟨mf13, _, ⟨fa13, fi13, fk13⟩, G13, G13.binds (ps := ["self", "deed"]) fun _ _ _ _ _ _ us hl => match us, hl with | [_, _], _ => rfl⟩
  have G14 := fun_mk (st := s_n 14) fl14 fc14 fk14
  have e14 : NMe K C "carry_out" "Night.carry_out" (s_n 14) ["self", "deed"] := ⟨mf14, _, ⟨fa14, fi14, fk14⟩, G14, G14.binds (ps := ["self", "deed"]) fun _ _ _ _ _ _ us hl => match us, hl with | [_, _], _ => rfl⟩
  have G15 := fun_mk (st := s_n 15) fl15 fc15 fk15
  have e15 : NMe K C "take_back" "Night.take_back" (s_n 15) ["self", "many"] := ⟨mf15, _, ⟨fa15, fi15, fk15⟩, G15, G15.binds (ps := ["self", "many"]) fun _ _ _ _ _ _ us hl => match us, hl with | [_, _], _ => rfl⟩
  have N0 : NCls K C := ⟨e0, e1, e3, e4, e5, e6, e7, e8, e9, e10, e11, e12, e13, e14, e15⟩
  have hw : ∀ H, SqT K H wa (wordsL.map V.str) := fun H => .inr ⟨_, wi, wn, w1, rfl, rfl, w2, w3⟩
  refine ⟨PySem.W.fnOf "law" "law" (defArgs s_law) (defBody s_law) (defScope s_law) .none kV14 dc14 pm14 an14 cd14 ct14, fun s v => .of_eq rfl, fun base _ _ => ?_⟩
  exact all_ok (P := l.prog) (w := w) (base := base) z NTx (PySem.W.mg_of X G aC) N0 (PySem.W.mg_of X G w0) hw d15 d16 d0 d1 d2 d3 d4 d5 d6 d7 d8 d9 d10 d11 d12 d13 F14
theorem law_start {K : PySem.W.Frag} {H : Hp} {a : Addr} {ns : List Int} (hS : SqL K H a (ns.map V.int)) : liftSp K sp_law [.ref a] H (fun v _ => v = .bl true) fun _ _ _ => False := by
  refine ⟨fun _ => False, [.scr ns], (fun _ h => h.elim), .cons (.scr ?_) .nil, ns, rfl, fun v H' _ r => by cases r; rfl⟩
  rcases hS with (h | h) | h
  · exact .inl ⟨fun z => z, h⟩
  · exact .inr (.inl h)
  · exact .inr (.inr h)
end FW
set_option Elab.async false
set_option linter.all false
set_option maxRecDepth 100000
open PySem PySem.W PyProof.Rows
set_option maxHeartbeats 0 in
theorem PySem.Challenge.cw_flameward_k26_whole_nights_by_plans_holds : PySem.Challenge.rw_flameward_k26_whole_nights_by_plans.Holds := by
  w_on; o_law; k_head; (case hw => w_witness2)
  k_fill
  refine L2.walk_of (l := PySem.Challenge.rw_flameward_k26_whole_nights_by_plans) (n := 63) (k := 7) (x := "_law_script") (CX := fun _ => L2.CX0) (sp := fun w => AL.liftSp _ FW.sp_law) rfl (by decide) rfl ⟨rfl, by decide, by decide⟩ (fun w h Y => PySem.W.kIn_of Y) ?F (fun _ _ a ns hl _ hS => FW.law_start hS) (fun _ _ _ _ _ h => h)
  case F =>
    intro w mg fa h KX G hmg
    refine' FW.all_mk KX G hmg ?a0 ?l0 ?c0 ?k0 ?a1 ?l1 ?c1 ?k1 ?a2 ?l2 ?c2 ?k2 ?a3 ?l3 ?c3 ?k3 ?a4 ?l4 ?c4 ?k4 ?a5 ?l5 ?c5 ?k5 ?a6 ?l6 ?c6 ?k6 ?a7 ?l7 ?c7 ?k7 ?a8 ?l8 ?c8 ?k8 ?a9 ?l9 ?c9 ?k9 ?a10 ?l10 ?c10 ?k10 ?a11 ?l11 ?c11 ?k11 ?a12 ?l12 ?c12 ?k12 ?a13 ?l13 ?c13 ?k13 ?a14 ?l14 ?c14 ?k14 ?a15 ?l15 ?c15 ?k15 ?a16 ?l16 ?c16 ?k16 ?aC ?pg ?hd ?po ?sa ?mk ?kc ?n_candles ?n_ends ?n_lost ?n_now ?n_done ?fa0 ?fi0 ?fl0 ?fc0 ?fk0 ?fa1 ?fi1 ?fl1 ?fc1 ?fk1 ?fa3 ?fi3 ?fl3 ?fc3 ?fk3 ?fa4 ?fi4 ?fl4 ?fc4 ?fk4 ?fa5 ?fi5 ?fl5 ?fc5 ?fk5 ?fa6 ?fi6 ?fl6 ?fc6 ?fk6 ?fa7 ?fi7 ?fl7 ?fc7 ?fk7 ?fa8 ?fi8 ?fl8 ?fc8 ?fk8 ?fa9 ?fi9 ?fl9 ?fc9 ?fk9 ?fa10 ?fi10 ?fl10 ?fc10 ?fk10 ?fa11 ?fi11 ?fl11 ?fc11 ?fk11 ?fa12 ?fi12 ?fl12 ?fc12 ?fk12 ?fa13 ?fi13 ?fl13 ?fc13 ?fk13 ?fa14 ?fi14 ?fl14 ?fc14 ?fk14 ?fa15 ?fi15 ?fl15 ?fc15 ?fk15 ?w0 ?w1 ?w2 ?w3 ?z_len ?z_int ?z_bool ?z_tuple ?z_list ?z_isinstance ?z_enumerate ?z_range ?z_sum ?z_min ?z_max ?z_sorted ?z_MOST_CANDLES ?z_LONGEST_LENGTH ?z_LATEST_DAMP ?z_HIGHEST_PRICE ?z_LONGEST_WAIT
    (case a0 => k_is)
    (case l0 => k_is)
    (case c0 => k_is)
    (case k0 => k_is)
    (case a1 => k_is)
    (case l1 => k_is)
    (case c1 => k_is)
    (case k1 => k_is)
    (case a2 => k_is)
    (case l2 => k_is)
    (case c2 => k_is)
    (case k2 => k_is)
    (case a3 => k_is)
    (case l3 => k_is)
    (case c3 => k_is)
    (case k3 => k_is)
    (case a4 => k_is)
    (case l4 => k_is)
    (case c4 => k_is)
    (case k4 => k_is)
    (case a5 => k_is)
    (case l5 => k_is)
    (case c5 => k_is)
    (case k5 => k_is)
    (case a6 => k_is)
    (case l6 => k_is)
    (case c6 => k_is)
    (case k6 => k_is)
    (case a7 => k_is)
    (case l7 => k_is)
    (case c7 => k_is)
    (case k7 => k_is)
    (case a8 => k_is)
    (case l8 => k_is)
    (case c8 => k_is)
    (case k8 => k_is)
    (case a9 => k_is)
    (case l9 => k_is)
    (case c9 => k_is)
    (case k9 => k_is)
    (case a10 => k_is)
    (case l10 => k_is)
    (case c10 => k_is)
    (case k10 => k_is)
    (case a11 => k_is)
    (case l11 => k_is)
    (case c11 => k_is)
    (case k11 => k_is)
    (case a12 => k_is)
    (case l12 => k_is)
    (case c12 => k_is)
    (case k12 => k_is)
    (case a13 => k_is)
    (case l13 => k_is)
    (case c13 => k_is)
    (case k13 => k_is)
    (case a14 => k_is)
    (case l14 => k_is)
    (case c14 => k_is)
    (case k14 => k_is)
    (case a15 => k_is)
    (case l15 => k_is)
    (case c15 => k_is)
    (case k15 => k_is)
    (case a16 => k_is)
    (case l16 => k_is)
    (case c16 => k_is)
    (case k16 => k_is)
    (case aC => k_is)
    (case pg => k_is)
    (case hd => k_is)
    (case po => k_is)
    (case sa => k_is)
    (case mk => k_is)
    (case kc => k_is)
    (case n_candles => k_is)
    (case n_ends => k_is)
    (case n_lost => k_is)
    (case n_now => k_is)
    (case n_done => k_is)
    (case fa0 => k_is)
    (case fi0 => k_is)
    (case fl0 => k_is)
    (case fc0 => k_is)
    (case fk0 => k_is)
    (case fa1 => k_is)
    (case fi1 => k_is)
    (case fl1 => k_is)
    (case fc1 => k_is)
    (case fk1 => k_is)
    (case fa3 => k_is)
    (case fi3 => k_is)
    (case fl3 => k_is)
    (case fc3 => k_is)
    (case fk3 => k_is)
    (case fa4 => k_is)
    (case fi4 => k_is)
    (case fl4 => k_is)
    (case fc4 => k_is)
    (case fk4 => k_is)
    (case fa5 => k_is)
    (case fi5 => k_is)
    (case fl5 => k_is)
    (case fc5 => k_is)
    (case fk5 => k_is)
    (case fa6 => k_is)
    (case fi6 => k_is)
    (case fl6 => k_is)
    (case fc6 => k_is)
    (case fk6 => k_is)
    (case fa7 => k_is)
    (case fi7 => k_is)
    (case fl7 => k_is)
    (case fc7 => k_is)
    (case fk7 => k_is)
    (case fa8 => k_is)
    (case fi8 => k_is)
    (case fl8 => k_is)
    (case fc8 => k_is)
    (case fk8 => k_is)
    (case fa9 => k_is)
    (case fi9 => k_is)
    (case fl9 => k_is)
    (case fc9 => k_is)
    (case fk9 => k_is)
    (case fa10 => k_is)
    (case fi10 => k_is)
    (case fl10 => k_is)
    (case fc10 => k_is)
    (case fk10 => k_is)
    (case fa11 => k_is)
    (case fi11 => k_is)
    (case fl11 => k_is)
    (case fc11 => k_is)
    (case fk11 => k_is)
    (case fa12 => k_is)
    (case fi12 => k_is)
    (case fl12 => k_is)
    (case fc12 => k_is)
    (case fk12 => k_is)
    (case fa13 => k_is)
    (case fi13 => k_is)
    (case fl13 => k_is)
    (case fc13 => k_is)
    (case fk13 => k_is)
    (case fa14 => k_is)
    (case fi14 => k_is)
    (case fl14 => k_is)
    (case fc14 => k_is)
    (case fk14 => k_is)
    (case fa15 => k_is)
    (case fi15 => k_is)
    (case fl15 => k_is)
    (case fc15 => k_is)
    (case fk15 => k_is)
    (case w0 => k_is)
    (case w1 => k_is)
    (case w2 => exact Nat.le_of_ble_eq_true rfl)
    (case w3 => exact .cons ⟨_, rfl⟩ (.cons ⟨_, rfl⟩ (.cons ⟨_, rfl⟩ (.cons ⟨_, rfl⟩ .nil))))
    (case z_len => k_is)
    (case z_int => k_is)
    (case z_bool => k_is)
    (case z_tuple => k_is)
    (case z_list => k_is)
    (case z_isinstance => k_is)
    (case z_enumerate => k_is)
    (case z_range => k_is)
    (case z_sum => k_is)
    (case z_min => k_is)
    (case z_max => k_is)
    (case z_sorted => k_is)
    (case z_MOST_CANDLES => k_is)
    (case z_LONGEST_LENGTH => k_is)
    (case z_LATEST_DAMP => k_is)
    (case z_HIGHEST_PRICE => k_is)
    (case z_LONGEST_WAIT => k_is)
