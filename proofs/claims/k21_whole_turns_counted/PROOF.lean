import PyProof.Rows.All
import Wide.All
import OpenK.AllK
import Wide.FinOn
import PySem.Challenge.RW_flameward_k21_whole_turns_counted
import HandS.ForMost
import HandS.Deep
import KE.KDictKeyed
import KE.KDictCopyH
import KE.KDictSum
import KE.SortData
import HandS.More
import HandS.Flow
import HandS.Walk
import HandS.Sort
import HandS.SortInts
import HandS.SortRule
import HandS.IsInst
import HandS.Lambda
import KE.KDflt
import HandS.TupAny
import KE.GoesEnum
import HandS.Style
import HandS.Conv
import HandS.RevRange
import KE.KRevSl
import PyProof.FactsAll.subtypes_4
import KE.KRevIter
import HandS.RevTup
import KE.DataMinMax
import HandS.SortKw
import HandS.TupLe
import HandS.NamedTupSort
import HandS.SetFor
set_option Elab.async false
set_option linter.all false
set_option maxRecDepth 100000
/-! Dicts whose keys are whole numbers in tuples, nested, as objects of the hand layer; sorted of one. -/
namespace L2D
open PySem PySem.Spec PyProof.Rows L2
mutual
def nkP : PyData → NestedKey
  | .int i => .num i
  | .tuple xs => .tup (nkPs xs)
  | _ => .none
def nkPs : List PyData → List NestedKey
  | [] => []
  | x :: r => nkP x :: nkPs r
end
mutual
def keyP : PyData → Bool
  | .int _ => true
  | .tuple xs => keyPs xs
  | _ => false
def keyPs : List PyData → Bool
  | [] => true
  | x :: r => keyP x && keyPs r
end
mutual
theorem nested_reads {h : Heap} : ∀ {d : PyData} {v : Value} {as : List Addr}, Reads h v d as → keyP d = true → NestedIs h (nkP d) v
  | _, _, _, .none, k => by simp [keyP] at k
  | _, _, _, .bool b, k => by simp [keyP] at k
  | _, _, _, .int i t, _ => .int i t
  | _, _, _, .str x t, k => by simp [keyP] at k
  | _, _, _, .list h1 h2 h3 h4, k => by simp [keyP] at k
  | _, _, _, .tuple h1 h2 h3 h4, k => .tup h1 h2 h3 (nested_all h4 k)
  | _, _, _, .dict h1 h2 h3 h4 h5, k => by simp [keyP] at k
theorem nested_all {h : Heap} : ∀ {ds : List PyData} {vs : List Value} {as : List Addr}, ReadsAll h vs ds as → keyPs ds = true → NestedAll h (nkPs ds) vs
  | _, _, _, .nil, _ => .nil
  | _, _, _, .cons r t, k => by
    have k' := Bool.and_eq_true_iff.mp k
    exact .cons (nested_reads r k'.1) (nested_all t k'.2)
end
mutual
theorem nkP_inj : ∀ {d e : PyData}, keyP d = true → keyP e = true → nkP d = nkP e → d = e
  | .int i, .int j, _, _, h => by cases h; rfl
  | .tuple xs, .tuple ys, k1, k2, h => by
    have h' : nkPs xs = nkPs ys := NestedKey.tup.inj h
    rw [nkPs_inj k1 k2 h']
  | .int i, .tuple ys, _, _, h => by cases h
  | .tuple ys, .int i, _, _, h => by cases h
  | .none, _, k, _, _ => by simp [keyP] at k
  | .bool _, _, k, _, _ => by simp [keyP] at k
  | .str _, _, k, _, _ => by simp [keyP] at k
  | .list _, _, k, _, _ => by simp [keyP] at k
  | .dict _, _, k, _, _ => by simp [keyP] at k
  | _, .none, _, k, _ => by simp [keyP] at k
  | _, .bool _, _, k, _ => by simp [keyP] at k
  | _, .str _, _, k, _ => by simp [keyP] at k
  | _, .list _, _, k, _ => by simp [keyP] at k
  | _, .dict _, _, k, _ => by simp [keyP] at k
theorem nkPs_inj : ∀ {ds es : List PyData}, keyPs ds = true → keyPs es = true → nkPs ds = nkPs es → ds = es
  | [], [], _, _, _ => rfl
  | d :: ds, e :: es, k1, k2, h => by
    have k1' := Bool.and_eq_true_iff.mp k1
    have k2' := Bool.and_eq_true_iff.mp k2
    have h0 : nkP d :: nkPs ds = nkP e :: nkPs es := h
    rw [List.cons.injEq] at h0
    rw [nkP_inj k1'.1 k2'.1 h0.1, nkPs_inj k1'.2 k2'.2 h0.2]
  | [], _ :: _, _, _, h => by cases h
  | _ :: _, [], _, _, h => by cases h
end
/-- the dict at a: its keys (told and by their tuples) and values -/
abbrev Ent := NestedKey × Addr × Value
def DicAt (P : Program) (w : World) (a : Addr) (xs : List Ent) (h : Heap) : Prop := ∃ o es ep, h.get? a = some o ∧ o.ExactDict ∧ o.data = .dict es ep ∧ es.toList = xs.map (entryOfKey (nestedKind P w)) ∧ (xs.map (·.1)).Nodup ∧ (a == sysModules) = false
def DicO (P : Program) (w : World) (a : Addr) (xs : List Ent) : HO := .ext (DicAt P w a xs)
theorem dicO_new {P : Program} {w : World} {H : Hp} {h : Heap} {a : Addr} {xs : List Ent} (R : DicAt P w a xs h) : ObjOk P w H h a (DicO P w a xs) := by
  obtain ⟨o, es, ep, h1, h2⟩ := id R
  refine ⟨R, ⟨o, h1⟩, fun g1 g2 ⟨o, es, ep, e1, e2⟩ k => ⟨o, es, ep, k _ e1, e2⟩⟩
section
variable {X : Cx} {pins : List (Addr × Obj)} {σ : L2.St} {H : Hp} {s : Shared}
/-- {} -/
def tDicNew (P : Program) (w : World) : TE := fun _ H Q => ∀ p, H p = none → Q (.ref p) (upd H p (DicO P w p []))
theorem pe_dicNew {pos : Pos} : PE X (.Dict [] [] pos) (tDicNew X.prog X.w) := ⟨fun pins s σ H Q I h =>
  wpAny_Dict_empty ⟨.ref s.heap.objs.size, _, I.laid (a := s.heap.objs.size) (o := DicO X.prog X.w s.heap.objs.size []) (t' := s.toks) (fun _ _ q => Heap.get?_push_of_some _ q) (Nat.le_refl _)
    (dicO_new ⟨_, #[], 0, Heap.get?_push_size _ rfl, ⟨rfl, rfl, rfl⟩, rfl, rfl, List.nodup_nil, beq_eq_false_iff_ne.mpr (Ne.symm (Nat.ne_of_lt I.big))⟩), rfl, h _ (I.hok.fresh (Nat.le_refl _))⟩⟩
/-- the tuple at b is the key of the data d -/
structure KeyAt (K : PySem.W.Frag) (H : Hp) (b : Addr) (d : PyData) : Prop where
  dp : Dp K H (.ref b) d
  key : keyP d = true
  dep : (nkP d).depth ≤ 8
theorem KeyAt.is (I : Inv X pins σ H s) {b : Addr} {d : PyData} (k : KeyAt X.K H b d) : (nestedKind X.prog X.w).is s.heap (nkP d) b := by
  obtain ⟨as, r⟩ := Dp.reads I d (.ref b) (.ref b) k.dp rfl
  exact ⟨nested_reads r k.key, k.dep⟩
/-- the keys of the dict, by data -/
def KeysAt (K : PySem.W.Frag) (H : Hp) (xs : List Ent) (ds : List PyData) : Prop := Paired (fun (x : Ent) (d : PyData) => KeyAt K H x.2.1 d ∧ x.1 = nkP d) xs ds
theorem KeysAt.ok (I : Inv X pins σ H s) : ∀ {xs : List Ent} {ds : List PyData}, KeysAt X.K H xs ds → ∀ x ∈ xs, (nestedKind X.prog X.w).is s.heap x.1 x.2.1
  | _, _, .cons h t, x, hx => by
    rcases List.mem_cons.mp hx with rfl | hx
    · rw [h.2]; exact h.1.is I
    · exact KeysAt.ok I t x hx
  | _, _, .nil, x, hx => by cases hx
theorem dic_of (I : Inv X pins σ H s) {a : Addr} {xs : List Ent} {ds : List PyData} (hd : H a = some (DicO X.prog X.w a xs)) (k : KeysAt X.K H xs ds) : s.heap.DictOfH (nestedKind X.prog X.w) a xs := by
  obtain ⟨⟨o, es, ep, h1, h2, h3, h4, h5, _⟩, _⟩ := I.hok a _ hd
  exact ⟨o, es, ep, h1, h2, h3, h4, k.ok I, h5⟩
/-- d[k] = v -/
def rDicSet (X : Cx) : TSet := fun o i _ H Q => ∃ (a b : Addr) (xs : List Ent) (ds : List PyData) (d : PyData), o = .ref a ∧ i = .ref b ∧ H a = some (DicO X.prog X.w a xs) ∧ KeysAt X.K H xs ds ∧ KeyAt X.K H b d ∧ xs.length ≤ sizeLine ∧
  ∀ u, Q (upd H a (DicO X.prog X.w a (storedH xs (nkP d) b u)))
theorem set_dic (hu : X.A.units + 64 < cLine) : PSet X (rDicSet X) := by
  intro pins s σ H o i v ov iv u Q I r1 r2 r3 h
  obtain ⟨a, b, xs, ds, d, rfl, rfl, hH, ks, k, hz, q⟩ := h
  cases r1; cases r2
  have hm := dic_of I hH ks
  have hne : (a == sysModules) = false := by
    obtain ⟨⟨o, es, ep, h1, h2, h3, h4, h5, h6⟩, _⟩ := I.hok a _ hH
    exact h6
  refine wpAny_setItem_heap (knd := nestedKind X.prog X.w) (hu := by show X.A.in1.units + 8 < cLine; have : X.A.in1.units = X.A.units + 1 := rfl; omega) (hkey := k.is I) (hm := hm) (fun h' hm' hs => ?_) hz
  obtain ⟨o, es, ep, g1, g2, g3, g4, _, g5⟩ := hm'
  exact ⟨_, I.write (x := a) (e := a) (o := DicO X.prog X.w a (storedH xs (nkP d) b u)) (by rw [hH]; trivial) (.inl rfl) (fun c z hc hz => (hs.2 c hc).trans hz) ⟨_, g1⟩ (dicO_new ⟨o, es, ep, g1, g2, g3, g4, g5, hne⟩), q u⟩
end
end L2D
set_option Elab.async false
set_option linter.all false
set_option maxRecDepth 100000
namespace L2D
open PySem PySem.Spec PyProof.Rows L2
section
variable {X : Cx}
mutual
theorem reads_nil {h : Heap} : ∀ {d : PyData} {v : Value} {as : List Addr}, Reads h v d as → keyP d = true → as = []
  | _, _, _, .none, k => by simp [keyP] at k
  | _, _, _, .bool b, k => by simp [keyP] at k
  | _, _, _, .int i t, _ => rfl
  | _, _, _, .str x t, k => by simp [keyP] at k
  | _, _, _, .list h1 h2 h3 h4, k => by simp [keyP] at k
  | _, _, _, .tuple h1 h2 h3 h4, k => reads_nils h4 k
  | _, _, _, .dict h1 h2 h3 h4 h5, k => by simp [keyP] at k
theorem reads_nils {h : Heap} : ∀ {ds : List PyData} {vs : List Value} {as : List Addr}, ReadsAll h vs ds as → keyPs ds = true → as = []
  | _, _, _, .nil, _ => rfl
  | _, _, _, .cons r t, k => by
    have k' := Bool.and_eq_true_iff.mp k
    rw [reads_nil r k'.1, reads_nils t k'.2]; rfl
end
def rSortedDic (X : Cx) : List V → Hp → VK → Prop := fun vs H Q => ∃ (a : Addr) (xs : List Ent) (ds : List PyData), vs = [.ref a] ∧ H a = some (DicO X.prog X.w a xs) ∧ KeysAt X.K H xs ds ∧ PySem.W.AllAlike ds ∧
  (∀ d ∈ ds, ∃ x r, d = .tuple (x :: r)) ∧ (∀ d ∈ ds, d.depth ≤ 8) ∧ xs.length ≤ sizeLine ∧ ∀ (ys : List V) (p : Addr), ys.Perm (xs.map fun x => V.ref x.2.1) → H p = none → Q (.ref p) (upd H p (.lst ys))
theorem perm_each {α β : Type} {f : α → β → Prop} : ∀ {vs : List α} {bs : List β}, PySem.W.EachIs f vs bs → vs.length = bs.length
  | _, _, .nil => rfl
  | _, _, .cons _ t => by rw [List.length_cons, List.length_cons, perm_each t]
theorem vals_each {β : Type} {g : β → V} : ∀ {vs : List Value} {bs : List β}, PySem.W.EachIs (fun v b => RelV (g b) v) vs bs → Vals (bs.map g) vs
  | _, _, .nil => .nil
  | _, _, .cons h t => .cons h (vals_each t)
theorem call_sortedDic (hcalm : X.calm = true) (hu : X.A.units + 64 < cLine) : CallR X (.builtin "sorted") (rSortedDic X) := by
  intro pins s σ H xs us Q I r q
  obtain ⟨a, es, ds, ex, hd, ks, hal, hne, hdep, hz, q⟩ := q
  subst ex
  obtain ⟨u, eu, rx⟩ := vals1 r
  subst eu
  cases rx
  obtain ⟨⟨o, ar, ep, h1, h2, h3, h4, h5, lo⟩, _⟩ := I.hok a _ hd
  have hsz : ar.size = es.length := by rw [← Array.length_toList, h4, List.length_map]
  refine Calls.call_function_entry PyProof.Rows.kind_sorted PyProof.Rows.plain_sorted PyProof.Rows.entry_sorted (PyProof.Rows.args_sorted1 _) ?_
  unfold Builtin.«sorted»
  refine wpAny_bind (m := checkCount "sorted" 1 1 _) (wpAny_pure ?_)
  refine wpAny_bind (PySem.W.kdu_collect (A := X.A.in1) (PySem.KdlSrc.rawDict (es := ar) (ep := ep) lo) (I.ok.hd hcalm) ⟨o, h1, h2, h3⟩ (by rw [hsz]; exact hz) fun h' tk acc hk hacc => ?_)
  have hacl : acc.toList = es.map fun x => Value.ref x.2.1 := by
    refine List.ext_getElem? fun i => ?_
    rw [List.getElem?_map]
    by_cases hi : i < es.length
    · have hi2 : i < acc.toList.length := by rw [Array.length_toList, hacc.1, hsz]; exact hi
      obtain ⟨hi3, e⟩ := hacc.2 i acc.toList[i] (by rw [← Array.getElem?_toList, List.getElem?_eq_getElem hi2])
      rw [List.getElem?_eq_getElem hi2, e, List.getElem?_eq_getElem hi]
      have h6 : ar.toList[i]? = (es[i]?).map (entryOfKey (nestedKind X.prog X.w)) := by rw [h4, List.getElem?_map]
      rw [Array.getElem?_toList, Array.getElem?_eq_getElem hi3, List.getElem?_eq_getElem hi] at h6
      have h7 := Option.some.inj h6
      rw [h7]; rfl
    · rw [List.getElem?_eq_none (by rw [Array.length_toList, hacc.1, hsz]; omega), List.getElem?_eq_none (by omega)]; rfl
  have I1 : Inv X pins σ H { s with heap := h', toks := tk } := I.kept hk
  have hlen : acc.toList.length = es.length := by rw [hacl, List.length_map]
  refine wpAny_bind (wpAny_newList ?_ (by rw [hlen]; exact hz))
  have hoL : (h'.push (seqObj "list" acc.toList.toArray 0)).get? h'.objs.size = some (seqObj "list" acc.toList.toArray 0) := Heap.get?_push_size _ rfl
  show wpAny _ _ _ _ _ { s with heap := h'.push (seqObj "list" acc.toList.toArray 0), toks := tk }
  have I2 : Inv X pins σ H { s with heap := h'.push (seqObj "list" acc.toList.toArray 0), toks := tk } := I.kept fun b o e => Heap.get?_push_of_some _ (hk b o e)
  -- the items, with their data
  have pair : ∀ {zs : List Ent} {dd : List PyData}, KeysAt X.K H zs dd → ∃ bs : List (PyData × V), bs.map (·.1) = dd ∧ bs.map (·.2) = zs.map (fun x => V.ref x.2.1) ∧ PySem.W.EachIs (fun (v : Value) (b : PyData × V) => RelV b.2 v) (zs.map fun x => Value.ref x.2.1) bs ∧
      PySem.W.EachIs (fun (v : Value) (b : PyData × V) => ∃ as, Reads (h'.push (seqObj "list" acc.toList.toArray 0)) v b.1 as ∧ h'.objs.size ∉ as) (zs.map fun x => Value.ref x.2.1) bs := by
    intro zs dd k
    induction k with
    | nil => exact ⟨[], rfl, rfl, .nil, .nil⟩
    | @cons x d xs' ds' h t ih =>
      obtain ⟨bs, e1, e2, e3, e4⟩ := ih
      obtain ⟨as, ra⟩ := Dp.reads I1 d (.ref x.2.1) (.ref x.2.1) h.1.dp rfl
      refine ⟨(d, .ref x.2.1) :: bs, by rw [List.map_cons, e1], by rw [List.map_cons, e2, List.map_cons], .cons rfl e3, .cons ⟨as, ?_, ?_⟩ e4⟩
      · exact PyProof.Rows.Reads.keeps (fun b o e => Heap.get?_push_of_some _ e) ra
      · rw [reads_nil ra h.1.key]; exact List.not_mem_nil
  obtain ⟨bs, e1, e2, e3, e4⟩ := pair ks
  rw [← hacl] at e3 e4
  have hbl : bs.length = es.length := by have := congrArg List.length e2; rwa [List.length_map, List.length_map] at this
  refine wpAny_bind (wpAny_holding (PySem.W.list_sort_data (enc := fun b : PyData × V => b.1) hoL e3 e4 (by rw [e1]; exact hal) (.inl (by rw [e1]; exact hne)) (by rw [hbl]; exact hz)
    (fun b hb => ?_) fun out hol hout => ?_))
  · have hd8 := hdep b.1 (by rw [← e1]; exact List.mem_map.mpr ⟨b, hb, rfl⟩)
    show X.A.units + 1 + 1 + b.1.depth < cLine
    omega
  obtain ⟨e', he'⟩ := PyProof.Rows.sortedHeap_at (vs := acc.toList) (out := out.toArray) hoL
  have hv : Vals ((bs.mergeSort (PySem.W.dataLe false fun b : PyData × V => b.1)).map (·.2)) out := vals_each hout
  have hp : ((bs.mergeSort (PySem.W.dataLe false fun b : PyData × V => b.1)).map (·.2)).Perm (es.map fun x => V.ref x.2.1) := by
    rw [← e2]
    exact (List.mergeSort_perm _ _).map _
  refine wpAny_pure ⟨_, rfl, .ref h'.objs.size, upd H h'.objs.size (.lst ((bs.mergeSort (PySem.W.dataLe false fun b : PyData × V => b.1)).map (·.2))), I1.laid (t' := tk) (fun b u e => ?_) (Nat.le_refl _)
    (show ObjOk X.prog X.w _ _ _ (.lst _) from ⟨by rw [hp.length_eq, List.length_map]; exact hz, out, e', hv, he'⟩), rfl, q _ _ hp (I1.hok.fresh (Nat.le_refl _))⟩
  have hb : b < h'.objs.size := Heap.lt_size e
  rw [PyProof.Rows.sortedHeap_old (Nat.ne_of_lt hb) (by rw [size_push']; exact Nat.lt_succ_of_lt hb)]
  exact Heap.get?_push_of_some _ e
end
end L2D
set_option Elab.async false
set_option linter.all false
set_option maxHeartbeats 4000000
set_option maxRecDepth 100000
/-! A layer of plain values over the hand layer: data d (no addresses), slots as data, readings as predicate transformers over these. -/
namespace AL
open PySem PySem.Spec PyProof.Rows L2

/-- a lambda's object, as it was made -/
structure Th where
  qual : Str
  params : Arguments
  body : Expr
  scope : Scope
  cl : List (Str × Addr)
  pm : Value
  ctv : Value
  code : Addr
  dflt : Option Addr
  doc : Value
def Th.dv (t : Th) : Value := match t.dflt with
  | none => .none
  | some T => .ref T
def Th.obj (t : Th) : Obj := PySem.W.kdv_obj "<lambda>" t.qual t.params (.expr t.body) t.scope t.cl t.dv t.doc t.pm t.code t.ctv
/-- plain values; raw: what is carried as it is (a def, a class, an object) -/
inductive D where
  | non | bl (b : Bool) | int (i : Int) | str (x : Str) | tup (xs : List D) | lst (xs : List D) | scr (ns : List Int) | raw (v : V) | dct (kvs : List (List Int × Int)) | dkt (ks : List Str) (xs : List D) | thk (p : Th → Prop)

/-- the entries of a dict of texts -/
def kz (ks : List Str) (vs : List V) : List (Key × V) := List.zipWith (fun k v => (Sum.inr k, v)) ks vs

/-- the script, however it stands -/
def ScrAt (K : PySem.W.Frag) (M : Addr → Prop) (H : Hp) (a : Addr) (ns : List Int) : Prop :=
  (¬ M a ∧ H a = some (.lst (ns.map V.int))) ∨ (∃ o, H a = some (.frz o (.lst (ns.map V.int)))) ∨
    ∃ (o : Obj) (its : Array Value) (n : Nat), K.lookup a = some o ∧ o.cls = .type "list" ∧ o.dict = none ∧ o.data = .seq its n ∧ its.size ≤ sizeLine ∧ Vals (ns.map V.int) its.toList
theorem ScrAt.sq {K : PySem.W.Frag} {M : Addr → Prop} {H : Hp} {a : Addr} {ns : List Int} (h : ScrAt K M H a ns) : SqL K H a (ns.map V.int) := by
  rcases h with h | h | h
  · exact .inl (.inl h.2)
  · exact .inl (.inr h)
  · exact .inr h
mutual
/-- v is the value d, lists of it outside of M -/
inductive Rp (K : PySem.W.Frag) (M : Addr → Prop) (H : Hp) : V → D → Prop
  | non : Rp K M H .non .non
  | bl (b : Bool) : Rp K M H (.bl b) (.bl b)
  | int (i : Int) : Rp K M H (.int i) (.int i)
  | str (x : Str) : Rp K M H (.str x) (.str x)
  | tup {a : Addr} {vs : List V} {ds : List D} : H a = some (.tup vs) → RpAll K M H vs ds → Rp K M H (.ref a) (.tup ds)
  | lst {a : Addr} {vs : List V} {ds : List D} : ¬ M a → H a = some (.lst vs) → RpAll K M H vs ds → Rp K M H (.ref a) (.lst ds)
  | scr {a : Addr} {ns : List Int} : ScrAt K M H a ns → Rp K M H (.ref a) (.scr ns)
  | raw (v : V) : Rp K M H v (.raw v)
  | dct {a : Addr} {o : Obj} {kvs : List (List Int × Int)} : H a = some (.frz o (.dT (kvs.map fun kv => (kv.1.map Sum.inl, V.int kv.2)))) → Rp K M H (.ref a) (.dct kvs)
  | dkt {a : Addr} {ks : List Str} {vs : List V} {ds : List D} : ¬ M a → H a = some (.dK (kz ks vs)) → RpAll K M H vs ds → Rp K M H (.ref a) (.dkt ks ds)
  | thk {f : Addr} {t : Th} {p : Th → Prop} : p t → H f = some (.frz t.obj (.ext fun h => h.get? f = some t.obj)) → ¬ M t.code → H t.code = some (LamX.CodeO t.code t.qual) → (∀ T, t.dflt = some T → H T = some (.tup [.int 0])) → Rp K M H (.ref f) (.thk p)
inductive RpAll (K : PySem.W.Frag) (M : Addr → Prop) (H : Hp) : List V → List D → Prop
  | nil : RpAll K M H [] []
  | cons {v : V} {vs : List V} {d : D} {ds : List D} : Rp K M H v d → RpAll K M H vs ds → RpAll K M H (v :: vs) (d :: ds)
end

/-- what was known and not in M stays, and does not come into M' -/
structure Step (M : Addr → Prop) (H : Hp) (M' : Addr → Prop) (H' : Hp) : Prop where
  st : ∀ a o, ¬ M a → H a = some o → ¬ M' a ∧ H' a = some o
  tu : ∀ a xs, H a = some (.tup xs) → H' a = some (.tup xs)
  fz : ∀ a o u, H a = some (.frz o u) → H' a = some (.frz o u)
theorem Step.refl {M : Addr → Prop} {H : Hp} : Step M H M H := ⟨fun _ _ h e => ⟨h, e⟩, fun _ _ e => e, fun _ _ _ e => e⟩
theorem Step.trans {M M1 M2 : Addr → Prop} {H H1 H2 : Hp} (a : Step M H M1 H1) (b : Step M1 H1 M2 H2) : Step M H M2 H2 :=
  ⟨fun c o h e => let ⟨x, y⟩ := a.st c o h e; b.st c o x y, fun c xs e => b.tu c xs (a.tu c xs e), fun c o u e => b.fz c o u (a.fz c o u e)⟩
theorem ScrAt.step {K : PySem.W.Frag} {M M' : Addr → Prop} {H H' : Hp} {a : Addr} {ns : List Int} (s : Step M H M' H') (h : ScrAt K M H a ns) : ScrAt K M' H' a ns := by
  rcases h with h | ⟨o, h⟩ | h
  · exact .inl (s.st _ _ h.1 h.2)
  · exact .inr (.inl ⟨o, s.fz _ _ _ h⟩)
  · exact .inr (.inr h)
mutual
theorem Rp.step {K : PySem.W.Frag} {M M' : Addr → Prop} {H H' : Hp} (s : Step M H M' H') : ∀ {d : D} {v : V}, Rp K M H v d → Rp K M' H' v d
  | _, _, .non => .non
  | _, _, .bl b => .bl b
  | _, _, .int i => .int i
  | _, _, .str x => .str x
  | _, _, .tup h r => .tup (s.tu _ _ h) (RpAll.step s r)
  | _, _, .lst hm h r => .lst (s.st _ _ hm h).1 (s.st _ _ hm h).2 (RpAll.step s r)
  | _, _, .scr h => .scr (h.step s)
  | _, _, .raw v => .raw v
  | _, _, .dct h => .dct (s.fz _ _ _ h)
  | _, _, .dkt hm h r => .dkt (s.st _ _ hm h).1 (s.st _ _ hm h).2 (RpAll.step s r)
  | _, _, .thk q h m c d => .thk q (s.fz _ _ _ h) (s.st _ _ m c).1 (s.st _ _ m c).2 fun T e => s.tu _ _ (d T e)
theorem RpAll.step {K : PySem.W.Frag} {M M' : Addr → Prop} {H H' : Hp} (s : Step M H M' H') : ∀ {ds : List D} {vs : List V}, RpAll K M H vs ds → RpAll K M' H' vs ds
  | _, _, .nil => .nil
  | _, _, .cons h r => .cons (Rp.step s h) (RpAll.step s r)
end
theorem RpAll.length {K : PySem.W.Frag} {M : Addr → Prop} {H : Hp} : ∀ {vs : List V} {ds : List D}, RpAll K M H vs ds → vs.length = ds.length
  | _, _, .nil => rfl
  | _, _, .cons _ r => by rw [List.length_cons, List.length_cons, RpAll.length r]
theorem RpAll.get {K : PySem.W.Frag} {M : Addr → Prop} {H : Hp} : ∀ {vs : List V} {ds : List D} {i : Nat} {d : D}, RpAll K M H vs ds → ds[i]? = some d → ∃ v, vs[i]? = some v ∧ Rp K M H v d
  | _, _, _, _, .nil, e => by simp at e
  | _, _, 0, _, .cons r _, e => by simp at e; subst e; exact ⟨_, rfl, r⟩
  | _, _, i + 1, d, .cons _ t, e => by
    obtain ⟨v, h1, h2⟩ := RpAll.get (i := i) (d := d) t (by simpa using e)
    exact ⟨v, by simpa using h1, h2⟩
theorem RpAll.getV {K : PySem.W.Frag} {M : Addr → Prop} {H : Hp} {vs : List V} {ds : List D} {i : Nat} {v : V} (r : RpAll K M H vs ds) (e : vs[i]? = some v) : ∃ d, ds[i]? = some d ∧ Rp K M H v d := by
  have hi : i < ds.length := by rw [← r.length]; exact (List.getElem?_eq_some_iff.mp e).1
  obtain ⟨w, h1, h2⟩ := r.get (List.getElem?_eq_getElem hi)
  rw [e] at h1; cases h1
  exact ⟨_, List.getElem?_eq_getElem hi, h2⟩
theorem RpAll.append {K : PySem.W.Frag} {M : Addr → Prop} {H : Hp} : ∀ {vs ws : List V} {ds es : List D}, RpAll K M H vs ds → RpAll K M H ws es → RpAll K M H (vs ++ ws) (ds ++ es)
  | _, _, _, _, .nil, s => s
  | _, _, _, _, .cons r t, s => .cons r (RpAll.append t s)
theorem RpAll.take {K : PySem.W.Frag} {M : Addr → Prop} {H : Hp} : ∀ {vs : List V} {ds : List D} (n : Nat), RpAll K M H vs ds → RpAll K M H (vs.take n) (ds.take n)
  | _, _, 0, _ => by simp; exact .nil
  | _, _, _ + 1, .nil => .nil
  | _, _, n + 1, .cons r t => .cons r (RpAll.take n t)
theorem RpAll.drop {K : PySem.W.Frag} {M : Addr → Prop} {H : Hp} : ∀ {vs : List V} {ds : List D} (n : Nat), RpAll K M H vs ds → RpAll K M H (vs.drop n) (ds.drop n)
  | _, _, 0, r => r
  | _, _, _ + 1, .nil => .nil
  | _, _, n + 1, .cons _ t => RpAll.drop n t
theorem RpAll.set {K : PySem.W.Frag} {M : Addr → Prop} {H : Hp} {v : V} {d : D} (r : Rp K M H v d) : ∀ {vs : List V} {ds : List D} (i : Nat), RpAll K M H vs ds → RpAll K M H (vs.set i v) (ds.set i d)
  | _, _, _, .nil => .nil
  | _, _, 0, .cons _ t => .cons r t
  | _, _, i + 1, .cons q t => .cons q (RpAll.set r i t)
theorem RpAll.eraseIdx {K : PySem.W.Frag} {M : Addr → Prop} {H : Hp} : ∀ {vs : List V} {ds : List D} (i : Nat), RpAll K M H vs ds → RpAll K M H (vs.eraseIdx i) (ds.eraseIdx i)
  | _, _, _, .nil => .nil
  | _, _, 0, .cons _ t => t
  | _, _, i + 1, .cons q t => .cons q (RpAll.eraseIdx i t)
theorem RpAll.reverse {K : PySem.W.Frag} {M : Addr → Prop} {H : Hp} : ∀ {vs : List V} {ds : List D}, RpAll K M H vs ds → RpAll K M H vs.reverse ds.reverse
  | _, _, .nil => .nil
  | _, _, .cons r t => by
    rw [List.reverse_cons, List.reverse_cons]
    exact (RpAll.reverse t).append (.cons r .nil)

/-- v is d here and now: a list may be one that is changed later -/
def RpB (K : PySem.W.Frag) (M : Addr → Prop) (H : Hp) (v : V) (d : D) : Prop := Rp K M H v d ∨ ∃ a vs ds, v = .ref a ∧ d = .lst ds ∧ H a = some (.lst vs) ∧ RpAll K M H vs ds
theorem RpB.lst {K : PySem.W.Frag} {M : Addr → Prop} {H : Hp} {v : V} {ds : List D} (r : RpB K M H v (.lst ds)) : ∃ a vs, v = .ref a ∧ H a = some (.lst vs) ∧ RpAll K M H vs ds := by
  rcases r with r | ⟨a, vs, ds', e, e2, h, r⟩
  · cases r with
    | lst m h r => exact ⟨_, _, rfl, h, r⟩
  · cases e2; exact ⟨a, vs, e, h, r⟩
theorem RpB.tup {K : PySem.W.Frag} {M : Addr → Prop} {H : Hp} {v : V} {ds : List D} (r : RpB K M H v (.tup ds)) : ∃ a vs, v = .ref a ∧ H a = some (.tup vs) ∧ RpAll K M H vs ds := by
  rcases r with r | ⟨a, vs, ds', e, e2, h, r⟩
  · cases r with
    | tup h r => exact ⟨_, _, rfl, h, r⟩
  · cases e2
theorem RpB.int {K : PySem.W.Frag} {M : Addr → Prop} {H : Hp} {v : V} {i : Int} (r : RpB K M H v (.int i)) : v = .int i := by
  rcases r with r | ⟨a, vs, ds', e, e2, h, r⟩
  · cases r; rfl
  · cases e2
theorem RpB.bl {K : PySem.W.Frag} {M : Addr → Prop} {H : Hp} {v : V} {b : Bool} (r : RpB K M H v (.bl b)) : v = .bl b := by
  rcases r with r | ⟨a, vs, ds', e, e2, h, r⟩
  · cases r; rfl
  · cases e2
theorem RpB.str {K : PySem.W.Frag} {M : Addr → Prop} {H : Hp} {v : V} {x : Str} (r : RpB K M H v (.str x)) : v = .str x := by
  rcases r with r | ⟨a, vs, ds', e, e2, h, r⟩
  · cases r; rfl
  · cases e2
theorem RpB.non {K : PySem.W.Frag} {M : Addr → Prop} {H : Hp} {v : V} (r : RpB K M H v .non) : v = .non := by
  rcases r with r | ⟨a, vs, ds', e, e2, h, r⟩
  · cases r; rfl
  · cases e2
theorem RpB.raw {K : PySem.W.Frag} {M : Addr → Prop} {H : Hp} {v u : V} (r : RpB K M H v (.raw u)) : v = u := by
  rcases r with r | ⟨a, vs, ds', e, e2, h, r⟩
  · cases r; rfl
  · cases e2

theorem RpB.dct {K : PySem.W.Frag} {M : Addr → Prop} {H : Hp} {v : V} {kvs : List (List Int × Int)} (r : RpB K M H v (.dct kvs)) : ∃ a o, v = .ref a ∧ H a = some (.frz o (.dT (kvs.map fun kv => (kv.1.map Sum.inl, V.int kv.2)))) := by
  rcases r with r | ⟨a, vs, ds', e, e2, h, r⟩
  · cases r with
    | dct h => exact ⟨_, _, rfl, h⟩
  · cases e2
theorem RpB.dkt {K : PySem.W.Frag} {M : Addr → Prop} {H : Hp} {v : V} {ks : List Str} {ds : List D} (r : RpB K M H v (.dkt ks ds)) : ∃ a vs, v = .ref a ∧ H a = some (.dK (kz ks vs)) ∧ RpAll K M H vs ds := by
  rcases r with r | ⟨a, vs, ds', e, e2, h, r⟩
  · cases r with
    | dkt _ h r => exact ⟨_, _, rfl, h, r⟩
  · cases e2
/-! ### data as such (also: keys) -/
mutual
def D.py : D → PyData
  | .non => .none
  | .bl b => .bool b
  | .int i => .int i
  | .str x => .str x
  | .tup xs => .tuple (D.pys xs)
  | .lst xs => .list (D.pys xs)
  | .scr _ => .none
  | .raw _ => .none
  | .dct _ => .none
  | .dkt _ _ => .none
  | .thk _ => .none
def D.pys : List D → List PyData
  | [] => []
  | x :: r => x.py :: D.pys r
end
mutual
def D.plain : D → Bool
  | .tup xs => D.plains xs
  | .lst xs => D.plains xs
  | .scr _ => false
  | .raw _ => false
  | .dct _ => false
  | .dkt _ _ => false
  | .thk _ => false
  | _ => true
def D.plains : List D → Bool
  | [] => true
  | x :: r => x.plain && D.plains r
end
/-- can be a key of a dict: a tuple of whole numbers and such tuples -/
def D.isKey (d : D) : Bool := d.plain && L2D.keyP d.py && decide ((L2D.nkP d.py).depth ≤ 8) && (match d with
  | .tup (_ :: _) => true
  | _ => false)
/-- the keys of a dict, by data -/
def DicR (K : PySem.W.Frag) (M : Addr → Prop) (H : Hp) (xs : List L2D.Ent) (ks : List D) : Prop := RpAll K M H (xs.map fun x => V.ref x.2.1) ks ∧ xs.map (·.1) = ks.map (fun k => L2D.nkP k.py) ∧ ∀ k ∈ ks, k.isKey = true
theorem DicR.step {K : PySem.W.Frag} {M M' : Addr → Prop} {H H' : Hp} (s : Step M H M' H') {xs : List L2D.Ent} {ks : List D} (h : DicR K M H xs ks) : DicR K M' H' xs ks := ⟨h.1.step s, h.2.1, h.2.2⟩
/-- what may stand in M -/
def MutO : HO → Prop
  | .lst _ => True
  | .ext _ => True
  | .tbl _ => True
  | .ins _ _ _ => True
  | .dK _ => True
  | _ => False
/-! ### slots as data -/
/-- a slot: nothing known; a value; a list of the def's own that may be changed (w: it came as an argument) -/
inductive En where
  | un | d (x : D) | own (w : Bool) (xs : List D) | dic (ks : List D) | obj (w : Bool) (F : Addr → Prop) (P : (Addr → Prop) → Hp → Addr → Prop)
abbrev Ev := List En

abbrev noTb : Addr → Option Str := fun _ => none
abbrev oneTb (P : Addr) (q : Str) : Addr → Option Str := fun b => if b = P then some q else none
theorem oneTb_inv {P P' : Addr} {q q' : Str} (e : oneTb P q P' = some q') : P' = P ∧ q' = q := by
  unfold oneTb at e
  by_cases h : P' = P
  · rw [if_pos h] at e; cases e; exact ⟨h, rfl⟩
  · rw [if_neg h] at e; cases e
/-- where one stands: M0 what the caller may change, W what was handed in to be changed, H0 the heap at the entry, T lists that are being made around -/
structure Cl where
  K : PySem.W.Frag
  M0 : Addr → Prop
  W : Addr → Prop
  H0 : Hp
  T : Hp
  TB : Addr → Option Str
/-- the table at P: each code object that it tells bears the name q and stays -/
def TabM (M : Addr → Prop) (H : Hp) (P : Addr) (q : Str) : Prop := ∃ ps : Array Value, H P = some (.tbl ps) ∧ TriplesOk ps.toList ∧ ∀ (pos : Pos) (cv : Value), codeAmong pos ps.toList = some cv → ∃ c, cv = .ref c ∧ ¬ M c ∧ H c = some (LamX.CodeO c q)
/-- what is known of an object stays when its parts (F) stay -/
def StabO (F : Addr → Prop) (P : (Addr → Prop) → Hp → Addr → Prop) : Prop := (∀ (M : Addr → Prop) (H : Hp) (M' : Addr → Prop) (H' : Hp) (a : Addr), Step M H M' H' → (∀ b, F b → H' b = H b) → P M H a → P M' H' a) ∧ ∀ (M : Addr → Prop) (H : Hp) (a : Addr), P M H a → ∀ b, F b → ∀ ps, H b ≠ some (.tbl ps)
/-- not among the parts of another object -/
def FarE (F : Addr → Prop) (a : Addr) : En → Prop
  | .own _ _ => ¬ F a
  | .dic _ => ¬ F a
  | .obj _ G _ => ∀ b, F b → ¬ G b
  | _ => True
/-- the slot holds the entry -/
def SlotR (Φ : Cl) (M : Addr → Prop) (H : Hp) : En → Option V → Prop
  | .un, _ => True
  | .d x, o => ∃ v, o = some v ∧ Rp Φ.K M H v x
  | .own w xs, o => ∃ a vs, o = some (.ref a) ∧ M a ∧ H a = some (.lst vs) ∧ RpAll Φ.K M H vs xs ∧ (if w = true then Φ.W a else Φ.H0 a = Option.none) ∧ Φ.T a = Option.none
  | .dic ks, o => ∃ a P w xs, o = some (.ref a) ∧ M a ∧ H a = some (L2D.DicO P w a xs) ∧ DicR Φ.K M H xs ks ∧ Φ.H0 a = Option.none ∧ Φ.T a = Option.none
  | .obj w F P, o => ∃ a, o = some (.ref a) ∧ (∀ b, F b → M b ∧ (if w = true then Φ.W b else Φ.H0 b = Option.none) ∧ Φ.T b = Option.none) ∧ StabO F P ∧ P M H a
/-- the parts of an object are no other slot's -/
def Far (σ : L2.St) (ρ : Ev) : Prop := ∀ (i j : Nat) (w : Bool) (F : Addr → Prop) (P : (Addr → Prop) → Hp → Addr → Prop) (e : En) (a : Addr), i ≠ j → ρ[i]? = some (.obj w F P) → ρ[j]? = some e → σ[j]? = some (some (.ref a)) → FarE F a e
theorem Far.set {σ σ' : L2.St} {ρ : Ev} {i : Nat} {e0 : En} (h : Far σ ρ) (hs : ∀ k, k ≠ i → σ'[k]? = σ[k]?) (he : ∀ w F P, e0 ≠ .obj w F P)
    (hn : ∀ j w F P a, j ≠ i → ρ[j]? = some (.obj w F P) → σ'[i]? = some (some (.ref a)) → FarE F a e0) : Far σ' (ρ.set i e0) := fun j k w F P e a hjk h1 h2 h3 => by
  by_cases hj : i = j
  · subst hj
    have hi : i < ρ.length := by have := (List.getElem?_eq_some_iff.mp h1).1; rwa [List.length_set] at this
    rw [List.getElem?_set_self hi] at h1
    exact absurd (Option.some.inj h1) (he _ _ _)
  · rw [List.getElem?_set_ne hj] at h1
    by_cases hk : i = k
    · subst hk
      have hi : i < ρ.length := by have := (List.getElem?_eq_some_iff.mp h2).1; rwa [List.length_set] at this
      rw [List.getElem?_set_self hi] at h2
      cases h2
      exact hn j w F P a hjk h1 h3
    · rw [List.getElem?_set_ne hk] at h2
      rw [hs k (fun z => hk z.symm)] at h3
      exact h j k w F P e a hjk h1 h2 h3
theorem Far.setD {σ : L2.St} {ρ : Ev} {i : Nat} {x : D} (h : Far σ ρ) : Far σ (ρ.set i (.d x)) := h.set (fun _ _ => rfl) (fun _ _ _ => En.noConfusion) fun _ _ _ _ _ _ _ _ => trivial
theorem Far.setB {σ : L2.St} {ρ : Ev} {i : Nat} {x : D} {v : Option V} (h : Far σ ρ) : Far (σ.set i v) (ρ.set i (.d x)) := h.set (fun k hk => List.getElem?_set_ne (fun z => hk z.symm)) (fun _ _ _ => En.noConfusion) fun _ _ _ _ _ _ _ _ => trivial
structure Abs (Φ : Cl) (M : Addr → Prop) (σ : L2.St) (H : Hp) (ρ : Ev) : Prop where
  len : σ.length = ρ.length
  slot : ∀ (i : Nat) (e : En) (o : Option V), ρ[i]? = some e → σ[i]? = some o → SlotR Φ M H e o
  inj : ∀ (i j : Nat) (a : Addr) (w1 w2 : Bool) (xs ys : List D), ρ[i]? = some (.own w1 xs) → ρ[j]? = some (.own w2 ys) → σ[i]? = some (some (.ref a)) → σ[j]? = some (some (.ref a)) → i = j
  lst : ∀ a, M a → ∃ o, H a = some o ∧ MutO o
  m0 : ∀ a, Φ.M0 a → M a
  keep : ∀ a o, Φ.H0 a = some o → ¬ Φ.W a → H a = some o
  wm : ∀ a, Φ.W a → Φ.M0 a
  hold : ∀ a o, Φ.T a = some o → M a ∧ H a = some o
  injd : ∀ (i j : Nat) (a : Addr) (xs ys : List D), ρ[i]? = some (.dic xs) → ρ[j]? = some (.dic ys) → σ[i]? = some (some (.ref a)) → σ[j]? = some (some (.ref a)) → i = j
  tab : ∀ P q, Φ.TB P = some q → M P ∧ Φ.W P ∧ Φ.T P = Option.none ∧ TabM M H P q
  far : Far σ ρ
theorem Abs.tabs {Φ : Cl} {M M' : Addr → Prop} {σ : L2.St} {H H' : Hp} {ρ : Ev} (A : Abs Φ M σ H ρ) (st : Step M H M' H') (hm : ∀ P ps, M P → H P = some (.tbl ps) → M' P ∧ H' P = some (.tbl ps)) : ∀ P q, Φ.TB P = some q → M' P ∧ Φ.W P ∧ Φ.T P = Option.none ∧ TabM M' H' P q := fun P q e => by
  obtain ⟨m, w, tn, ps, h, t, c⟩ := A.tab P q e
  obtain ⟨m', h'⟩ := hm P ps m h
  exact ⟨m', w, tn, ps, h', t, fun pos cv hc => let ⟨a, e1, n, ha⟩ := c pos cv hc; ⟨a, e1, st.st a _ n ha⟩⟩
theorem Abs.same {Φ : Cl} {M : Addr → Prop} {σ : L2.St} {H H' : Hp} {ρ : Ev} (A : Abs Φ M σ H ρ) (s : Same H H') : Abs Φ M σ H' ρ := by
  have st : Step M H M H' := ⟨fun a o hm h => ⟨hm, s a o h⟩, fun a xs h => s a _ h, fun a o u h => s a _ h⟩
  refine ⟨A.len, fun i e o h1 h2 => ?_, A.inj, fun a h => let ⟨o, q, m⟩ := A.lst a h; ⟨o, s _ _ q, m⟩, A.m0, fun a o h1 h2 => s _ _ (A.keep a o h1 h2), A.wm, fun a o h => ⟨(A.hold a o h).1, s _ _ (A.hold a o h).2⟩, A.injd, A.tabs st fun P ps m h => ⟨m, s _ _ h⟩, A.far⟩
  have q := A.slot i e o h1 h2
  cases e with
  | un => trivial
  | d x => obtain ⟨v, e1, r⟩ := q; exact ⟨v, e1, r.step st⟩
  | own w xs => obtain ⟨a, vs, e1, m, h, r, z⟩ := q; exact ⟨a, vs, e1, m, s _ _ h, r.step st, z⟩
  | dic ks => obtain ⟨a, P, w, xs, e1, m, h, r, z⟩ := q; exact ⟨a, P, w, xs, e1, m, s _ _ h, r.step st, z⟩
  | obj w F P =>
    obtain ⟨a, e1, f, g, r⟩ := q
    refine ⟨a, e1, f, g, g.1 _ _ _ _ _ st (fun b hb => ?_) r⟩
    obtain ⟨o, hb', _⟩ := A.lst b (f b hb).1
    rw [hb', s b o hb']
theorem not_dic {ρ : Ev} {i j : Nat} {e : En} {ks : List D} (he : ∀ ls, e ≠ .dic ls) (h : (ρ.set i e)[j]? = some (.dic ks)) : i ≠ j ∧ ρ[j]? = some (.dic ks) := by
  by_cases hj : i = j
  · subst hj
    have hi : i < ρ.length := by have := (List.getElem?_eq_some_iff.mp h).1; rwa [List.length_set] at this
    rw [List.getElem?_set_self hi] at h
    exact absurd (Option.some.inj h) (he ks)
  · rw [List.getElem?_set_ne hj] at h
    exact ⟨hj, h⟩
theorem step_same {M : Addr → Prop} {H H' : Hp} (s : Same H H') : Step M H M H' := ⟨fun a o hm h => ⟨hm, s a o h⟩, fun a xs h => s a _ h, fun a o u h => s a _ h⟩
theorem same_upd {H : Hp} {p : Addr} {o : HO} (h : H p = none) : Same H (upd H p o) := fun b x e => by
  rw [upd_ne (ne_of_none e h)]
  exact e

/-! ### readings over data -/
abbrev WE := Ev → (D → Ev → Prop) → Prop
abbrev WT := Ev → (Bool → Ev → Prop) → Prop
abbrev WA := Ev → (List D → Ev → Prop) → Prop
structure AEnds where
  nx : Ev → Prop
  rt : D → Ev → Prop
  bk : Ev → Prop := fun _ => False
  ct : Ev → Prop := fun _ => False
abbrev WS := AEnds → Ev → Prop

def liftE (Φ : Cl) (w : WE) : TE := fun σ H Q => ∃ M ρ, Abs Φ M σ H ρ ∧ w ρ fun x ρ' => ∀ M' v H', Abs Φ M' σ H' ρ' → Step M H M' H' → Rp Φ.K M' H' v x → Q v H'
def liftT (Φ : Cl) (w : WT) : TT := fun σ H Q => ∃ M ρ, Abs Φ M σ H ρ ∧ w ρ fun b ρ' => ∀ M' H', Abs Φ M' σ H' ρ' → Step M H M' H' → Q b H'
def liftA (Φ : Cl) (w : WA) : TA := fun σ H Q => ∃ M ρ, Abs Φ M σ H ρ ∧ w ρ fun xs ρ' => ∀ M' vs H', Abs Φ M' σ H' ρ' → Step M H M' H' → RpAll Φ.K M' H' vs xs → Q vs H'
def absEnds (Φ : Cl) (M : Addr → Prop) (H : Hp) (D : Ends) : AEnds where
  nx := fun ρ => ∀ M' σ' H', Abs Φ M' σ' H' ρ → Step M H M' H' → D.nx σ' H'
  rt := fun x ρ => ∀ M' σ' v H', Abs Φ M' σ' H' ρ → Step M H M' H' → Rp Φ.K M' H' v x → D.rt v H'
  bk := fun ρ => ∀ M' σ' H', Abs Φ M' σ' H' ρ → Step M H M' H' → D.bk σ' H'
  ct := fun ρ => ∀ M' σ' H', Abs Φ M' σ' H' ρ → Step M H M' H' → D.ct σ' H'
def liftS (Φ : Cl) (w : WS) : TS := fun D σ H => ∃ M ρ, Abs Φ M σ H ρ ∧ w (absEnds Φ M H D) ρ

structure AEnds.Imp (R R' : AEnds) : Prop where
  nx : ∀ ρ, R.nx ρ → R'.nx ρ
  rt : ∀ x ρ, R.rt x ρ → R'.rt x ρ
  bk : ∀ ρ, R.bk ρ → R'.bk ρ
  ct : ∀ ρ, R.ct ρ → R'.ct ρ

structure QE (X : Cx) (Φ : Cl) (e : Expr) (w : WE) : Prop where
  mono : ∀ ρ Q Q', (∀ x ρ', Q x ρ' → Q' x ρ') → w ρ Q → w ρ Q'
  run : PE X e (liftE Φ w)
structure QT (X : Cx) (Φ : Cl) (e : Expr) (w : WT) : Prop where
  mono : ∀ ρ Q Q', (∀ x ρ', Q x ρ' → Q' x ρ') → w ρ Q → w ρ Q'
  run : PT X e (liftT Φ w)
structure QW (X : Cx) (Φ : Cl) (e : Expr) (w : WT) : Prop where
  mono : ∀ ρ Q Q', (∀ x ρ', Q x ρ' → Q' x ρ') → w ρ Q → w ρ Q'
  run : PW X e (liftT Φ w)
structure QA (X : Cx) (Φ : Cl) (es : List Expr) (w : WA) : Prop where
  mono : ∀ ρ Q Q', (∀ x ρ', Q x ρ' → Q' x ρ') → w ρ Q → w ρ Q'
  run : PA X es (liftA Φ w)
structure QS (X : Cx) (Φ : Cl) (st : Stmt) (w : WS) : Prop where
  mono : ∀ ρ R R', R.Imp R' → w R ρ → w R' ρ
  run : PS X st (liftS Φ w)
structure QSs (X : Cx) (Φ : Cl) (st : List Stmt) (w : WS) : Prop where
  mono : ∀ ρ R R', R.Imp R' → w R ρ → w R' ρ
  run : PSs X st (liftS Φ w)
theorem AEnds.Imp.nxTo {R R' : AEnds} (h : R.Imp R') {n n' : Ev → Prop} (hn : ∀ ρ, n ρ → n' ρ) : AEnds.Imp { R with nx := n } { R' with nx := n' } := ⟨hn, h.rt, h.bk, h.ct⟩
theorem AEnds.Imp.refl {R : AEnds} : R.Imp R := ⟨fun _ h => h, fun _ _ h => h, fun _ h => h, fun _ h => h⟩

/-! ### weakening a reading of the layer -/
theorem PEw {X : Cx} {e : Expr} {t t' : TE} (h : PE X e t) (i : ∀ σ H Q, t' σ H Q → t σ H Q) : PE X e t' := ⟨fun pins s σ H Q I q => h.run pins s σ H Q I (i σ H Q q)⟩
theorem PTw {X : Cx} {e : Expr} {t t' : TT} (h : PT X e t) (i : ∀ σ H Q, t' σ H Q → t σ H Q) : PT X e t' := ⟨fun pins s σ H Q I q => h.run pins s σ H Q I (i σ H Q q)⟩
theorem PWw {X : Cx} {e : Expr} {t t' : TT} (h : PW X e t) (i : ∀ σ H Q, t' σ H Q → t σ H Q) : PW X e t' := ⟨fun wh pins s σ H Q I q => h.run wh pins s σ H Q I (i σ H Q q)⟩
theorem PAw {X : Cx} {e : List Expr} {t t' : TA} (h : PA X e t) (i : ∀ σ H Q, t' σ H Q → t σ H Q) : PA X e t' := ⟨fun pos pins s σ H Q I q => h.run pos pins s σ H Q I (i σ H Q q)⟩
theorem PSw {X : Cx} {e : Stmt} {t t' : TS} (h : PS X e t) (i : ∀ D σ H, t' D σ H → t D σ H) : PS X e t' := ⟨fun pins s σ H D I q => h.run pins s σ H D I (i D σ H q)⟩
theorem PSsw {X : Cx} {e : List Stmt} {t t' : TS} (h : PSs X e t) (i : ∀ D σ H, t' D σ H → t D σ H) : PSs X e t' := ⟨fun pins s σ H D I q => h.run pins s σ H D I (i D σ H q)⟩
end AL
set_option Elab.async false
set_option linter.all false
set_option maxRecDepth 100000
namespace AL
open PySem PySem.Spec PyProof.Rows L2

/-! ### names, constants -/
def wVar (i : Nat) : WE := fun ρ Q => match ρ[i]? with
  | some (.d x) => Q x ρ
  | some (.own false xs) => Q (.lst xs) (ρ.set i (.d (.lst xs)))
  | _ => False
def wC (x : D) : WE := fun ρ Q => Q x ρ

/-- M without a -/
def but (M : Addr → Prop) (a : Addr) : Addr → Prop := fun b => M b ∧ b ≠ a
/-- M and a -/
def more (M : Addr → Prop) (a : Addr) : Addr → Prop := fun b => M b ∨ b = a

/-- an own list is handed on: it is not changed any more -/
theorem Abs.freeze {Φ : Cl} {M : Addr → Prop} {σ : L2.St} {H : Hp} {ρ : Ev} (A : Abs Φ M σ H ρ) {i : Nat} {xs : List D} {a : Addr} (e : ρ[i]? = some (.own false xs)) (es : σ[i]? = some (some (.ref a))) (hf : Φ.H0 a = Option.none) (h0 : ∀ b, Φ.M0 b → b ≠ a) :
    Abs Φ (but M a) σ H (ρ.set i (.d (.lst xs))) ∧ Step M H (but M a) H ∧ Rp Φ.K (but M a) H (.ref a) (.lst xs) := by
  have st : Step M H (but M a) H := ⟨fun b o hb hh => ⟨fun z => hb z.1, hh⟩, fun _ _ q => q, fun _ _ _ q => q⟩
  have q0 := A.slot i _ _ e es
  obtain ⟨a', vs, e1, m, h, r, z⟩ := q0
  cases e1
  have ra : Rp Φ.K (but M a) H (.ref a) (.lst xs) := .lst (fun z => z.2 rfl) h (r.step st)
  refine ⟨⟨by rw [List.length_set]; exact A.len, fun j en o h1 h2 => ?_, fun j k b w1 w2 ys zs h1 h2 h3 h4 => ?_, fun b hb => A.lst b hb.1, fun b hb => ⟨A.m0 b hb, h0 b hb⟩, A.keep, A.wm, fun b o hb => ⟨⟨(A.hold b o hb).1, fun y => by rw [y, z.2] at hb; cases hb⟩, (A.hold b o hb).2⟩, fun j k b ys zs h1 h2 h3 h4 => A.injd j k b ys zs (not_dic (fun _ => En.noConfusion) h1).2 (not_dic (fun _ => En.noConfusion) h2).2 h3 h4, A.tabs st fun P ps m' h' => ⟨⟨m', fun y => by rw [y, h] at h'; cases h'⟩, h'⟩, A.far.setD⟩, st, ra⟩
  · by_cases hj : i = j
    · subst hj
      have hi : i < ρ.length := (List.getElem?_eq_some_iff.mp e).1
      rw [List.getElem?_set_self hi] at h1
      cases h1
      rw [es] at h2; cases h2
      exact ⟨_, rfl, ra⟩
    · rw [List.getElem?_set_ne hj] at h1
      have q := A.slot j en o h1 h2
      cases en with
      | un => trivial
      | d x => obtain ⟨v, e2, r2⟩ := q; exact ⟨v, e2, r2.step st⟩
      | own w ys =>
        obtain ⟨b, ws, e2, m2, hh, r2, z2⟩ := q
        refine ⟨b, ws, e2, ⟨m2, fun z => ?_⟩, hh, r2.step st, z2⟩
        subst z
        subst e2
        exact hj (A.inj i j _ _ _ _ _ e h1 es h2)
      | dic ks =>
        obtain ⟨b, P, w2, ws, e2, m2, hh, r2, z2⟩ := q
        refine ⟨b, P, w2, ws, e2, ⟨m2, fun z => ?_⟩, hh, r2.step st, z2⟩
        subst z
        rw [h] at hh; cases hh
      | obj w F P =>
        obtain ⟨b, e2, f, g, r2⟩ := q
        have nf : ¬ F a := A.far j i w F P _ a (fun z => hj z.symm) h1 e es
        exact ⟨b, e2, fun c hc => ⟨⟨(f c hc).1, fun z => nf (z ▸ hc)⟩, (f c hc).2⟩, g, g.1 _ _ _ _ _ st (fun _ _ => rfl) r2⟩
  · by_cases hj : i = j
    · subst hj
      have hi : i < ρ.length := (List.getElem?_eq_some_iff.mp e).1
      rw [List.getElem?_set_self hi] at h1
      cases h1
    · by_cases hk : i = k
      · subst hk
        have hi : i < ρ.length := (List.getElem?_eq_some_iff.mp e).1
        rw [List.getElem?_set_self hi] at h2
        cases h2
      · rw [List.getElem?_set_ne hj] at h1
        rw [List.getElem?_set_ne hk] at h2
        exact A.inj j k b w1 w2 ys zs h1 h2 h3 h4
theorem Cl.fresh_ne {Φ : Cl} {M : Addr → Prop} {σ : L2.St} {H : Hp} {ρ : Ev} {a : Addr} (ok : ∀ b, Φ.M0 b → ∃ o, Φ.H0 b = some o) (hf : Φ.H0 a = Option.none) : ∀ b, Φ.M0 b → b ≠ a := fun b hb z => by
  obtain ⟨o, q⟩ := ok b hb
  rw [z, hf] at q
  cases q

/-- the frame's facts -/
class MOk (M0 : Addr → Prop) (H0 : Hp) : Prop where
  trk : ∀ b, M0 b → ∃ o, H0 b = some o
abbrev ClOk (Φ : Cl) : Prop := MOk Φ.M0 Φ.H0
section
variable {X : Cx} {Φ : Cl} [ok : ClOk Φ] {pos : Pos} {e a b c : Expr} {wa wb wc : WE}

theorem qe_var {i : Nat} {x : Str} (hN : X.N[i]? = some x) (hv : Vis X.env.scope x) (hd : (x == ("__debug__" : Str)) = false := by decide) (hcd : (x == ("__classdict__" : Str)) = false := by decide) : QE X Φ (.Name x pos) (wVar i) where
  mono := fun ρ Q Q' h q => by
    unfold wVar at q ⊢
    split at q
    · exact h _ _ q
    · exact h _ _ q
    · exact q.elim
  run := by
    refine PEw (pe_var hN hv hd hcd) fun σ H Q q => ?_
    obtain ⟨M, ρ, A, q⟩ := q
    unfold wVar at q
    split at q
    · rename_i x' hx
      have hi : i < σ.length := by rw [A.len]; exact (List.getElem?_eq_some_iff.mp hx).1
      obtain ⟨v, e, r⟩ := A.slot i _ _ hx (List.getElem?_eq_getElem hi)
      exact ⟨v, by rw [List.getElem?_eq_getElem hi, e], q M v H A .refl r⟩
    · rename_i xs hx
      have hi : i < σ.length := by rw [A.len]; exact (List.getElem?_eq_some_iff.mp hx).1
      obtain ⟨p, vs, e, m, hh, r, z⟩ := A.slot i _ _ hx (List.getElem?_eq_getElem hi)
      have es : σ[i]? = some (some (.ref p)) := by rw [List.getElem?_eq_getElem hi, e]
      obtain ⟨A', s', r'⟩ := A.freeze hx es z.1 (Cl.fresh_ne (M := M) (σ := σ) (H := H) (ρ := ρ) ok.trk z.1)
      exact ⟨_, es, q _ _ H A' s' r'⟩
    · exact q.elim
theorem qe_const {v : V} {x : D} (h : PE X e (tC v)) (r : ∀ M H, Rp Φ.K M H v x) : QE X Φ e (wC x) where
  mono := fun ρ Q Q' h q => h _ _ q
  run := PEw h fun σ H Q q => by
    obtain ⟨M, ρ, A, q⟩ := q
    exact q M v H A .refl (r M H)
theorem qe_int {i j} : QE X Φ (.Constant (.int i) j pos) (wC (.int i)) := qe_const pe_int fun _ _ => .int i
theorem qe_bl {b j} : QE X Φ (.Constant (.bool b) j pos) (wC (.bl b)) := qe_const pe_bl fun _ _ => .bl b
theorem qe_non {j} : QE X Φ (.Constant .none j pos) (wC .non) := qe_const pe_non fun _ _ => .non
theorem qe_str {x j} : QE X Φ (.Constant (.str x) j pos) (wC (.str x)) := qe_const pe_str fun _ _ => .str x

/-! ### an operand that is read at once -/
def liftB (Φ : Cl) (w : WE) : TE := fun σ H Q => ∃ M ρ, Abs Φ M σ H ρ ∧ w ρ fun x ρ' => ∀ M' v H', Abs Φ M' σ H' ρ' → Step M H M' H' → RpB Φ.K M' H' v x → Q v H'
structure QB (X : Cx) (Φ : Cl) (e : Expr) (w : WE) : Prop where
  mono : ∀ ρ Q Q', (∀ x ρ', Q x ρ' → Q' x ρ') → w ρ Q → w ρ Q'
  run : PE X e (liftB Φ w)
theorem QE.qb (h : QE X Φ e wa) : QB X Φ e wa := ⟨h.mono, PEw h.run fun σ H Q ⟨M, ρ, A, q⟩ => ⟨M, ρ, A, h.mono ρ _ _ (fun x ρ' q' M' v H' A' S' r => q' M' v H' A' S' (.inl r)) q⟩⟩
/-- what a slot holds -/
def valE : Option En → (D → Prop) → Prop
  | some (.d x), P => P x
  | some (.own _ xs), P => P (.lst xs)
  | _, _ => False
theorem valE_mono {o : Option En} {P P' : D → Prop} (h : ∀ x, P x → P' x) (q : valE o P) : valE o P' := by
  cases o with
  | none => exact q.elim
  | some e => cases e <;> first | exact h _ q | exact q.elim
theorem valE_rp {M : Addr → Prop} {σ : L2.St} {H : Hp} {ρ : Ev} (A : Abs Φ M σ H ρ) {i : Nat} {P : D → Prop} (q : valE ρ[i]? P) : ∃ v x, σ[i]? = some (some v) ∧ RpB Φ.K M H v x ∧ P x := by
  cases he : ρ[i]? with
  | none => rw [he] at q; exact q.elim
  | some en =>
    have hi : i < σ.length := by rw [A.len]; exact (List.getElem?_eq_some_iff.mp he).1
    have sl := A.slot i en _ he (List.getElem?_eq_getElem hi)
    rw [he] at q
    cases en with
    | un => exact q.elim
    | d x => obtain ⟨v, e, r⟩ := sl; exact ⟨v, x, by rw [List.getElem?_eq_getElem hi, e], .inl r, q⟩
    | own w xs => obtain ⟨a, vs, e, m, h, r, _⟩ := sl; exact ⟨.ref a, .lst xs, by rw [List.getElem?_eq_getElem hi, e], .inr ⟨a, vs, xs, rfl, rfl, h, r⟩, q⟩
    | dic ks => exact q.elim
    | obj w F P => exact q.elim
def wVarB (i : Nat) : WE := fun ρ Q => valE ρ[i]? fun x => Q x ρ
theorem qb_var {i : Nat} {x : Str} (hN : X.N[i]? = some x) (hv : Vis X.env.scope x) (hd : (x == ("__debug__" : Str)) = false := by decide) (hcd : (x == ("__classdict__" : Str)) = false := by decide) : QB X Φ (.Name x pos) (wVarB i) := by
  refine ⟨fun ρ Q Q' h q => valE_mono (fun x p => h x ρ p) q, PEw (pe_var hN hv hd hcd) fun σ H Q ⟨M, ρ, A, q⟩ => ?_⟩
  obtain ⟨v, x, e, r, p⟩ := valE_rp A q
  exact ⟨v, e, p M v H A .refl r⟩
/-- two operands -/
abbrev W2 := Ev → (D → D → Ev → Prop) → Prop
structure Q2 (X : Cx) (Φ : Cl) (a b : Expr) (w : W2) : Prop where
  mono : ∀ ρ Q Q', (∀ x y ρ', Q x y ρ' → Q' x y ρ') → w ρ Q → w ρ Q'
  ex : ∃ ta tb, PE X a ta ∧ PE X b tb ∧ ∀ σ H (R : V → V → Hp → Prop), (∃ M ρ, Abs Φ M σ H ρ ∧ w ρ fun x y ρ' => ∀ M' v u H', Abs Φ M' σ H' ρ' → Step M H M' H' → RpB Φ.K M' H' v x → RpB Φ.K M' H' u y → R v u H') → ta σ H fun v H1 => tb σ H1 fun u H2 => R v u H2
def w2e (wa wb : WE) : W2 := fun ρ Q => wa ρ fun x ρ1 => wb ρ1 fun y ρ2 => Q x y ρ2
theorem q2_e (ha : QE X Φ a wa) (hb : QB X Φ b wb) : Q2 X Φ a b (w2e wa wb) := by
  refine ⟨fun ρ Q Q' h q => ha.mono ρ _ _ (fun x ρ1 q1 => hb.mono ρ1 _ _ (fun y ρ2 q2 => h x y ρ2 q2) q1) q, _, _, ha.run, hb.run, fun σ H R ⟨M, ρ, A, q⟩ => ?_⟩
  refine ⟨M, ρ, A, ha.mono ρ _ _ (fun x ρ1 q1 => ?_) q⟩
  intro M1 v H1 A1 S1 r1
  refine ⟨M1, ρ1, A1, hb.mono ρ1 _ _ (fun y ρ2 q2 => ?_) q1⟩
  intro M2 u H2 A2 S2 r2
  exact q2 M2 v u H2 A2 (S1.trans S2) (.inl (r1.step S2)) r2
/-- the first one a name: its list is read behind the second's evaluation -/
def w2v (i : Nat) (wb : WE) : W2 := fun ρ Q => valE ρ[i]? fun _ => wb ρ fun y ρ1 => valE ρ1[i]? fun x => Q x y ρ1
theorem q2_v {i : Nat} {x : Str} {p : Pos} (hN : X.N[i]? = some x) (hv : Vis X.env.scope x) (hb : QB X Φ b wb) (hd : (x == ("__debug__" : Str)) = false := by decide) (hcd : (x == ("__classdict__" : Str)) = false := by decide) : Q2 X Φ (.Name x p) b (w2v i wb) := by
  refine ⟨fun ρ Q Q' h q => valE_mono (fun _ q => hb.mono ρ _ _ (fun y ρ1 q1 => valE_mono (fun x p => h x y ρ1 p) q1) q) q, tVar i, _, pe_var hN hv hd hcd, hb.run, fun σ H R ⟨M, ρ, A, q⟩ => ?_⟩
  obtain ⟨v, x, e, r, q⟩ := valE_rp A q
  refine ⟨v, e, M, ρ, A, hb.mono ρ _ _ (fun y ρ1 q1 => ?_) q⟩
  intro M1 u H1 A1 S1 r1
  obtain ⟨v', x', e', r', p⟩ := valE_rp A1 q1
  rw [e] at e'
  cases e'
  exact p M1 v u H1 A1 S1 r' r1
/-! ### operators by values -/
abbrev K1 := D → (D → Prop) → Prop
abbrev K2 := D → D → (D → Prop) → Prop
abbrev KL := List D → (D → Prop) → Prop
/-- the layer's rule r does at least what k says; new objects alone may come -/
def Op2 (K : PySem.W.Frag) (r : R2) (k : K2) : Prop := ∀ (M : Addr → Prop) (H : Hp) (v u : V) (x y : D) (P : D → Prop) (Q : VK), RpB K M H v x → RpB K M H u y → (∀ a, M a → ∃ o, H a = some o) → k x y P → (∀ z v' H', P z → Same H H' → Rp K M H' v' z → Q v' H') → r v u H Q
def Op1 (K : PySem.W.Frag) (r : V → Hp → VK → Prop) (k : K1) : Prop := ∀ (M : Addr → Prop) (H : Hp) (v : V) (x : D) (P : D → Prop) (Q : VK), RpB K M H v x → (∀ a, M a → ∃ o, H a = some o) → k x P → (∀ z v' H', P z → Same H H' → Rp K M H' v' z → Q v' H') → r v H Q
def OpL (K : PySem.W.Frag) (r : List V → Hp → VK → Prop) (k : KL) : Prop := ∀ (M : Addr → Prop) (H : Hp) (vs : List V) (xs : List D) (P : D → Prop) (Q : VK), RpAll K M H vs xs → (∀ a, M a → ∃ o, H a = some o) → k xs P → (∀ z v' H', P z → Same H H' → Rp K M H' v' z → Q v' H') → r vs H Q
def Mono2 (k : K2) : Prop := ∀ x y P P', (∀ z, P z → P' z) → k x y P → k x y P'
def Mono1 (k : K1) : Prop := ∀ x P P', (∀ z, P z → P' z) → k x P → k x P'
def MonoL (k : KL) : Prop := ∀ x P P', (∀ z, P z → P' z) → k x P → k x P'
def wOp (k : K2) (w2 : W2) : WE := fun ρ Q => w2 ρ fun x y ρ2 => k x y fun z => Q z ρ2
def wUn (k : K1) (wa : WE) : WE := fun ρ Q => wa ρ fun x ρ1 => k x fun z => Q z ρ1
def wCl (k : KL) (wa : WA) : WE := fun ρ Q => wa ρ fun x ρ1 => k x fun z => Q z ρ1
/-- a True or False -/
def isB (z : D) (P : Bool → Prop) : Prop := match z with
  | .bl b => P b
  | _ => False
def wTest (w : WE) : WT := fun ρ Q => w ρ fun x ρ1 => isB x fun b => Q b ρ1
theorem isB_mono {z : D} {P P' : Bool → Prop} (h : ∀ b, P b → P' b) (q : isB z P) : isB z P' := by
  cases z <;> first | exact h _ q | exact q.elim
theorem isB_rp {K : PySem.W.Frag} {M : Addr → Prop} {H : Hp} {v : V} {z : D} {P : Bool → Prop} (r : Rp K M H v z) (q : isB z P) : ∃ b, v = .bl b ∧ P b := by
  cases r with
  | bl b => exact ⟨b, rfl, q⟩
  | _ => exact q.elim


variable {w2 : W2}
theorem wOp_mono {k : K2} (km : Mono2 k) (h2 : Q2 X Φ a b w2) :
    ∀ ρ Q Q', (∀ x ρ', Q x ρ' → Q' x ρ') → wOp k w2 ρ Q → wOp k w2 ρ Q' := fun ρ Q Q' h q => h2.mono ρ _ _ (fun x y ρ2 q2 => km x y _ _ (fun z p => h z ρ2 p) q2) q
theorem op_run {r : R2} {k : K2} {Q : VK} {M : Addr → Prop} {σ : L2.St} {H : Hp} {ρ : Ev} {P : D → Ev → Prop} (hk : Op2 Φ.K r k) (km : Mono2 k) (h2 : Q2 X Φ a b w2) (A : Abs Φ M σ H ρ) (q : wOp k w2 ρ P)
    (fin : ∀ z ρ', P z ρ' → ∀ M' v H', Abs Φ M' σ H' ρ' → Step M H M' H' → Rp Φ.K M' H' v z → Q v H') : ∃ M ρ, Abs Φ M σ H ρ ∧ w2 ρ fun x y ρ' => ∀ M' v u H', Abs Φ M' σ H' ρ' → Step M H M' H' → RpB Φ.K M' H' v x → RpB Φ.K M' H' u y → r v u H' Q := by
  refine ⟨M, ρ, A, h2.mono ρ _ _ (fun x y ρ2 q2 => ?_) q⟩
  intro M2 v u H2 A2 S2 r1 r2
  refine hk M2 H2 v u x y _ Q r1 r2 (fun b hb => let ⟨_, z, _⟩ := A2.lst b hb; ⟨_, z⟩) q2 fun z v' H' p s r' => ?_
  exact fin z ρ2 p M2 v' H' (A2.same s) (S2.trans (step_same s)) r'
theorem lift_op {r : R2} {k : K2} (hk : Op2 Φ.K r k) (km : Mono2 k) (h2 : Q2 X Φ a b w2) (mk : ∀ ta tb, PE X a ta → PE X b tb → PE X e (tOp r ta tb)) : QE X Φ e (wOp k w2) := by
  refine ⟨wOp_mono km h2, ?_⟩
  obtain ⟨ta, tb, ha, hb, run⟩ := h2.ex
  exact PEw (mk ta tb ha hb) fun σ H Q ⟨M, ρ, A, q⟩ => run σ H (fun v u H' => r v u H' Q) (op_run hk km h2 A q fun z ρ' p => p)
theorem qe_op {op : Operator} {r : R2} {k : K2} (ho : OpR X (binaryOp op) r) (hk : Op2 Φ.K r k) (km : Mono2 k) (h2 : Q2 X Φ a b w2) : QE X Φ (.BinOp a op b pos) (wOp k w2) := lift_op hk km h2 fun _ _ ha hb => pe_op ho ha hb
theorem qe_cmp {op : CmpOp} {r : R2} {k : K2} (ho : OpR X (compareOp op) r) (hk : Op2 Φ.K r k) (km : Mono2 k) (h2 : Q2 X Φ a b w2) (hm : behindInMarks op b = false) : QE X Φ (.Compare a [op] [b] pos) (wOp k w2) := lift_op hk km h2 fun _ _ ha hb => pe_cmpR ho ha hb hm
theorem qe_ix {r : R2} {k : K2} (ho : IxR X r) (hk : Op2 Φ.K r k) (km : Mono2 k) (h2 : Q2 X Φ a b w2) (hs : PlainIx b) : QE X Φ (.Subscript a b pos) (wOp k w2) := lift_op hk km h2 fun _ _ ha hb => pe_ix ho ha hb hs
theorem wTest_mono {w : WE} (ha : ∀ ρ Q Q', (∀ x ρ', Q x ρ' → Q' x ρ') → w ρ Q → w ρ Q') : ∀ ρ Q Q', (∀ x ρ', Q x ρ' → Q' x ρ') → wTest w ρ Q → wTest w ρ Q' := fun ρ Q Q' h q =>
  ha ρ _ _ (fun x ρ1 q1 => isB_mono (fun b p => h b ρ1 p) q1) q
theorem qt_cmp {op : CmpOp} {r : R2} {k : K2} (ho : OpR X (compareOp op) r) (hk : Op2 Φ.K r k) (km : Mono2 k) (h2 : Q2 X Φ a b w2) (hm : behindInMarks op b = false) : QT X Φ (.Compare a [op] [b] pos) (wTest (wOp k w2)) := by
  refine ⟨wTest_mono (wOp_mono km h2), ?_⟩
  obtain ⟨ta, tb, ha, hb, run⟩ := h2.ex
  refine PTw (pt_cmpR ho ha hb hm) fun σ H Q ⟨M, ρ, A, q⟩ => run σ H (fun v u H' => r v u H' fun x H2 => ∃ k, x = .bl k ∧ Q k H2) (op_run hk km h2 A q fun z ρ' p M' v H' A' S' r' => ?_)
  obtain ⟨b, e, p⟩ := isB_rp r' p
  exact ⟨b, e, p M' H' A' S'⟩
theorem qt_val (ha : QE X Φ a wa) (he : ∀ whole, isTrue a X.env whole = (do let v ← whole; standAt a.pos; holding [v] (truthy v)) := by intro _; rfl) : QT X Φ a (wTest wa) := by
  refine ⟨wTest_mono ha.mono, PTw (pt_val ha.run he) fun σ H Q q => ?_⟩
  obtain ⟨M, ρ, A, q⟩ := q
  refine ⟨M, ρ, A, ha.mono ρ _ _ (fun z ρ' q' => ?_) q⟩
  intro M' v H' A' S' r'
  obtain ⟨b, e, p⟩ := isB_rp r' q'
  exact ⟨b, e, p M' H' A' S'⟩
theorem qe_un {op : UnaryOp} {r : V → Hp → VK → Prop} {k : K1} (ho : UnR X (unaryOp op) r) (hk : Op1 Φ.K r k) (km : Mono1 k) (ha : QB X Φ a wa) : QE X Φ (.UnaryOp op a pos) (wUn k wa) := by
  refine ⟨fun ρ Q Q' h q => ha.mono ρ _ _ (fun x ρ1 q1 => km x _ _ (fun z p => h z ρ1 p) q1) q, PEw (pe_un ho ha.run) fun σ H Q q => ?_⟩
  obtain ⟨M, ρ, A, q⟩ := q
  refine ⟨M, ρ, A, ha.mono ρ _ _ (fun x ρ1 q1 => ?_) q⟩
  intro M1 v H1 A1 S1 r1
  refine hk M1 H1 v x _ Q r1 (fun b hb => let ⟨_, z, _⟩ := A1.lst b hb; ⟨_, z⟩) q1 fun z v' H' p s r' => ?_
  exact p M1 v' H' (A1.same s) (S1.trans (step_same s)) r'

/-! ### and, or, not, if .. else -/
variable {ta tb : WT} {rest : List Expr}
def wAnd (t u : WT) : WT := fun ρ Q => t ρ fun c ρ1 => if c = true then u ρ1 Q else Q false ρ1
def wOr (t u : WT) : WT := fun ρ Q => t ρ fun c ρ1 => if c = true then Q true ρ1 else u ρ1 Q
def wNot (t : WT) : WT := fun ρ Q => t ρ fun c ρ1 => Q (!c) ρ1
theorem QW.qt {w : WT} (h : QW X Φ e w) : QT X Φ e w := ⟨h.mono, h.run.pt⟩
theorem qw_and1 (ha : QT X Φ a ta) : QW X Φ (.BoolOp .And [a] pos) ta := ⟨ha.mono, pw_and1 ha.run⟩
theorem qw_or1 (ha : QT X Φ a ta) : QW X Φ (.BoolOp .Or [a] pos) ta := ⟨ha.mono, pw_or1 ha.run⟩
theorem qw_and (ha : QT X Φ a ta) (hb : QW X Φ (.BoolOp .And (b :: rest) pos) tb) : QW X Φ (.BoolOp .And (a :: b :: rest) pos) (wAnd ta tb) := by
  refine ⟨fun ρ Q Q' h q => ha.mono ρ _ _ (fun c ρ1 q1 => ?_) q, PWw (pw_and ha.run hb.run) fun σ H Q q => ?_⟩
  · cases c with
    | true => exact hb.mono ρ1 _ _ h q1
    | false => exact h _ _ q1
  · obtain ⟨M, ρ, A, q⟩ := q
    refine ⟨M, ρ, A, ha.mono ρ _ _ (fun c ρ1 q1 => ?_) q⟩
    intro M1 H1 A1 S1
    cases c with
    | true => exact ⟨M1, ρ1, A1, hb.mono ρ1 _ _ (fun d ρ2 q2 M2 H2 A2 S2 => q2 M2 H2 A2 (S1.trans S2)) q1⟩
    | false => exact q1 M1 H1 A1 S1
theorem qw_or (ha : QT X Φ a ta) (hb : QW X Φ (.BoolOp .Or (b :: rest) pos) tb) : QW X Φ (.BoolOp .Or (a :: b :: rest) pos) (wOr ta tb) := by
  refine ⟨fun ρ Q Q' h q => ha.mono ρ _ _ (fun c ρ1 q1 => ?_) q, PWw (pw_or ha.run hb.run) fun σ H Q q => ?_⟩
  · cases c with
    | false => exact hb.mono ρ1 _ _ h q1
    | true => exact h _ _ q1
  · obtain ⟨M, ρ, A, q⟩ := q
    refine ⟨M, ρ, A, ha.mono ρ _ _ (fun c ρ1 q1 => ?_) q⟩
    intro M1 H1 A1 S1
    cases c with
    | false => exact ⟨M1, ρ1, A1, hb.mono ρ1 _ _ (fun d ρ2 q2 M2 H2 A2 S2 => q2 M2 H2 A2 (S1.trans S2)) q1⟩
    | true => exact q1 M1 H1 A1 S1
theorem qt_not (ha : QT X Φ a ta) : QT X Φ (.UnaryOp .Not a pos) (wNot ta) := by
  refine ⟨fun ρ Q Q' h q => ha.mono ρ _ _ (fun c ρ1 q1 => h _ _ q1) q, PTw (pt_not ha.run) fun σ H Q q => ?_⟩
  obtain ⟨M, ρ, A, q⟩ := q
  exact ⟨M, ρ, A, ha.mono ρ _ _ (fun c ρ1 q1 M1 H1 A1 S1 => q1 M1 H1 A1 S1) q⟩
def wAndV (wa wb : WE) : WE := fun ρ Q => wa ρ fun x ρ1 => isB x fun c => if c = true then wb ρ1 Q else Q (.bl false) ρ1
def wOrV (wa wb : WE) : WE := fun ρ Q => wa ρ fun x ρ1 => isB x fun c => if c = true then Q (.bl true) ρ1 else wb ρ1 Q
def wNotV (wa : WE) : WE := fun ρ Q => wa ρ fun x ρ1 => isB x fun c => Q (.bl (!c)) ρ1
theorem qe_one {op} (h : QE X Φ a wa) : QE X Φ (.BoolOp op [a] pos) wa := ⟨h.mono, pe_one h.run⟩
theorem qe_and (ha : QE X Φ a wa) (hb : QE X Φ (.BoolOp .And (b :: rest) pos) wb) : QE X Φ (.BoolOp .And (a :: b :: rest) pos) (wAndV wa wb) := by
  refine ⟨fun ρ Q Q' h q => ha.mono ρ _ _ (fun x ρ1 q1 => isB_mono (fun c p => ?_) q1) q, PEw (pe_and ha.run hb.run) fun σ H Q q => ?_⟩
  · cases c with
    | true => exact hb.mono ρ1 _ _ h p
    | false => exact h _ _ p
  · obtain ⟨M, ρ, A, q⟩ := q
    refine ⟨M, ρ, A, ha.mono ρ _ _ (fun x ρ1 q1 => ?_) q⟩
    intro M1 v H1 A1 S1 r1
    obtain ⟨c, e, p⟩ := isB_rp r1 q1
    refine ⟨c, e, ?_⟩
    cases c with
    | true => exact ⟨M1, ρ1, A1, hb.mono ρ1 _ _ (fun d ρ2 q2 M2 v2 H2 A2 S2 r2 => q2 M2 v2 H2 A2 (S1.trans S2) r2) p⟩
    | false => exact p M1 _ H1 A1 S1 (.bl false)
theorem qe_or (ha : QE X Φ a wa) (hb : QE X Φ (.BoolOp .Or (b :: rest) pos) wb) : QE X Φ (.BoolOp .Or (a :: b :: rest) pos) (wOrV wa wb) := by
  refine ⟨fun ρ Q Q' h q => ha.mono ρ _ _ (fun x ρ1 q1 => isB_mono (fun c p => ?_) q1) q, PEw (pe_or ha.run hb.run) fun σ H Q q => ?_⟩
  · cases c with
    | false => exact hb.mono ρ1 _ _ h p
    | true => exact h _ _ p
  · obtain ⟨M, ρ, A, q⟩ := q
    refine ⟨M, ρ, A, ha.mono ρ _ _ (fun x ρ1 q1 => ?_) q⟩
    intro M1 v H1 A1 S1 r1
    obtain ⟨c, e, p⟩ := isB_rp r1 q1
    refine ⟨c, e, ?_⟩
    cases c with
    | false => exact ⟨M1, ρ1, A1, hb.mono ρ1 _ _ (fun d ρ2 q2 M2 v2 H2 A2 S2 r2 => q2 M2 v2 H2 A2 (S1.trans S2) r2) p⟩
    | true => exact p M1 _ H1 A1 S1 (.bl true)
theorem qe_not (ha : QE X Φ a wa) : QE X Φ (.UnaryOp .Not a pos) (wNotV wa) := by
  refine ⟨fun ρ Q Q' h q => ha.mono ρ _ _ (fun x ρ1 q1 => isB_mono (fun c p => h _ _ p) q1) q, PEw (pe_not ha.run) fun σ H Q q => ?_⟩
  obtain ⟨M, ρ, A, q⟩ := q
  refine ⟨M, ρ, A, ha.mono ρ _ _ (fun x ρ1 q1 => ?_) q⟩
  intro M1 v H1 A1 S1 r1
  obtain ⟨c, e, p⟩ := isB_rp r1 q1
  exact ⟨c, e, p M1 _ H1 A1 S1 (.bl _)⟩
def wIf (t : WT) (wa wb : WE) : WE := fun ρ Q => t ρ fun c ρ1 => if c = true then wa ρ1 Q else wb ρ1 Q
theorem qe_ifExp {c : Expr} (hc : QT X Φ c ta) (ha : QE X Φ a wa) (hb : QE X Φ b wb) : QE X Φ (.IfExp c a b pos) (wIf ta wa wb) := by
  refine ⟨fun ρ Q Q' h q => hc.mono ρ _ _ (fun c ρ1 q1 => ?_) q, PEw (pe_ifExp hc.run ha.run hb.run) fun σ H Q q => ?_⟩
  · cases c with
    | true => exact ha.mono ρ1 _ _ h q1
    | false => exact hb.mono ρ1 _ _ h q1
  · obtain ⟨M, ρ, A, q⟩ := q
    refine ⟨M, ρ, A, hc.mono ρ _ _ (fun c ρ1 q1 => ?_) q⟩
    intro M1 H1 A1 S1
    cases c with
    | true => exact ⟨M1, ρ1, A1, ha.mono ρ1 _ _ (fun d ρ2 q2 M2 v2 H2 A2 S2 r2 => q2 M2 v2 H2 A2 (S1.trans S2) r2) q1⟩
    | false => exact ⟨M1, ρ1, A1, hb.mono ρ1 _ _ (fun d ρ2 q2 M2 v2 H2 A2 S2 r2 => q2 M2 v2 H2 A2 (S1.trans S2) r2) q1⟩

/-! ### arguments -/
variable {es : List Expr} {wr : WA}
def wNil : WA := fun ρ Q => Q [] ρ
def wCons (wa : WE) (wr : WA) : WA := fun ρ Q => wa ρ fun x ρ1 => wr ρ1 fun xs ρ2 => Q (x :: xs) ρ2
theorem qa_nil : QA X Φ [] wNil := ⟨fun ρ Q Q' h q => h _ _ q, PAw pa_nil fun σ H Q q => by
  obtain ⟨M, ρ, A, q⟩ := q
  exact q M [] H A .refl .nil⟩
theorem qa_cons (ha : QE X Φ a wa) (hr : QA X Φ es wr) (hs : starEach (a :: es) X.env = (false, eval a X.env) :: starEach es X.env := by rfl) : QA X Φ (a :: es) (wCons wa wr) := by
  refine ⟨fun ρ Q Q' h q => ha.mono ρ _ _ (fun x ρ1 q1 => hr.mono ρ1 _ _ (fun xs ρ2 q2 => h _ _ q2) q1) q, PAw (pa_cons ha.run hr.run hs) fun σ H Q q => ?_⟩
  obtain ⟨M, ρ, A, q⟩ := q
  refine ⟨M, ρ, A, ha.mono ρ _ _ (fun x ρ1 q1 => ?_) q⟩
  intro M1 v H1 A1 S1 r1
  refine ⟨M1, ρ1, A1, hr.mono ρ1 _ _ (fun xs ρ2 q2 => ?_) q1⟩
  intro M2 vs H2 A2 S2 r2
  exact q2 M2 (v :: vs) H2 A2 (S1.trans S2) (.cons (r1.step S2) r2)
theorem lift_call {r : List V → Hp → VK → Prop} {k : KL} (hk : OpL Φ.K r k) (ha : QA X Φ es wr) : ∀ σ H Q, liftE Φ (wCl k wr) σ H Q → tCB r (liftA Φ wr) σ H Q := by
  intro σ H Q ⟨M, ρ, A, q⟩
  refine ⟨M, ρ, A, ha.mono ρ _ _ (fun xs ρ1 q1 => ?_) q⟩
  intro M1 vs H1 A1 S1 r1
  refine hk M1 H1 vs xs _ Q r1 (fun b hb => let ⟨_, z, _⟩ := A1.lst b hb; ⟨_, z⟩) q1 fun z v' H' p s r' => ?_
  exact p M1 v' H' (A1.same s) (S1.trans (step_same s)) r'
theorem qe_callB {id : String} {r : List V → Hp → VK → Prop} {k : KL} {x : Str} {p : Pos} (hc : CallR X (.builtin id) r) (hk : OpL Φ.K r k) (km : MonoL k) (hg : Gl X x) (hm : X.mg x = none) (hv : bootBuiltins x = some (.builtin id)) (ha : QA X Φ (e :: es) wr) (hn : x ≠ "__name__" := by decide) (hdb : (x == ("__debug__" : Str)) = false := by decide)
    (he : starEach (e :: es) X.env = (false, eval e X.env) :: starEach es X.env := by rfl) (hpl : (backTo pos (starEach es X.env)).any (·.1) = false := by rfl) : QE X Φ (.Call (.Name x p) (e :: es) [] pos) (wCl k wr) :=
  ⟨fun ρ Q Q' h q => ha.mono ρ _ _ (fun xs ρ1 q1 => km xs _ _ (fun z p => h z ρ1 p) q1) q, PEw (pe_callB hc hg hm hv ha.run hn hdb he hpl) (lift_call hk ha)⟩
theorem qe_callTy {T : String} {r : List V → Hp → VK → Prop} {k : KL} {x : Str} {p : Pos} (hc : CallR X (.type T) r) (hk : OpL Φ.K r k) (km : MonoL k) (hg : Gl X x) (hm : X.mg x = none) (hv : bootBuiltins x = some (.type T)) (ha : QA X Φ (e :: es) wr) (hn : x ≠ "__name__" := by decide) (hdb : (x == ("__debug__" : Str)) = false := by decide)
    (he : starEach (e :: es) X.env = (false, eval e X.env) :: starEach es X.env := by rfl) (hpl : (backTo pos (starEach es X.env)).any (·.1) = false := by rfl) : QE X Φ (.Call (.Name x p) (e :: es) [] pos) (wCl k wr) :=
  ⟨fun ρ Q Q' h q => ha.mono ρ _ _ (fun xs ρ1 q1 => km xs _ _ (fun z p => h z ρ1 p) q1) q, PEw (pe_callTy hc hg hm hv ha.run hn hdb he hpl) (lift_call hk ha)⟩
/-- one argument, read at once -/
def Op1L (K : PySem.W.Frag) (r : List V → Hp → VK → Prop) (k : K1) : Prop := Op1 K (fun v => r [v]) k
theorem lift_call1 {r : List V → Hp → VK → Prop} {k : K1} (hk : Op1L Φ.K r k) (ha : QB X Φ e wa) (mk : ∀ ta : TA, PA X [e] ta → PE X c (tCB r ta)) (km : Mono1 k)
    (hs : starEach (e :: []) X.env = (false, eval e X.env) :: starEach [] X.env := by rfl) : QE X Φ c (wUn k wa) := by
  refine ⟨fun ρ Q Q' h q => ha.mono ρ _ _ (fun x ρ1 q1 => km x _ _ (fun z p => h z ρ1 p) q1) q, PEw (mk _ (pa_cons ha.run pa_nil hs)) fun σ H Q ⟨M, ρ, A, q⟩ => ?_⟩
  refine ⟨M, ρ, A, ha.mono ρ _ _ (fun x ρ1 q1 => ?_) q⟩
  intro M1 v H1 A1 S1 r1
  refine hk M1 H1 v x _ Q r1 (fun b hb => let ⟨_, z, _⟩ := A1.lst b hb; ⟨_, z⟩) q1 fun z v' H' p s r' => ?_
  exact p M1 v' H' (A1.same s) (S1.trans (step_same s)) r'
theorem qe_b1 {id : String} {r : List V → Hp → VK → Prop} {k : K1} {x : Str} {p : Pos} (hc : CallR X (.builtin id) r) (hk : Op1L Φ.K r k) (km : Mono1 k) (hg : Gl X x) (hm : X.mg x = none) (hv : bootBuiltins x = some (.builtin id)) (ha : QB X Φ e wa) (hn : x ≠ "__name__" := by decide) (hdb : (x == ("__debug__" : Str)) = false := by decide)
    (he : starEach (e :: []) X.env = (false, eval e X.env) :: starEach [] X.env := by rfl) (hpl : (backTo pos (starEach [] X.env)).any (·.1) = false := by rfl) : QE X Φ (.Call (.Name x p) [e] [] pos) (wUn k wa) :=
  lift_call1 hk ha (fun _ h => pe_callB hc hg hm hv h hn hdb he hpl) km he
theorem qe_t1 {T : String} {r : List V → Hp → VK → Prop} {k : K1} {x : Str} {p : Pos} (hc : CallR X (.type T) r) (hk : Op1L Φ.K r k) (km : Mono1 k) (hg : Gl X x) (hm : X.mg x = none) (hv : bootBuiltins x = some (.type T)) (ha : QB X Φ e wa) (hn : x ≠ "__name__" := by decide) (hdb : (x == ("__debug__" : Str)) = false := by decide)
    (he : starEach (e :: []) X.env = (false, eval e X.env) :: starEach [] X.env := by rfl) (hpl : (backTo pos (starEach [] X.env)).any (·.1) = false := by rfl) : QE X Φ (.Call (.Name x p) [e] [] pos) (wUn k wa) :=
  lift_call1 hk ha (fun _ h => pe_callTy hc hg hm hv h hn hdb he hpl) km he
/-- (a, b, ..) -/
def wTup (wr : WA) : WE := fun ρ Q => wr ρ fun xs ρ1 => xs.length ≤ sizeLine ∧ Q (.tup xs) ρ1
theorem qe_tup {x1} (ha : QA X Φ es wr) : QE X Φ (.Tuple es x1 pos) (wTup wr) := by
  refine ⟨fun ρ Q Q' h q => ha.mono ρ _ _ (fun xs ρ1 q1 => ⟨q1.1, h _ _ q1.2⟩) q, PEw (pe_tup ha.run) fun σ H Q q => ?_⟩
  obtain ⟨M, ρ, A, q⟩ := q
  refine ⟨M, ρ, A, ha.mono ρ _ _ (fun xs ρ1 q1 => ?_) q⟩
  intro M1 vs H1 A1 S1 r1
  refine ⟨by rw [r1.length]; exact q1.1, fun p hp => ?_⟩
  have s := same_upd (o := .tup vs) hp
  exact q1.2 M1 _ _ (A1.same s) (S1.trans (step_same s)) (.tup upd_same (r1.step (step_same s)))

/-! ### new lists: of the def's own, or as values -/
/-- a new list: in M, at no slot -/
structure NewL (Φ : Cl) (M : Addr → Prop) (σ : L2.St) (H : Hp) (ρ : Ev) (p : Addr) (acc : List V) (ds : List D) : Prop where
  m : M p
  h : H p = some (.lst acc)
  r : RpAll Φ.K M H acc ds
  h0 : Φ.H0 p = Option.none
  t : Φ.T p = Option.none
  n : ∀ (i : Nat) (w : Bool) (ys : List D), ρ[i]? = some (.own w ys) → σ[i]? ≠ some (some (.ref p))
  f : ∀ (i : Nat) (w : Bool) (F : Addr → Prop) (P : (Addr → Prop) → Hp → Addr → Prop), ρ[i]? = some (.obj w F P) → ¬ F p
def liftF (Φ : Cl) (w : WA) : TE := fun σ H Q => ∃ M ρ, Abs Φ M σ H ρ ∧ w ρ fun xs ρ' => ∀ M' p vs H', Abs Φ M' σ H' ρ' → Step M H M' H' → NewL Φ M' σ H' ρ' p vs xs → Q (.ref p) H'
structure QF (X : Cx) (Φ : Cl) (e : Expr) (w : WA) : Prop where
  mono : ∀ ρ Q Q', (∀ x ρ', Q x ρ' → Q' x ρ') → w ρ Q → w ρ Q'
  run : PE X e (liftF Φ w)
theorem Abs.add {M : Addr → Prop} {σ : L2.St} {H : Hp} {ρ : Ev} (A : Abs Φ M σ H ρ) {p : Addr} {vs : List V} {xs : List D} (hp : H p = none) (rr : RpAll Φ.K M H vs xs) :
    Abs Φ (more M p) σ (upd H p (.lst vs)) ρ ∧ Step M H (more M p) (upd H p (.lst vs)) ∧ NewL Φ (more M p) σ (upd H p (.lst vs)) ρ p vs xs := by
  have st : Step M H (more M p) (upd H p (.lst vs)) := ⟨fun a o hm h => ⟨fun z => z.elim hm (fun y => ne_of_none h hp y), same_upd hp a o h⟩, fun a xs h => same_upd hp a _ h, fun a o u h => same_upd hp a _ h⟩
  have h0 : Φ.H0 p = none := by
    cases q : Φ.H0 p with
    | none => rfl
    | some o =>
      by_cases hw : Φ.W p
      · obtain ⟨vs, z, _⟩ := A.lst p (A.m0 p (A.wm p hw))
        rw [hp] at z; cases z
      · have := A.keep p o q hw
        rw [hp] at this; cases this
  have ht : Φ.T p = none := by
    cases q : Φ.T p with
    | none => rfl
    | some o => have := (A.hold p o q).2; rw [hp] at this; cases this
  refine ⟨⟨A.len, fun i e o h1 h2 => ?_, A.inj, fun a h => ?_, fun a h => .inl (A.m0 a h), fun a o h1 h2 => same_upd hp a o (A.keep a o h1 h2), A.wm, fun a o h => ⟨.inl (A.hold a o h).1, same_upd hp a o (A.hold a o h).2⟩, A.injd, A.tabs st fun P ps m h => ⟨.inl m, same_upd hp _ _ h⟩, A.far⟩, st, ⟨.inr rfl, upd_same, rr.step st, h0, ht, fun i w ys h1 h2 => ?_, fun i w F P h1 hf => ?_⟩⟩
  · have q := A.slot i e o h1 h2
    cases e with
    | un => trivial
    | d x => obtain ⟨v, e1, r⟩ := q; exact ⟨v, e1, r.step st⟩
    | own w xs => obtain ⟨a, ws, e1, m, h, r, z⟩ := q; exact ⟨a, ws, e1, .inl m, same_upd hp _ _ h, r.step st, z⟩
    | dic ks => obtain ⟨a, P, w, ws, e1, m, h, r, z⟩ := q; exact ⟨a, P, w, ws, e1, .inl m, same_upd hp _ _ h, r.step st, z⟩
    | obj w F P =>
      obtain ⟨a, e1, f, g, r⟩ := q
      refine ⟨a, e1, fun b hb => ⟨.inl (f b hb).1, (f b hb).2⟩, g, g.1 _ _ _ _ _ st (fun b hb => ?_) r⟩
      obtain ⟨o, hb', _⟩ := A.lst b (f b hb).1
      rw [hb', same_upd hp b o hb']
  · rcases h with h | h
    · obtain ⟨ws, q, mu⟩ := A.lst a h
      exact ⟨ws, same_upd hp _ _ q, mu⟩
    · rw [h]; exact ⟨_, upd_same, trivial⟩
  · obtain ⟨a, ws, e1, m, h, r, z⟩ := A.slot i _ _ h1 h2
    cases e1
    rw [hp] at h; cases h
  · have hi : i < σ.length := by rw [A.len]; exact (List.getElem?_eq_some_iff.mp h1).1
    obtain ⟨a, e1, f, g, r⟩ := A.slot i _ _ h1 (List.getElem?_eq_getElem hi)
    obtain ⟨o, hb', _⟩ := A.lst p (f p hf).1
    rw [hp] at hb'; cases hb'
/-- where no slot holds it as its own it may be taken as a value -/
theorem Abs.drop {M : Addr → Prop} {σ : L2.St} {H : Hp} {ρ : Ev} (A : Abs Φ M σ H ρ) {p : Addr} {vs : List V} {xs : List D} (N : NewL Φ M σ H ρ p vs xs) : Abs Φ (but M p) σ H ρ ∧ Step M H (but M p) H ∧ Rp Φ.K (but M p) H (.ref p) (.lst xs) := by
  have st : Step M H (but M p) H := ⟨fun b o hb hh => ⟨fun z => hb z.1, hh⟩, fun _ _ q => q, fun _ _ _ q => q⟩
  refine ⟨⟨A.len, fun i e o h1 h2 => ?_, A.inj, fun a h => A.lst a h.1, fun a h => ⟨A.m0 a h, Cl.fresh_ne (M := M) (σ := σ) (H := H) (ρ := ρ) ok.trk N.h0 a h⟩, A.keep, A.wm, fun a o h => ⟨⟨(A.hold a o h).1, fun y => by rw [y, N.t] at h; cases h⟩, (A.hold a o h).2⟩, A.injd, A.tabs st fun P ps m h => ⟨⟨m, fun y => by rw [y, N.h] at h; cases h⟩, h⟩, A.far⟩, st, .lst (fun z => z.2 rfl) N.h (N.r.step st)⟩
  have q := A.slot i e o h1 h2
  cases e with
  | un => trivial
  | d x => obtain ⟨v, e1, r⟩ := q; exact ⟨v, e1, r.step st⟩
  | own w xs =>
    obtain ⟨a, ws, e1, m, h, r, z⟩ := q
    refine ⟨a, ws, e1, ⟨m, fun y => ?_⟩, h, r.step st, z⟩
    subst y; subst e1
    exact N.n i w xs h1 h2
  | dic ks =>
    obtain ⟨a, P, w, ws, e1, m, h, r, z⟩ := q
    refine ⟨a, P, w, ws, e1, ⟨m, fun y => ?_⟩, h, r.step st, z⟩
    subst y
    rw [N.h] at h; cases h
  | obj w F P =>
    obtain ⟨a, e1, f, g, r⟩ := q
    exact ⟨a, e1, fun b hb => ⟨⟨(f b hb).1, fun y => N.f i w F P h1 (y ▸ hb)⟩, (f b hb).2⟩, g, g.1 _ _ _ _ _ st (fun _ _ => rfl) r⟩
theorem QF.qe {w : WA} (h : QF X Φ e w) : QE X Φ e (fun ρ Q => w ρ fun xs ρ' => Q (.lst xs) ρ') := by
  refine ⟨fun ρ Q Q' g q => h.mono ρ _ _ (fun xs ρ1 q1 => g _ _ q1) q, PEw h.run fun σ H Q q => ?_⟩
  obtain ⟨M, ρ, A, q⟩ := q
  refine ⟨M, ρ, A, h.mono ρ _ _ (fun xs ρ1 q1 => ?_) q⟩
  intro M' p vs H' A' S' N'
  obtain ⟨A2, S2, r2⟩ := A'.drop N'
  exact q1 _ _ _ A2 (S'.trans S2) r2
def wLst (wr : WA) : WA := fun ρ Q => wr ρ fun xs ρ1 => xs.length ≤ sizeLine ∧ Q xs ρ1
theorem qf_lst (ha : QA X Φ es wr) : QF X Φ (.List es pos) (wLst wr) := by
  refine ⟨fun ρ Q Q' h q => ha.mono ρ _ _ (fun xs ρ1 q1 => ⟨q1.1, h _ _ q1.2⟩) q, PEw (pe_lst ha.run) fun σ H Q q => ?_⟩
  obtain ⟨M, ρ, A, q⟩ := q
  refine ⟨M, ρ, A, ha.mono ρ _ _ (fun xs ρ1 q1 => ?_) q⟩
  intro M1 vs H1 A1 S1 r1
  refine ⟨by rw [r1.length]; exact q1.1, fun p hp => ?_⟩
  obtain ⟨A2, S2, N2⟩ := A1.add hp r1
  exact q1.2 _ p vs _ A2 (S1.trans S2) N2
/-- a built-in's call of one argument that gives a new list -/
abbrev KF := D → (List D → Prop) → Prop
def MonoF (k : KF) : Prop := ∀ x P P', (∀ z, P z → P' z) → k x P → k x P'
def OpF (K : PySem.W.Frag) (r : List V → Hp → VK → Prop) (k : KF) : Prop := ∀ (M : Addr → Prop) (H : Hp) (v : V) (x : D) (P : List D → Prop) (Q : VK), RpB K M H v x → k x P →
  (∀ zs ws p, P zs → H p = none → RpAll K M H ws zs → Q (.ref p) (upd H p (.lst ws))) → r [v] H Q
def wUnF (k : KF) (wa : WE) : WA := fun ρ Q => wa ρ fun x ρ1 => k x fun zs => Q zs ρ1
theorem lift_callF {r : List V → Hp → VK → Prop} {k : KF} (hk : OpF Φ.K r k) (ha : QB X Φ e wa) (mk : ∀ ta : TA, PA X [e] ta → PE X c (tCB r ta)) (km : MonoF k)
    (hs : starEach (e :: []) X.env = (false, eval e X.env) :: starEach [] X.env := by rfl) : QF X Φ c (wUnF k wa) := by
  refine ⟨fun ρ Q Q' h q => ha.mono ρ _ _ (fun x ρ1 q1 => km x _ _ (fun z p => h z ρ1 p) q1) q, PEw (mk _ (pa_cons ha.run pa_nil hs)) fun σ H Q ⟨M, ρ, A, q⟩ => ?_⟩
  refine ⟨M, ρ, A, ha.mono ρ _ _ (fun x ρ1 q1 => ?_) q⟩
  intro M1 v H1 A1 S1 r1
  refine hk M1 H1 v x _ Q r1 q1 fun zs ws p pz hp rz => ?_
  obtain ⟨A2, S2, N2⟩ := A1.add hp rz
  exact pz _ p ws _ A2 (S1.trans S2) N2
theorem qf_b1 {id : String} {r : List V → Hp → VK → Prop} {k : KF} {x : Str} {p : Pos} (hc : CallR X (.builtin id) r) (hk : OpF Φ.K r k) (km : MonoF k) (hg : Gl X x) (hm : X.mg x = none) (hv : bootBuiltins x = some (.builtin id)) (ha : QB X Φ e wa) (hn : x ≠ "__name__" := by decide) (hdb : (x == ("__debug__" : Str)) = false := by decide)
    (he : starEach (e :: []) X.env = (false, eval e X.env) :: starEach [] X.env := by rfl) (hpl : (backTo pos (starEach [] X.env)).any (·.1) = false := by rfl) : QF X Φ (.Call (.Name x p) [e] [] pos) (wUnF k wa) :=
  lift_callF hk ha (fun _ h => pe_callB hc hg hm hv h hn hdb he hpl) km he
theorem qf_t1 {T : String} {r : List V → Hp → VK → Prop} {k : KF} {x : Str} {p : Pos} (hc : CallR X (.type T) r) (hk : OpF Φ.K r k) (km : MonoF k) (hg : Gl X x) (hm : X.mg x = none) (hv : bootBuiltins x = some (.type T)) (ha : QB X Φ e wa) (hn : x ≠ "__name__" := by decide) (hdb : (x == ("__debug__" : Str)) = false := by decide)
    (he : starEach (e :: []) X.env = (false, eval e X.env) :: starEach [] X.env := by rfl) (hpl : (backTo pos (starEach [] X.env)).any (·.1) = false := by rfl) : QF X Φ (.Call (.Name x p) [e] [] pos) (wUnF k wa) :=
  lift_callF hk ha (fun _ h => pe_callTy hc hg hm hv h hn hdb he hpl) km he
end
end AL
set_option Elab.async false
set_option linter.all false
set_option maxHeartbeats 4000000
set_option maxRecDepth 100000
namespace AL
open PySem PySem.Spec PyProof.Rows L2

section
variable {X : Cx} {Φ : Cl} [ok : ClOk Φ] {pos : Pos} {e a b c : Expr} {wa wb wc : WE} {ta : WT} {st : Stmt} {rest : List Stmt} {w u : WS}

/-! ### blocks -/
def wNext : WS := fun R ρ => R.nx ρ
def wSeq (w u : WS) : WS := fun R ρ => w { R with nx := fun ρ' => u R ρ' } ρ
def wBreak : WS := fun R ρ => R.bk ρ
def wCont : WS := fun R ρ => R.ct ρ
def wDrop (wa : WE) : WS := fun R ρ => wa ρ fun _ ρ' => R.nx ρ'
def wRet (wa : WE) : WS := fun R ρ => wa ρ R.rt
def wRetN : WS := fun R ρ => R.rt .non ρ
def wIfS (t : WT) (w u : WS) : WS := fun R ρ => t ρ fun b ρ' => if b = true then w R ρ' else u R ρ'
def wNever : WS := fun _ _ => False
theorem Step.ends {Φ : Cl} {M M' : Addr → Prop} {H H' : Hp} {D : Ends} (s : Step M H M' H') : (absEnds Φ M H D).Imp (absEnds Φ M' H' D) :=
  ⟨fun ρ h M2 σ2 H2 A S => h M2 σ2 H2 A (s.trans S), fun x ρ h M2 σ2 v H2 A S r => h M2 σ2 v H2 A (s.trans S) r, fun ρ h M2 σ2 H2 A S => h M2 σ2 H2 A (s.trans S), fun ρ h M2 σ2 H2 A S => h M2 σ2 H2 A (s.trans S)⟩
theorem qss_nil : QSs X Φ [] wNext := ⟨fun ρ R R' h q => h.nx ρ q, PSsw pss_nil fun D σ H ⟨M, ρ, A, q⟩ => q M σ H A .refl⟩
theorem qs_pass : QS X Φ (.Pass pos) wNext := ⟨fun ρ R R' h q => h.nx ρ q, PSw ps_pass fun D σ H ⟨M, ρ, A, q⟩ => q M σ H A .refl⟩
theorem qs_break : QS X Φ (.Break pos) wBreak := ⟨fun ρ R R' h q => h.bk ρ q, PSw ps_break fun D σ H ⟨M, ρ, A, q⟩ => q M σ H A .refl⟩
theorem qs_continue : QS X Φ (.Continue pos) wCont := ⟨fun ρ R R' h q => h.ct ρ q, PSw ps_continue fun D σ H ⟨M, ρ, A, q⟩ => q M σ H A .refl⟩
theorem qss_cons (h1 : QS X Φ st w) (h2 : QSs X Φ rest u) : QSs X Φ (st :: rest) (wSeq w u) := by
  refine ⟨fun ρ R R' h q => h1.mono ρ _ _ (h.nxTo fun ρ' q' => h2.mono ρ' R R' h q') q, PSsw (pss_cons h1.run h2.run) fun D σ H ⟨M, ρ, A, q⟩ => ?_⟩
  refine ⟨M, ρ, A, h1.mono ρ { absEnds Φ M H D with nx := fun ρ' => u (absEnds Φ M H D) ρ' } _ ⟨fun ρ' q' => ?_, fun _ _ h => h, fun _ h => h, fun _ h => h⟩ q⟩
  intro M' σ' H' A' S'
  exact ⟨M', ρ', A', h2.mono ρ' _ _ S'.ends q'⟩
theorem qss_one (h1 : QS X Φ st w) : QSs X Φ [st] w := ⟨h1.mono, pss_one h1.run⟩
theorem qs_never : QS X Φ st wNever := ⟨fun _ _ _ _ q => q.elim, PSw ps_never fun _ _ _ ⟨_, _, _, q⟩ => q.elim⟩
theorem qss_never {sts : List Stmt} : QSs X Φ sts wNever := ⟨fun _ _ _ _ q => q.elim, PSsw pss_never fun _ _ _ ⟨_, _, _, q⟩ => q.elim⟩
theorem qs_expr (he : QE X Φ e wa) (hs : swapsWith e none pos.line X.env = pure false := by rfl) : QS X Φ (.Expr e pos) (wDrop wa) := by
  refine ⟨fun ρ R R' h q => he.mono ρ _ _ (fun x ρ' q' => h.nx ρ' q') q, PSw (ps_expr he.run hs) fun D σ H ⟨M, ρ, A, q⟩ => ?_⟩
  exact ⟨M, ρ, A, he.mono ρ _ _ (fun x ρ' q' M' v H' A' S' r' => q' M' σ H' A' S') q⟩
theorem qs_ret (he : QE X Φ e wa) : QS X Φ (.Return (some e) pos) (wRet wa) := by
  refine ⟨fun ρ R R' h q => he.mono ρ _ _ (fun x ρ' q' => h.rt x ρ' q') q, PSw (ps_ret he.run) fun D σ H ⟨M, ρ, A, q⟩ => ?_⟩
  exact ⟨M, ρ, A, he.mono ρ _ _ (fun x ρ' q' M' v H' A' S' r' => q' M' σ v H' A' S' r') q⟩
theorem qs_retN : QS X Φ (.Return none pos) wRetN := ⟨fun ρ R R' h q => h.rt _ ρ q, PSw ps_retN fun D σ H ⟨M, ρ, A, q⟩ => q M σ .non H A .refl .non⟩
theorem qs_if {ss us : List Stmt} (hc : QT X Φ c ta) (ha : QSs X Φ ss w) (hb : QSs X Φ us u) : QS X Φ (.If c ss us pos) (wIfS ta w u) := by
  refine ⟨fun ρ R R' h q => hc.mono ρ _ _ (fun d ρ' q' => ?_) q, PSw (ps_if hc.run ha.run hb.run) fun D σ H ⟨M, ρ, A, q⟩ => ?_⟩
  · cases d with
    | true => exact ha.mono ρ' R R' h q'
    | false => exact hb.mono ρ' R R' h q'
  · refine ⟨M, ρ, A, hc.mono ρ _ _ (fun d ρ' q' => ?_) q⟩
    intro M' H' A' S'
    cases d with
    | true => exact ⟨M', ρ', A', ha.mono ρ' _ _ S'.ends q'⟩
    | false => exact ⟨M', ρ', A', hb.mono ρ' _ _ S'.ends q'⟩

/-! ### targets -/
abbrev WG := D → Ev → (Ev → Prop) → Prop
abbrev WGs := List D → Ev → (Ev → Prop) → Prop
def liftG (Φ : Cl) (w : WG) : TG := fun v σ H Q => ∃ M ρ x, Abs Φ M σ H ρ ∧ Rp Φ.K M H v x ∧ w x ρ fun ρ' => ∀ M' σ' H', Abs Φ M' σ' H' ρ' → Step M H M' H' → Q σ' H'
def liftGs (Φ : Cl) (w : WGs) : TGs := fun vs σ H Q => ∃ M ρ xs, Abs Φ M σ H ρ ∧ RpAll Φ.K M H vs xs ∧ w xs ρ fun ρ' => ∀ M' σ' H', Abs Φ M' σ' H' ρ' → Step M H M' H' → Q σ' H'
structure QG (X : Cx) (Φ : Cl) (tg : Expr) (w : WG) : Prop where
  mono : ∀ x ρ Q Q', (∀ ρ', Q ρ' → Q' ρ') → w x ρ Q → w x ρ Q'
  run : PG X tg (liftG Φ w)
structure QGs (X : Cx) (Φ : Cl) (tg : List Expr) (w : WGs) : Prop where
  mono : ∀ x ρ Q Q', (∀ ρ', Q ρ' → Q' ρ') → w x ρ Q → w x ρ Q'
  run : PGs X tg (liftGs Φ w)
theorem PGw {tg : Expr} {t t' : TG} (h : PG X tg t) (i : ∀ v σ H Q, t' v σ H Q → t v σ H Q) : PG X tg t' := ⟨fun pins s σ H v u Q I r q => h.run pins s σ H v u Q I r (i v σ H Q q)⟩
theorem PGsw {tg : List Expr} {t t' : TGs} (h : PGs X tg t) (i : ∀ v σ H Q, t' v σ H Q → t v σ H Q) : PGs X tg t' := ⟨fun pins s σ H v u Q I r q => h.run pins s σ H v u Q I r (i v σ H Q q)⟩
def wName (i : Nat) : WG := fun x ρ Q => Q (ρ.set i (.d x))
theorem Abs.store {M : Addr → Prop} {σ : L2.St} {H : Hp} {ρ : Ev} (A : Abs Φ M σ H ρ) {i : Nat} {v : V} {x : D} (r : Rp Φ.K M H v x) : Abs Φ M (σ.set i (some v)) H (ρ.set i (.d x)) := by
  refine ⟨by rw [List.length_set, List.length_set]; exact A.len, fun j en o h1 h2 => ?_, fun j k p w1 w2 ys zs h1 h2 h3 h4 => ?_, A.lst, A.m0, A.keep, A.wm, A.hold, fun j k b ys zs h1 h2 h3 h4 => by
    obtain ⟨n1, g1⟩ := not_dic (fun _ => En.noConfusion) h1
    obtain ⟨n2, g2⟩ := not_dic (fun _ => En.noConfusion) h2
    rw [List.getElem?_set_ne n1] at h3
    rw [List.getElem?_set_ne n2] at h4
    exact A.injd j k b ys zs g1 g2 h3 h4, A.tab, A.far.setB⟩
  · by_cases hj : i = j
    · subst hj
      have hi : i < ρ.length := by have := (List.getElem?_eq_some_iff.mp h1).1; rwa [List.length_set] at this
      rw [List.getElem?_set_self hi] at h1
      cases h1
      rw [List.getElem?_set_self (by rw [A.len]; exact hi)] at h2
      cases h2
      exact ⟨_, rfl, r⟩
    · rw [List.getElem?_set_ne hj] at h1 h2
      exact A.slot j en o h1 h2
  · by_cases hj : i = j
    · subst hj
      have hi : i < ρ.length := by have := (List.getElem?_eq_some_iff.mp h1).1; rwa [List.length_set] at this
      rw [List.getElem?_set_self hi] at h1
      cases h1
    · by_cases hk : i = k
      · subst hk
        have hi : i < ρ.length := by have := (List.getElem?_eq_some_iff.mp h2).1; rwa [List.length_set] at this
        rw [List.getElem?_set_self hi] at h2
        cases h2
      · rw [List.getElem?_set_ne hj] at h1 h3
        rw [List.getElem?_set_ne hk] at h2 h4
        exact A.inj j k p w1 w2 ys zs h1 h2 h3 h4
theorem Abs.storeOwn {M : Addr → Prop} {σ : L2.St} {H : Hp} {ρ : Ev} (A : Abs Φ M σ H ρ) {i : Nat} {p : Addr} {vs : List V} {xs : List D} (N : NewL Φ M σ H ρ p vs xs) : Abs Φ M (σ.set i (some (.ref p))) H (ρ.set i (.own false xs)) := by
  refine ⟨by rw [List.length_set, List.length_set]; exact A.len, fun j en o h1 h2 => ?_, fun j k q w1 w2 ys zs h1 h2 h3 h4 => ?_, A.lst, A.m0, A.keep, A.wm, A.hold, fun j k b ys zs h1 h2 h3 h4 => by
    obtain ⟨n1, g1⟩ := not_dic (fun _ => En.noConfusion) h1
    obtain ⟨n2, g2⟩ := not_dic (fun _ => En.noConfusion) h2
    rw [List.getElem?_set_ne n1] at h3
    rw [List.getElem?_set_ne n2] at h4
    exact A.injd j k b ys zs g1 g2 h3 h4, A.tab, A.far.set (fun k hk => List.getElem?_set_ne (fun z => hk z.symm)) (fun _ _ _ => En.noConfusion) (fun j w F P a _ h1 h3 => by
      have hi : i < σ.length := by have := (List.getElem?_eq_some_iff.mp h3).1; rwa [List.length_set] at this
      rw [List.getElem?_set_self hi] at h3
      cases h3
      exact N.f j w F P h1)⟩
  · by_cases hj : i = j
    · subst hj
      have hi : i < ρ.length := by have := (List.getElem?_eq_some_iff.mp h1).1; rwa [List.length_set] at this
      rw [List.getElem?_set_self hi] at h1
      cases h1
      rw [List.getElem?_set_self (by rw [A.len]; exact hi)] at h2
      cases h2
      exact ⟨p, vs, rfl, N.m, N.h, N.r, by rw [if_neg Bool.false_ne_true]; exact N.h0, N.t⟩
    · rw [List.getElem?_set_ne hj] at h1 h2
      exact A.slot j en o h1 h2
  · by_cases hj : i = j
    · by_cases hk : i = k
      · rw [← hj, ← hk]
      · subst hj
        have hi : i < ρ.length := by have := (List.getElem?_eq_some_iff.mp h1).1; rwa [List.length_set] at this
        rw [List.getElem?_set_ne hk] at h2 h4
        rw [List.getElem?_set_self (by rw [A.len]; exact hi)] at h3
        cases h3
        exact absurd h4 (N.n k _ _ h2)
    · by_cases hk : i = k
      · subst hk
        have hi : i < ρ.length := by have := (List.getElem?_eq_some_iff.mp h2).1; rwa [List.length_set] at this
        rw [List.getElem?_set_ne hj] at h1 h3
        rw [List.getElem?_set_self (by rw [A.len]; exact hi)] at h4
        cases h4
        exact absurd h3 (N.n j _ _ h1)
      · rw [List.getElem?_set_ne hj] at h1 h3
        rw [List.getElem?_set_ne hk] at h2 h4
        exact A.inj j k q w1 w2 ys zs h1 h2 h3 h4
theorem qg_name {i : Nat} {x : Str} (hN : X.N.Nodup) (hi : X.N[i]? = some x) (hx : Loc X.env.scope x) (hf : X.fn x = true ∨ X.env.scope.names.lookup x = some .local := by first | exact .inl rfl | exact .inr rfl | assumption) : QG X Φ (.Name x pos) (wName i) :=
  ⟨fun x ρ Q Q' h q => h _ q, PGw (pg_name hN hi hx hf) fun v σ H Q ⟨M, ρ, x, A, r, q⟩ => q M _ H (A.store r) .refl⟩
def wgNil : WGs := fun xs ρ Q => match xs with
  | [] => Q ρ
  | _ => False
def wgCons (g : WG) (r : WGs) : WGs := fun xs ρ Q => match xs with
  | x :: ys => g x ρ fun ρ' => r ys ρ' Q
  | [] => False
theorem qgs_nil : QGs X Φ [] wgNil := by
  refine ⟨fun xs ρ Q Q' h q => ?_, PGsw pgs_nil fun vs σ H Q ⟨M, ρ, xs, A, r, q⟩ => ?_⟩
  · cases xs with
    | nil => exact h _ q
    | cons _ _ => exact q.elim
  · cases r with
    | nil => exact ⟨rfl, q M σ H A .refl⟩
    | cons _ _ => exact q.elim
theorem qgs_cons {tg : Expr} {tgs : List Expr} {g : WG} {r : WGs} (h1 : QG X Φ tg g) (h2 : QGs X Φ tgs r)
    (hs : (assignEach (tg :: tgs) X.env).map (·.2) = assign tg X.env :: (assignEach tgs X.env).map (·.2) := by rfl) : QGs X Φ (tg :: tgs) (wgCons g r) := by
  refine ⟨fun xs ρ Q Q' h q => ?_, PGsw (pgs_cons h1.run h2.run hs) fun vs σ H Q ⟨M, ρ, xs, A, rr, q⟩ => ?_⟩
  · cases xs with
    | nil => exact q.elim
    | cons x ys => exact h1.mono x ρ _ _ (fun ρ' q' => h2.mono ys ρ' _ _ h q') q
  · cases rr with
    | nil => exact q.elim
    | cons r1 r2 =>
      refine ⟨_, _, rfl, M, ρ, _, A, r1, h1.mono _ ρ _ _ (fun ρ' q' => ?_) q⟩
      intro M' σ' H' A' S'
      exact ⟨M', ρ', _, A', r2.step S', h2.mono _ ρ' _ _ (fun ρ2 q2 M2 σ2 H2 A2 S2 => q2 M2 σ2 H2 A2 (S'.trans S2)) q'⟩
def wgTup (n : Nat) (g : WGs) : WG := fun x ρ Q => match x with
  | .tup xs => xs.length = n ∧ g xs ρ Q
  | _ => False
theorem qg_tup {tgs : List Expr} {k : Nat} {g : WGs} {n : Nat} (hc : X.calm = true) (h : QGs X Φ tgs g)
    (hn : (assignEach tgs X.env).length = n := by rfl) (hst : (assignEach tgs X.env).findIdx? (·.1) = none := by rfl) : QG X Φ (.Tuple tgs k pos) (wgTup n g) := by
  refine ⟨fun x ρ Q Q' i q => ?_, PGw (pg_tup hc h.run hn hst) fun v σ H Q ⟨M, ρ, x, A, r, q⟩ => ?_⟩
  · cases x <;> first | exact ⟨q.1, h.mono _ ρ _ _ i q.2⟩ | exact q.elim
  · cases r with
    | tup hh rr => exact ⟨_, _, rfl, .of hh, by rw [rr.length]; exact q.1, M, ρ, _, A, rr, q.2⟩
    | _ => exact q.elim
def wAsg (wa : WE) (g : WG) : WS := fun R ρ => wa ρ fun x ρ' => g x ρ' R.nx
theorem lift_asg {g : WG} (he : QE X Φ e wa) (hgm : ∀ x ρ Q Q', (∀ ρ', Q ρ' → Q' ρ') → g x ρ Q → g x ρ Q') : ∀ D σ H, liftS Φ (wAsg wa g) D σ H → tAsg (liftE Φ wa) (liftG Φ g) D σ H := by
  intro D σ H ⟨M, ρ, A, q⟩
  refine ⟨M, ρ, A, he.mono ρ _ _ (fun x ρ' q' => ?_) q⟩
  intro M' v H' A' S' r'
  exact ⟨M', ρ', x, A', r', hgm x ρ' _ _ (fun ρ2 q2 M2 σ2 H2 A2 S2 => q2 M2 σ2 H2 A2 (S'.trans S2)) q'⟩
theorem wAsg_mono {g : WG} (he : QE X Φ e wa) (hgm : ∀ x ρ Q Q', (∀ ρ', Q ρ' → Q' ρ') → g x ρ Q → g x ρ Q') : ∀ ρ R R', AEnds.Imp R R' → wAsg wa g R ρ → wAsg wa g R' ρ :=
  fun ρ R R' h q => he.mono ρ _ _ (fun x ρ' q' => hgm x ρ' _ _ h.nx q') q
theorem qs_asg {tg : Expr} {g : WG} (he : QE X Φ e wa) (hg : QG X Φ tg g) (hs : swapsWithSole [tg] e pos.line X.env = pure false := by rfl) (hw : swappedStores [tg] e X.env = pure none := by rfl)
    (h1 : (assignEach [tg] X.env).map (·.2) = [assign tg X.env] := by rfl) : QS X Φ (.Assign [tg] e pos) (wAsg wa g) :=
  ⟨wAsg_mono he hg.mono, PSw (ps_asg he.run hg.run hs hw h1) (lift_asg he hg.mono)⟩
theorem qs_set {i : Nat} {x : Str} {pos' : Pos} (hN : X.N.Nodup) (hi : X.N[i]? = some x) (hx : Loc X.env.scope x) (he : QE X Φ e wa) (hs : swapsWith e (some (.Name x pos')) pos.line X.env = pure false := by rfl) (hf : X.fn x = true ∨ X.env.scope.names.lookup x = some .local := by first | exact .inl rfl | exact .inr rfl | assumption) :
    QS X Φ (.Assign [.Name x pos'] e pos) (wAsg wa (wName i)) := by
  refine ⟨wAsg_mono he fun x ρ Q Q' h q => h _ q, PSw (ps_set hN hi hx he.run hs hf) fun D σ H ⟨M, ρ, A, q⟩ => ?_⟩
  refine ⟨M, ρ, A, he.mono ρ _ _ (fun x ρ' q' => ?_) q⟩
  intro M' v H' A' S' r'
  exact q' M' _ H' (A'.store r') S'
/-- name = a new list, to be changed -/
def wOwn (wa : WA) (i : Nat) : WS := fun R ρ => wa ρ fun xs ρ' => R.nx (ρ'.set i (.own false xs))
theorem qs_own {i : Nat} {x : Str} {pos' : Pos} {wl : WA} (hN : X.N.Nodup) (hi : X.N[i]? = some x) (hx : Loc X.env.scope x) (he : QF X Φ e wl) (hs : swapsWith e (some (.Name x pos')) pos.line X.env = pure false := by rfl) (hf : X.fn x = true ∨ X.env.scope.names.lookup x = some .local := by first | exact .inl rfl | exact .inr rfl | assumption) :
    QS X Φ (.Assign [.Name x pos'] e pos) (wOwn wl i) := by
  refine ⟨fun ρ R R' h q => he.mono ρ _ _ (fun xs ρ' q' => h.nx _ q') q, PSw (ps_set hN hi hx he.run hs hf) fun D σ H ⟨M, ρ, A, q⟩ => ?_⟩
  refine ⟨M, ρ, A, he.mono ρ _ _ (fun xs ρ' q' => ?_) q⟩
  intro M' p vs H' A' S' N'
  exact q' M' _ H' (A'.storeOwn N') S'
/-- a, b = x, y -/
def wPar (i j : Nat) (wr : WA) : WS := fun R ρ => wr ρ fun xs ρ' => match xs with
  | [x, y] => R.nx ((ρ'.set i (.d x)).set j (.d y))
  | _ => False
theorem qs_par {i j : Nat} {x y : Str} {wr : WA} {px py pt : Pos} {kt k2 pt2} (hc : X.calm = true) (hN : X.N.Nodup) (hi : X.N[i]? = some x) (hj : X.N[j]? = some y) (hij : i ≠ j)
    (hx : X.env.scope.names.lookup x = some .local) (hy : X.env.scope.names.lookup y = some .local) (ha : QA X Φ [a, b] wr)
    (hw : swappedStores [.Tuple [.Name x px, .Name y py] kt pt] (.Tuple [a, b] k2 pt2) X.env = pure (some [x, y]))
    (hs : swapsWithSole [.Tuple [.Name x px, .Name y py] kt pt] (.Tuple [a, b] k2 pt2) pos.line X.env = pure false := by rfl) :
    QS X Φ (.Assign [.Tuple [.Name x px, .Name y py] kt pt] (.Tuple [a, b] k2 pt2) pos) (wPar i j wr) := by
  refine ⟨fun ρ R R' h q => ha.mono ρ _ _ (fun xs ρ' q' => ?_) q, PSw (ps_par hc hN hi hj hij hx hy ha.run hw hs) fun D σ H ⟨M, ρ, A, q⟩ => ?_⟩
  · match xs, q' with
    | [x, y], q' => exact h.nx _ q'
  · refine ⟨M, ρ, A, ha.mono ρ _ _ (fun xs ρ' q' => ?_) q⟩
    intro M' vs H' A' S' r'
    match xs, q' with
    | [x, y], q' =>
      cases r' with
      | cons r1 r2 =>
        cases r2 with
        | cons r2 r3 =>
          cases r3
          exact ⟨_, _, rfl, q' M' _ H' ((A'.store r1).store r2) S'⟩
/-- name op= e -/
def wAug (i : Nat) (wa : WE) (k : K2) : WS := fun R ρ => match ρ[i]? with
  | some (.d x) => wa ρ fun y ρ' => k x y fun z => R.nx (ρ'.set i (.d z))
  | _ => False
theorem qs_aug {i : Nat} {x : Str} {op : Operator} {r : R2} {k : K2} {pos' : Pos} (hN : X.N.Nodup) (hi : X.N[i]? = some x) (hx : Loc X.env.scope x) (he : QE X Φ e wa) (ho : PIp X op r) (hk : Op2 Φ.K r k) (km : Mono2 k) (hf : X.fn x = true ∨ X.env.scope.names.lookup x = some .local := by first | exact .inl rfl | exact .inr rfl | assumption) :
    QS X Φ (.AugAssign (.Name x pos') op e pos) (wAug i wa k) := by
  refine ⟨fun ρ R R' h q => ?_, PSw (ps_aug hN hi hx he.run ho hf) fun D σ H ⟨M, ρ, A, q⟩ => ?_⟩
  · unfold wAug at q ⊢
    split at q
    · exact he.mono ρ _ _ (fun y ρ' q' => km _ y _ _ (fun z p => h.nx _ p) q') q
    · exact q.elim
  · unfold wAug at q
    split at q
    · rename_i x' hx'
      have hi : i < σ.length := by rw [A.len]; exact (List.getElem?_eq_some_iff.mp hx').1
      obtain ⟨v, e1, r1⟩ := A.slot i _ _ hx' (List.getElem?_eq_getElem hi)
      refine ⟨v, by rw [List.getElem?_eq_getElem hi, e1], M, ρ, A, he.mono ρ _ _ (fun y ρ' q' => ?_) q⟩
      intro M' u H' A' S' r'
      refine hk M' H' v u x' y _ _ (.inl (r1.step S')) (.inl r') (fun b hb => let ⟨_, z, _⟩ := A'.lst b hb; ⟨_, z⟩) q' fun z v' H2 p s r2 => ?_
      exact p M' _ H2 ((A'.same s).store r2) (S'.trans (step_same s))
    · exact q.elim

/-! ### what a loop walks -/
abbrev WI := Ev → (List D → Ev → Prop) → Prop
/-- J gives the items, one after another, as long as what stands stays -/
structure Gives (K : PySem.W.Frag) (M : Addr → Prop) (H : Hp) (J : It) (xs : List D) : Prop where
  ex : ∃ (G : Hp → Prop) (Y : Nat → Hp → V → Hp → Prop), Walk J xs.length G Y ∧ (∀ M' H', Step M H M' H' → G H') ∧
    ∀ (i : Nat) (M' : Addr → Prop) (H' H2 : Hp) (v : V), Step M H M' H' → Y i H' v H2 → Same H' H2 ∧ ∀ x, xs[i]? = some x → Rp K M' H2 v x
def liftI (Φ : Cl) (w : WI) : TI := fun σ H R => ∃ M ρ, Abs Φ M σ H ρ ∧ w ρ fun xs ρ' => ∀ M' H' J, Abs Φ M' σ H' ρ' → Step M H M' H' → Gives Φ.K M' H' J xs → R J H'
structure QI (X : Cx) (Φ : Cl) (tg it : Expr) (w : WI) : Prop where
  mono : ∀ ρ Q Q', (∀ x ρ', Q x ρ' → Q' x ρ') → w ρ Q → w ρ Q'
  run : PI X tg it (liftI Φ w)
theorem PIw {tg it : Expr} {t t' : TI} (h : PI X tg it t) (i : ∀ σ H Q, t' σ H Q → t σ H Q) : PI X tg it t' := ⟨fun pins s σ H Q I q => h.run pins s σ H Q I (i σ H Q q)⟩
def isL (x : D) (P : List D → Prop) : Prop := match x with
  | .lst xs => P xs
  | _ => False
def isT (x : D) (P : List D → Prop) : Prop := match x with
  | .tup xs => P xs
  | _ => False
theorem isL_mono {z : D} {P P' : List D → Prop} (h : ∀ b, P b → P' b) (q : isL z P) : isL z P' := by
  cases z <;> first | exact h _ q | exact q.elim
theorem isT_mono {z : D} {P P' : List D → Prop} (h : ∀ b, P b → P' b) (q : isT z P) : isT z P' := by
  cases z <;> first | exact h _ q | exact q.elim
def wList (wa : WE) : WI := fun ρ Q => wa ρ fun x ρ' => isL x fun xs => Q xs ρ'
def wTupI (wa : WE) : WI := fun ρ Q => wa ρ fun x ρ' => isT x fun xs => Q xs ρ'
theorem gives_list {K : PySem.W.Frag} {M : Addr → Prop} {H : Hp} {p : Addr} {vs : List V} {xs : List D} (hm : ¬ M p) (hh : H p = some (.lst vs)) (r : RpAll Φ.K M H vs xs) : Gives Φ.K M H (Itl K p) xs := by
  refine ⟨fun H' => SqL K H' p vs, YAt vs, ?_, fun M' H' S => SqL.of (S.st p _ hm hh).2, fun i M' H' H2 v S y => ?_⟩
  · have h := walk_list (K := K) (a := p) (xs := vs)
    rw [r.length] at h
    exact h
  · obtain ⟨e, y⟩ := y
    subst e
    refine ⟨Same.refl _, fun x hx => ?_⟩
    obtain ⟨d, hd, rd⟩ := (r.step S).getV y
    rw [hd] at hx
    cases hx
    exact rd
theorem gives_tup {K : PySem.W.Frag} {M : Addr → Prop} {H : Hp} {p : Addr} {vs : List V} {xs : List D} (hh : H p = some (.tup vs)) (r : RpAll Φ.K M H vs xs) : Gives Φ.K M H (Itt K p) xs := by
  refine ⟨fun H' => SqT K H' p vs, YAt vs, ?_, fun M' H' S => SqT.of (S.tu p _ hh), fun i M' H' H2 v S y => ?_⟩
  · have h := walk_tup (K := K) (a := p) (xs := vs)
    rw [r.length] at h
    exact h
  · obtain ⟨e, y⟩ := y
    subst e
    refine ⟨Same.refl _, fun x hx => ?_⟩
    obtain ⟨d, hd, rd⟩ := (r.step S).getV y
    rw [hd] at hx
    cases hx
    exact rd
theorem qi_list {tg : Expr} (he : QE X Φ e wa) : QI X Φ tg e (wList wa) := by
  refine ⟨fun ρ Q Q' h q => he.mono ρ _ _ (fun x ρ' q' => isL_mono (fun xs p => h xs ρ' p) q') q, PIw (pi_list he.run) fun σ H R ⟨M, ρ, A, q⟩ => ?_⟩
  refine ⟨M, ρ, A, he.mono ρ _ _ (fun x ρ' q' => ?_) q⟩
  intro M' v H' A' S' r'
  cases r' with
  | lst hm hh rr => exact ⟨_, rfl, ⟨_, SqL.of hh⟩, q' M' H' _ A' S' (gives_list hm hh rr)⟩
  | _ => exact q'.elim
theorem qi_tup {tg : Expr} (he : QE X Φ e wa) : QI X Φ tg e (wTupI wa) := by
  refine ⟨fun ρ Q Q' h q => he.mono ρ _ _ (fun x ρ' q' => isT_mono (fun xs p => h xs ρ' p) q') q, PIw (pi_tup he.run) fun σ H R ⟨M, ρ, A, q⟩ => ?_⟩
  refine ⟨M, ρ, A, he.mono ρ _ _ (fun x ρ' q' => ?_) q⟩
  intro M' v H' A' S' r'
  cases r' with
  | tup hh rr => exact ⟨_, rfl, ⟨_, SqT.of hh⟩, q' M' H' _ A' S' (gives_tup hh rr)⟩
  | _ => exact q'.elim
/-- lo, lo + 1, .. -/
def intsD (lo : Int) (n : Nat) : List D := (List.range n).map fun i => .int (lo + (i : Nat))
theorem ints_len (lo : Int) (n : Nat) : (intsD lo n).length = n := by unfold intsD; rw [List.length_map, List.length_range]
theorem gives_range {M : Addr → Prop} {H : Hp} {lo : Int} {n : Nat} : Gives Φ.K M H (Itr lo n) (intsD lo n) := by
  refine ⟨fun _ => True, YFn fun i => .int (lo + i), ?_, fun M' H' S => trivial, fun i M' H' H2 v S y => ?_⟩
  · rw [ints_len]; exact walk_range
  · obtain ⟨e, y⟩ := y
    subst e; subst y
    refine ⟨Same.refl _, fun x hx => ?_⟩
    unfold intsD at hx
    rw [List.getElem?_map] at hx
    cases h : (List.range n)[i]? with
    | none => rw [h] at hx; cases hx
    | some j =>
      rw [h] at hx
      have e1 := List.getElem?_eq_some_iff.mp h
      obtain ⟨h1, h2⟩ := e1
      rw [List.getElem_range] at h2
      subst h2
      cases hx
      exact .int _
def wRng1 (wr : WA) : WI := fun ρ Q => wr ρ fun xs ρ' => match xs with
  | [.int j] => (-(2 ^ 62) ≤ j ∧ j < 2 ^ 62) ∧ Q (intsD 0 j.toNat) ρ'
  | _ => False
def wRng2 (wr : WA) : WI := fun ρ Q => wr ρ fun xs ρ' => match xs with
  | [.int i, .int j] => (-(2 ^ 62) ≤ i ∧ i < 2 ^ 62 ∧ -(2 ^ 62) ≤ j ∧ j < 2 ^ 62) ∧ Q (intsD i (j - i).toNat) ρ'
  | _ => False
theorem rp_ints1 {K : PySem.W.Frag} {M : Addr → Prop} {H : Hp} {vs : List V} {j : Int} (r : RpAll K M H vs [.int j]) : vs = [.int j] := by
  cases r with
  | cons r1 r2 => cases r1; cases r2; rfl
theorem rp_ints2 {K : PySem.W.Frag} {M : Addr → Prop} {H : Hp} {vs : List V} {i j : Int} (r : RpAll K M H vs [.int i, .int j]) : vs = [.int i, .int j] := by
  cases r with
  | cons r1 r2 => cases r1; rw [rp_ints1 r2]
theorem qi_range1 {tg : Expr} {wr : WA} {p : Pos} (hg : Gl X "range") (hm : X.mg "range" = none) (ha : QA X Φ [a] wr) (hs : starEach [a] X.env = [(false, eval a X.env)] := by rfl) : QI X Φ tg (.Call (.Name "range" p) [a] [] pos) (wRng1 wr) := by
  refine ⟨fun ρ Q Q' h q => ha.mono ρ _ _ (fun xs ρ' q' => ?_) q, PIw (pi_range1 hg hm ha.run hs) fun σ H R ⟨M, ρ, A, q⟩ => ?_⟩
  · match xs, q' with
    | [.int j], q' => exact ⟨q'.1, h _ _ q'.2⟩
  · refine ⟨M, ρ, A, ha.mono ρ _ _ (fun xs ρ' q' => ?_) q⟩
    intro M' vs H' A' S' r'
    match xs, q' with
    | [.int j], q' => exact ⟨j, rp_ints1 r', q'.1.1, q'.1.2, q'.2 M' H' _ A' S' gives_range⟩
theorem qi_range2 {tg : Expr} {wr : WA} {p : Pos} (hg : Gl X "range") (hm : X.mg "range" = none) (ha : QA X Φ [a, b] wr) (hs : starEach [a, b] X.env = [(false, eval a X.env), (false, eval b X.env)] := by rfl) (hs2 : starEach [b] X.env = [(false, eval b X.env)] := by rfl) :
    QI X Φ tg (.Call (.Name "range" p) [a, b] [] pos) (wRng2 wr) := by
  refine ⟨fun ρ Q Q' h q => ha.mono ρ _ _ (fun xs ρ' q' => ?_) q, PIw (pi_range2 hg hm ha.run hs hs2) fun σ H R ⟨M, ρ, A, q⟩ => ?_⟩
  · match xs, q' with
    | [.int i, .int j], q' => exact ⟨q'.1, h _ _ q'.2⟩
  · refine ⟨M, ρ, A, ha.mono ρ _ _ (fun xs ρ' q' => ?_) q⟩
    intro M' vs H' A' S' r'
    match xs, q' with
    | [.int i, .int j], q' => exact ⟨i, j, rp_ints2 r', q'.1, q'.2 M' H' _ A' S' gives_range⟩
/-- (0, x), (1, y), .. -/
def enums : Nat → List D → List D
  | _, [] => []
  | k, x :: r => .tup [.int (k : Nat), x] :: enums (k + 1) r
theorem enums_len : ∀ (k : Nat) (xs : List D), (enums k xs).length = xs.length
  | _, [] => rfl
  | k, x :: r => by unfold enums; rw [List.length_cons, List.length_cons, enums_len (k + 1) r]
theorem enums_get : ∀ (k : Nat) (xs : List D) (i : Nat), (enums k xs)[i]? = xs[i]?.map fun x => .tup [.int ((k + i : Nat) : Int), x]
  | _, [], i => by simp [enums]
  | k, x :: r, 0 => by simp [enums]
  | k, x :: r, i + 1 => by
    unfold enums
    rw [List.getElem?_cons_succ, List.getElem?_cons_succ, enums_get (k + 1) r i]
    rw [show k + 1 + i = k + (i + 1) by omega]

/-! ### for -/
/-- the items one after another -/
def wLoop (g : WG) (wb : WS) (R : AEnds) : List D → Ev → Prop
  | [], ρ => R.nx ρ
  | x :: r, ρ => g x ρ fun ρ1 => wb { R with nx := fun ρ2 => wLoop g wb R r ρ2, ct := fun ρ2 => wLoop g wb R r ρ2, bk := R.nx } ρ1
def wFor (wi : WI) (g : WG) (wb : WS) : WS := fun R ρ => wi ρ fun xs ρ' => wLoop g wb R xs ρ'
theorem wLoop_mono {g : WG} {wb : WS} (hg : ∀ x ρ Q Q', (∀ ρ', Q ρ' → Q' ρ') → g x ρ Q → g x ρ Q') (hb : ∀ ρ R R', AEnds.Imp R R' → wb R ρ → wb R' ρ) {R R' : AEnds} (h : R.Imp R') : ∀ (xs : List D) (ρ : Ev), wLoop g wb R xs ρ → wLoop g wb R' xs ρ
  | [], ρ, q => h.nx ρ q
  | x :: r, ρ, q => hg x ρ _ _ (fun ρ1 q1 => hb ρ1 { R with nx := fun ρ2 => wLoop g wb R r ρ2, ct := fun ρ2 => wLoop g wb R r ρ2, bk := R.nx } _ ⟨fun ρ2 q2 => wLoop_mono hg hb h r ρ2 q2, h.rt, fun ρ2 q2 => h.nx ρ2 q2, fun ρ2 q2 => wLoop_mono hg hb h r ρ2 q2⟩ q1) q
theorem qs_for {tg it : Expr} {body : List Stmt} {wi : WI} {g : WG} {wb : WS} (hp : PassesOwn (model X.prog X.w) X.A X.env X.xe) (hc : X.calm = true) (hi : QI X Φ tg it wi) (hg : QG X Φ tg g) (hb : QSs X Φ body wb)
    (hs : ∀ x, foldedSetIterable it X.env x = pure x := by intro _; rfl) : QS X Φ (.For tg it body [] pos) (wFor wi g wb) := by
  refine ⟨fun ρ R R' h q => hi.mono ρ _ _ (fun xs ρ' q' => wLoop_mono hg.mono hb.mono h xs ρ' q') q, PSw (ps_for hp hc hi.run hg.run hb.run hs) fun D σ H ⟨M, ρ, A, q⟩ => ?_⟩
  refine ⟨M, ρ, A, hi.mono ρ _ _ (fun xs ρ1 q1 => ?_) q⟩
  intro M1 H1 J A1 S1 G1
  obtain ⟨G, Y, W, hG, hY⟩ := G1.ex
  refine for_it W (fun i σ2 H2 => ∃ M2 ρ2, Abs Φ M2 σ2 H2 ρ2 ∧ Step M1 H1 M2 H2 ∧ wLoop g wb (absEnds Φ M2 H2 D) (xs.drop i) ρ2) ⟨M1, ρ1, A1, .refl, ?_⟩ (fun i σ2 H2 hi ⟨M2, ρ2, A2, S2, q2⟩ => hG M2 H2 S2) (fun i v σ2 H2 H3 hlt ⟨M2, ρ2, A2, S2, q2⟩ y => ?_) fun σ2 H2 ⟨M2, ρ2, A2, S2, q2⟩ => ?_
  · rw [List.drop_zero]
    exact wLoop_mono hg.mono hb.mono S1.ends xs ρ1 q1
  · obtain ⟨sm, hx⟩ := hY i M2 H2 H3 v S2 y
    have rx := hx xs[i] (List.getElem?_eq_getElem hlt)
    rw [List.drop_eq_getElem_cons hlt] at q2
    have A3 := A2.same sm
    have S3 : Step M2 H2 M2 H3 := step_same sm
    refine ⟨M2, ρ2, _, A3, rx, hg.mono _ ρ2 _ _ (fun ρ4 q4 => ?_) q2⟩
    intro M4 σ4 H4 A4 S4
    refine ⟨M4, ρ4, A4, hb.mono ρ4 { absEnds Φ M2 H2 D with nx := fun ρ5 => wLoop g wb (absEnds Φ M2 H2 D) (xs.drop (i + 1)) ρ5, ct := fun ρ5 => wLoop g wb (absEnds Φ M2 H2 D) (xs.drop (i + 1)) ρ5, bk := (absEnds Φ M2 H2 D).nx } _ ⟨fun ρ5 q5 => ?_, fun x ρ5 q5 => ?_, fun ρ5 q5 => ?_, fun ρ5 q5 => ?_⟩ q4⟩
    · intro M5 σ5 H5 A5 S5
      have t := S3.trans (S4.trans S5)
      exact ⟨M5, ρ5, A5, S2.trans t, wLoop_mono hg.mono hb.mono t.ends _ ρ5 q5⟩
    · intro M5 σ5 v5 H5 A5 S5 r5
      exact q5 M5 σ5 v5 H5 A5 (S3.trans (S4.trans S5)) r5
    · intro M5 σ5 H5 A5 S5
      exact q5 M5 σ5 H5 A5 (S3.trans (S4.trans S5))
    · intro M5 σ5 H5 A5 S5
      have t := S3.trans (S4.trans S5)
      exact ⟨M5, ρ5, A5, S2.trans t, wLoop_mono hg.mono hb.mono t.ends _ ρ5 q5⟩
  · rw [List.drop_length] at q2
    exact q2 M2 σ2 H2 A2 .refl

/-! ### while, by fuel -/
def wWhN (t : WT) (wb : WS) (R : AEnds) : Nat → Ev → Prop
  | 0, _ => False
  | n + 1, ρ => t ρ fun c ρ1 => if c = true then wb { R with nx := fun ρ2 => wWhN t wb R n ρ2, ct := fun ρ2 => wWhN t wb R n ρ2, bk := R.nx } ρ1 else R.nx ρ1
def wWhile (t : WT) (wb : WS) : WS := fun R ρ => ∃ n, wWhN t wb R n ρ
theorem wWhN_mono {t : WT} {wb : WS} (ht : ∀ ρ Q Q', (∀ x ρ', Q x ρ' → Q' x ρ') → t ρ Q → t ρ Q') (hb : ∀ ρ R R', AEnds.Imp R R' → wb R ρ → wb R' ρ) {R R' : AEnds} (h : R.Imp R') : ∀ (n : Nat) (ρ : Ev), wWhN t wb R n ρ → wWhN t wb R' n ρ
  | 0, _, q => q
  | n + 1, ρ, q => by
    refine ht ρ _ _ (fun d ρ1 q1 => ?_) q
    cases d with
    | true => exact hb ρ1 { R with nx := fun ρ2 => wWhN t wb R n ρ2, ct := fun ρ2 => wWhN t wb R n ρ2, bk := R.nx } _ ⟨fun ρ2 q2 => wWhN_mono ht hb h n ρ2 q2, h.rt, fun ρ2 q2 => h.nx ρ2 q2, fun ρ2 q2 => wWhN_mono ht hb h n ρ2 q2⟩ q1
    | false => exact h.nx ρ1 q1
theorem qs_while {body : List Stmt} {wb : WS} (hp : PassesOwn (model X.prog X.w) X.A X.env X.xe) (hc : QT X Φ c ta) (hb : QSs X Φ body wb) : QS X Φ (.While c body [] pos) (wWhile ta wb) := by
  refine ⟨fun ρ R R' h ⟨n, q⟩ => ⟨n, wWhN_mono hc.mono hb.mono h n ρ q⟩, PSw (ps_while hp hc.run hb.run) fun D σ H ⟨M, ρ, A, n, q⟩ => ?_⟩
  refine ⟨fun m σ2 H2 => ∃ M2 ρ2, Abs Φ M2 σ2 H2 ρ2 ∧ Step M H M2 H2 ∧ wWhN ta wb (absEnds Φ M2 H2 D) m ρ2, ⟨n, M, ρ, A, .refl, q⟩, fun m σ2 H2 ⟨M2, ρ2, A2, S2, q2⟩ => ?_⟩
  match m, q2 with
  | m + 1, q2 =>
    refine ⟨M2, ρ2, A2, hc.mono ρ2 _ _ (fun d ρ3 q3 => ?_) q2⟩
    intro M3 H3 A3 S3
    cases d with
    | true =>
      rw [if_pos rfl] at q3
      refine iteT ⟨fun σ5 H5 => ∃ M5 ρ5, Abs Φ M5 σ5 H5 ρ5 ∧ Step M H M5 H5 ∧ wWhN ta wb (absEnds Φ M5 H5 D) m ρ5, fun σ5 H5 h5 => ⟨m, Nat.lt_succ_self m, h5⟩, M3, ρ3, A3, hb.mono ρ3 { absEnds Φ M2 H2 D with nx := fun ρ5 => wWhN ta wb (absEnds Φ M2 H2 D) m ρ5, ct := fun ρ5 => wWhN ta wb (absEnds Φ M2 H2 D) m ρ5, bk := (absEnds Φ M2 H2 D).nx } _ ⟨fun ρ5 q5 => ?_, fun x ρ5 q5 => ?_, fun ρ5 q5 => ?_, fun ρ5 q5 => ?_⟩ q3⟩
      · intro M5 σ5 H5 A5 S5
        have t := S3.trans S5
        exact ⟨M5, ρ5, A5, S2.trans t, wWhN_mono hc.mono hb.mono t.ends _ ρ5 q5⟩
      · intro M5 σ5 v5 H5 A5 S5 r5
        exact q5 M5 σ5 v5 H5 A5 (S3.trans S5) r5
      · intro M5 σ5 H5 A5 S5
        exact q5 M5 σ5 H5 A5 (S3.trans S5)
      · intro M5 σ5 H5 A5 S5
        have t := S3.trans S5
        exact ⟨M5, ρ5, A5, S2.trans t, wWhN_mono hc.mono hb.mono t.ends _ ρ5 q5⟩
    | false => exact iteF (q3 M3 σ2 H3 A3 S3)
end
end AL
set_option Elab.async false
set_option linter.all false
set_option maxRecDepth 100000
namespace AL
open PySem PySem.Spec PyProof.Rows L2

/-! ### comprehensions -/
def wipeE (ρ : Ev) : List Nat → Ev
  | [] => ρ
  | v :: vs => (wipeE ρ vs).set v .un
theorem wipeE_length (ρ : Ev) : ∀ vs : List Nat, (wipeE ρ vs).length = ρ.length
  | [] => rfl
  | v :: vs => by unfold wipeE; rw [List.length_set, wipeE_length ρ vs]
theorem wipeE_in {ρ : Ev} {i : Nat} {e : En} : ∀ {vs : List Nat}, i ∈ vs → (wipeE ρ vs)[i]? = some e → e = .un
  | [], h, _ => by cases h
  | v :: vs, h, q => by
    unfold wipeE at q
    by_cases hv : v = i
    · subst hv
      have hi : v < (wipeE ρ vs).length := by have := (List.getElem?_eq_some_iff.mp q).1; rwa [List.length_set] at this
      rw [List.getElem?_set_self hi] at q
      cases q; rfl
    · rw [List.getElem?_set_ne hv] at q
      rcases List.mem_cons.mp h with z | z
      · exact absurd z.symm hv
      · exact wipeE_in z q
theorem wipeE_out {ρ : Ev} {i : Nat} : ∀ {vs : List Nat}, i ∉ vs → (wipeE ρ vs)[i]? = ρ[i]?
  | [], _ => rfl
  | v :: vs, h => by
    unfold wipeE
    rw [List.getElem?_set_ne (fun z => h (by rw [z]; exact List.mem_cons_self)), wipeE_out fun z => h (List.mem_cons_of_mem _ z)]
theorem wipe_out {σ : L2.St} {i : Nat} : ∀ {vs : List Nat}, i ∉ vs → (wipe σ vs)[i]? = σ[i]?
  | [], _ => rfl
  | v :: vs, h => by
    unfold wipe
    rw [List.getElem?_set_ne (fun z => h (by rw [z]; exact List.mem_cons_self)), wipe_out fun z => h (List.mem_cons_of_mem _ z)]
section
variable {X : Cx} {Φ : Cl} [ok : ClOk Φ] {pos : Pos} {e a b c : Expr} {wa wb wc : WE} {ta : WT} {st : Stmt} {rest : List Stmt} {w u : WS} {M : Addr → Prop} {σ σ' : L2.St} {H : Hp} {ρ : Ev}
/-- what is not said of a slot is not asked -/
theorem Abs.wiped (A : Abs Φ M σ H ρ) (vs : List Nat) (hl : σ'.length = σ.length) (hs : ∀ i, i ∉ vs → σ'[i]? = σ[i]?) : Abs Φ M σ' H (wipeE ρ vs) := by
  refine ⟨by rw [hl, wipeE_length]; exact A.len, fun i en o h1 h2 => ?_, fun i j p w1 w2 xs ys h1 h2 h3 h4 => ?_, A.lst, A.m0, A.keep, A.wm, A.hold, fun i j p xs ys h1 h2 h3 h4 => ?_, A.tab, fun i j w F P e a hij h1 h2 h3 => by
    by_cases hi : i ∈ vs
    · have := wipeE_in hi h1; cases this
    · by_cases hj : j ∈ vs
      · rw [wipeE_in hj h2]; trivial
      · rw [wipeE_out hi] at h1
        rw [wipeE_out hj] at h2
        rw [hs j hj] at h3
        exact A.far i j w F P e a hij h1 h2 h3⟩
  · by_cases hi : i ∈ vs
    · rw [wipeE_in hi h1]; trivial
    · rw [wipeE_out hi] at h1
      rw [hs i hi] at h2
      exact A.slot i en o h1 h2
  · by_cases hi : i ∈ vs
    · have := wipeE_in hi h1; cases this
    · by_cases hj : j ∈ vs
      · have := wipeE_in hj h2; cases this
      · rw [wipeE_out hi] at h1
        rw [wipeE_out hj] at h2
        rw [hs i hi] at h3
        rw [hs j hj] at h4
        exact A.inj i j p w1 w2 xs ys h1 h2 h3 h4
  · by_cases hi : i ∈ vs
    · have := wipeE_in hi h1; cases this
    · by_cases hj : j ∈ vs
      · have := wipeE_in hj h2; cases this
      · rw [wipeE_out hi] at h1
        rw [wipeE_out hj] at h2
        rw [hs i hi] at h3
        rw [hs j hj] at h4
        exact A.injd i j p xs ys h1 h2 h3 h4
/-- a comprehension's target: the slots vs alone are stored -/
def liftC (Φ : Cl) (vs : List Nat) (w : WG) : TG := fun v σ H Q => ∃ M ρ x, Abs Φ M σ H ρ ∧ Rp Φ.K M H v x ∧ w x ρ fun ρ' => ∀ M' σ' H', Abs Φ M' σ' H' ρ' → Step M H M' H' → (σ'.length = σ.length ∧ ∀ i, i ∉ vs → σ'[i]? = σ[i]?) → Q σ' H'
def liftCs (Φ : Cl) (vs : List Nat) (w : WGs) : TGs := fun us σ H Q => ∃ M ρ xs, Abs Φ M σ H ρ ∧ RpAll Φ.K M H us xs ∧ w xs ρ fun ρ' => ∀ M' σ' H', Abs Φ M' σ' H' ρ' → Step M H M' H' → (σ'.length = σ.length ∧ ∀ i, i ∉ vs → σ'[i]? = σ[i]?) → Q σ' H'
structure QC (X : Cx) (Φ : Cl) (vs : List Nat) (tg : Expr) (w : WG) : Prop where
  mono : ∀ x ρ Q Q', (∀ ρ', Q ρ' → Q' ρ') → w x ρ Q → w x ρ Q'
  run : PG X tg (liftC Φ vs w)
structure QCs (X : Cx) (Φ : Cl) (vs : List Nat) (tg : List Expr) (w : WGs) : Prop where
  mono : ∀ x ρ Q Q', (∀ ρ', Q ρ' → Q' ρ') → w x ρ Q → w x ρ Q'
  run : PGs X tg (liftCs Φ vs w)
theorem qc_name {i : Nat} {x : Str} {vs : List Nat} (hN : X.N.Nodup) (hi : X.N[i]? = some x) (hx : Loc X.env.scope x) (hm : i ∈ vs) (hf : X.fn x = true ∨ X.env.scope.names.lookup x = some .local := by first | exact .inl rfl | exact .inr rfl | assumption) : QC X Φ vs (.Name x pos) (wName i) :=
  ⟨fun x ρ Q Q' h q => h _ q, PGw (pg_name hN hi hx hf) fun v σ H Q ⟨M, ρ, x, A, r, q⟩ => q M _ H (A.store r) .refl ⟨by rw [List.length_set], fun j hj => List.getElem?_set_ne (fun z => hj (by rw [← z]; exact hm))⟩⟩
theorem qcs_nil {vs : List Nat} : QCs X Φ vs [] wgNil := by
  refine ⟨fun xs ρ Q Q' h q => ?_, PGsw pgs_nil fun us σ H Q ⟨M, ρ, xs, A, r, q⟩ => ?_⟩
  · cases xs with
    | nil => exact h _ q
    | cons _ _ => exact q.elim
  · cases r with
    | nil => exact ⟨rfl, q M σ H A .refl ⟨rfl, fun _ _ => rfl⟩⟩
    | cons _ _ => exact q.elim
theorem qcs_cons {vs : List Nat} {tg : Expr} {tgs : List Expr} {g : WG} {r : WGs} (h1 : QC X Φ vs tg g) (h2 : QCs X Φ vs tgs r)
    (hs : (assignEach (tg :: tgs) X.env).map (·.2) = assign tg X.env :: (assignEach tgs X.env).map (·.2) := by rfl) : QCs X Φ vs (tg :: tgs) (wgCons g r) := by
  refine ⟨fun xs ρ Q Q' h q => ?_, PGsw (pgs_cons h1.run h2.run hs) fun us σ H Q ⟨M, ρ, xs, A, rr, q⟩ => ?_⟩
  · cases xs with
    | nil => exact q.elim
    | cons x ys => exact h1.mono x ρ _ _ (fun ρ' q' => h2.mono ys ρ' _ _ h q') q
  · cases rr with
    | nil => exact q.elim
    | cons r1 r2 =>
      refine ⟨_, _, rfl, M, ρ, _, A, r1, h1.mono _ ρ _ _ (fun ρ' q' => ?_) q⟩
      intro M' σ' H' A' S' t'
      exact ⟨M', ρ', _, A', r2.step S', h2.mono _ ρ' _ _ (fun ρ2 q2 M2 σ2 H2 A2 S2 t2 => q2 M2 σ2 H2 A2 (S'.trans S2) ⟨t2.1.trans t'.1, fun i hi => (t2.2 i hi).trans (t'.2 i hi)⟩) q'⟩
theorem qc_tup {vs : List Nat} {tgs : List Expr} {k : Nat} {g : WGs} {n : Nat} (hc : X.calm = true) (h : QCs X Φ vs tgs g)
    (hn : (assignEach tgs X.env).length = n := by rfl) (hst : (assignEach tgs X.env).findIdx? (·.1) = none := by rfl) : QC X Φ vs (.Tuple tgs k pos) (wgTup n g) := by
  refine ⟨fun x ρ Q Q' i q => ?_, PGw (pg_tup hc h.run hn hst) fun v σ H Q ⟨M, ρ, x, A, r, q⟩ => ?_⟩
  · cases x <;> first | exact ⟨q.1, h.mono _ ρ _ _ i q.2⟩ | exact q.elim
  · cases r with
    | tup hh rr => exact ⟨_, _, rfl, .of hh, by rw [rr.length]; exact q.1, M, ρ, _, A, rr, q.2⟩
    | _ => exact q.elim

def wYes : WT := fun ρ Q => Q true ρ
structure QTs (X : Cx) (Φ : Cl) (ifs : List Expr) (w : WT) : Prop where
  mono : ∀ ρ Q Q', (∀ x ρ', Q x ρ' → Q' x ρ') → w ρ Q → w ρ Q'
  run : PTs X ifs (liftT Φ w)
theorem PTsw {ifs : List Expr} {t t' : TT} (h : PTs X ifs t) (i : ∀ σ H Q, t' σ H Q → t σ H Q) : PTs X ifs t' := ⟨fun pins s σ H Q I q => h.run pins s σ H Q I (i σ H Q q)⟩
theorem qts_nil : QTs X Φ [] wYes := ⟨fun ρ Q Q' h q => h _ _ q, PTsw pts_nil fun σ H Q ⟨M, ρ, A, q⟩ => q M H A .refl⟩
theorem qts_one {t : WT} (h : QT X Φ c t) : QTs X Φ [c] t := ⟨h.mono, pts_one h.run⟩

/-- the items one after another, acc what is made so far -/
def wMake (g : WG) (tt : WT) (we : WE) (vs : List Nat) (Q : List D → Ev → Prop) : List D → List D → Ev → Prop
  | [], acc, ρ => Q acc ρ
  | x :: r, acc, ρ => g x ρ fun ρ1 => tt ρ1 fun b ρ2 => if b = true then we ρ2 fun y ρ3 => acc.length < sizeLine ∧ wMake g tt we vs Q r (acc ++ [y]) (wipeE ρ3 vs) else wMake g tt we vs Q r acc (wipeE ρ2 vs)
def wLc (wi : WI) (g : WG) (tt : WT) (we : WE) (vs : List Nat) : WA := fun ρ Q => wi ρ fun xs ρ' => wMake g tt we vs Q xs [] (wipeE ρ' vs)
theorem wMake_mono {g : WG} {tt : WT} {we : WE} {vs : List Nat} (hg : ∀ x ρ Q Q', (∀ ρ', Q ρ' → Q' ρ') → g x ρ Q → g x ρ Q') (ht : ∀ ρ Q Q', (∀ x ρ', Q x ρ' → Q' x ρ') → tt ρ Q → tt ρ Q') (he : ∀ ρ Q Q', (∀ x ρ', Q x ρ' → Q' x ρ') → we ρ Q → we ρ Q')
    {Q Q' : List D → Ev → Prop} (h : ∀ x ρ, Q x ρ → Q' x ρ) : ∀ (xs acc : List D) (ρ : Ev), wMake g tt we vs Q xs acc ρ → wMake g tt we vs Q' xs acc ρ
  | [], acc, ρ, q => h _ _ q
  | x :: r, acc, ρ, q => hg x ρ _ _ (fun ρ1 q1 => ht ρ1 _ _ (fun b ρ2 q2 => by
      cases b with
      | true => exact he ρ2 _ _ (fun y ρ3 q3 => ⟨q3.1, wMake_mono hg ht he h r _ _ q3.2⟩) q2
      | false => exact wMake_mono hg ht he h r _ _ q2) q1) q
/-- a new list is held: nothing within changes it -/
def Cl.held (Φ : Cl) (p : Addr) (acc : List V) : Cl := { Φ with T := upd Φ.T p (.lst acc) }
instance held_ok {p : Addr} {acc : List V} : ClOk (Φ.held p acc) := ⟨ok.trk⟩
theorem Abs.hold_in (A : Abs Φ M σ H ρ) {p : Addr} {acc : List V} {ds : List D} (N : NewL Φ M σ H ρ p acc ds) : Abs (Φ.held p acc) M σ H ρ := by
  refine ⟨A.len, fun i en o h1 h2 => ?_, A.inj, A.lst, A.m0, A.keep, A.wm, fun a o h => ?_, A.injd, fun P q e => ?_, A.far⟩
  · have q := A.slot i en o h1 h2
    cases en with
    | un => trivial
    | d x => exact q
    | own w xs =>
      obtain ⟨a, vs, e1, m, h, r, z, t⟩ := q
      refine ⟨a, vs, e1, m, h, r, z, ?_⟩
      show upd Φ.T p _ a = none
      rw [upd_ne fun y => N.n i w xs h1 (by rw [h2, e1, y])]
      exact t
    | dic ks =>
      obtain ⟨a, P, w, vs, e1, m, h, r, z, t⟩ := q
      refine ⟨a, P, w, vs, e1, m, h, r, z, ?_⟩
      show upd Φ.T p _ a = none
      rw [upd_ne fun y => by rw [y, N.h] at h; cases h]
      exact t
    | obj w F P =>
      obtain ⟨a, e1, f, g, r⟩ := q
      refine ⟨a, e1, fun b hb => ⟨(f b hb).1, (f b hb).2.1, ?_⟩, g, r⟩
      show upd Φ.T p _ b = none
      rw [upd_ne (show b ≠ p from fun y => N.f i w F P h1 (y ▸ hb))]
      exact (f b hb).2.2
  · have h' : upd Φ.T p (.lst acc) a = some o := h
    by_cases y : a = p
    · rw [y, upd_same] at h'
      cases h'
      rw [y]; exact ⟨N.m, N.h⟩
    · rw [upd_ne y] at h'
      exact A.hold a o h'
  · obtain ⟨m, w, tn, ps, h, t⟩ := A.tab P q e
    refine ⟨m, w, ?_, ps, h, t⟩
    show upd Φ.T p _ P = none
    rw [upd_ne fun y => by rw [y, N.h] at h; cases h]
    exact tn
theorem Abs.hold_out {p : Addr} {acc : List V} (A : Abs (Φ.held p acc) M σ H ρ) (ht : Φ.T p = none) (h0 : Φ.H0 p = none) {ds : List D} (r : RpAll Φ.K M H acc ds) : Abs Φ M σ H ρ ∧ NewL Φ M σ H ρ p acc ds := by
  have tt : ∀ a, (Φ.held p acc).T a = none → Φ.T a = none := fun a h => by
    have h' : upd Φ.T p (.lst acc) a = none := h
    by_cases y : a = p
    · rw [y]; exact ht
    · rw [upd_ne y] at h'; exact h'
  have hp := A.hold p (.lst acc) upd_same
  refine ⟨⟨A.len, fun i en o h1 h2 => ?_, A.inj, A.lst, A.m0, A.keep, A.wm, fun a o h => ?_, A.injd, fun P q e => let ⟨m, w, tn, t⟩ := A.tab P q e; ⟨m, w, tt P tn, t⟩, A.far⟩, hp.1, hp.2, r, h0, ht, fun i w ys h1 h2 => ?_, fun i w F P h1 hf => ?_⟩
  · have q := A.slot i en o h1 h2
    cases en with
    | un => trivial
    | d x => exact q
    | own w xs =>
      obtain ⟨a, vs, e1, m, h, r, z, t⟩ := q
      exact ⟨a, vs, e1, m, h, r, z, tt a t⟩
    | dic ks =>
      obtain ⟨a, P, w, vs, e1, m, h, r, z, t⟩ := q
      exact ⟨a, P, w, vs, e1, m, h, r, z, tt a t⟩
    | obj w F P =>
      obtain ⟨a, e1, f, g, r⟩ := q
      exact ⟨a, e1, fun b hb => ⟨(f b hb).1, (f b hb).2.1, tt b (f b hb).2.2⟩, g, r⟩
  · refine A.hold a o ?_
    show upd Φ.T p _ a = some o
    rw [upd_ne fun y => by rw [y, ht] at h; cases h]
    exact h
  · obtain ⟨a, vs, e1, m, h, r, z, t⟩ := A.slot i _ _ h1 h2
    cases e1
    have t' : upd Φ.T p (.lst acc) p = none := t
    rw [upd_same] at t'; cases t'
  · have hi : i < σ.length := by rw [A.len]; exact (List.getElem?_eq_some_iff.mp h1).1
    obtain ⟨a, e1, f, g, r⟩ := A.slot i _ _ h1 (List.getElem?_eq_getElem hi)
    have t' : upd Φ.T p (.lst acc) p = none := (f p hf).2.2
    rw [upd_same] at t'; cases t'
/-- a list in M that no slot holds is written -/
theorem Abs.put (A : Abs Φ M σ H ρ) {p : Addr} {vs ws : List V} {ds es : List D} (N : NewL Φ M σ H ρ p vs ds) (r : RpAll Φ.K M H ws es) :
    Abs Φ M σ (upd H p (.lst ws)) ρ ∧ Step M H M (upd H p (.lst ws)) ∧ NewL Φ M σ (upd H p (.lst ws)) ρ p ws es := by
  have st : Step M H M (upd H p (.lst ws)) := by
    refine ⟨fun a o hm h => ⟨hm, ?_⟩, fun a xs h => ?_, fun a o u h => ?_⟩
    · rw [upd_ne (fun z => hm (by rw [z]; exact N.m))]; exact h
    · rw [upd_ne (fun z => by rw [z, N.h] at h; cases h)]; exact h
    · rw [upd_ne (fun z => by rw [z, N.h] at h; cases h)]; exact h
  refine ⟨⟨A.len, fun i en o h1 h2 => ?_, A.inj, fun a ha => ?_, A.m0, fun a o h1 h2 => ?_, A.wm, fun a o h => ?_, A.injd, A.tabs st fun P ps m h => ⟨m, by rw [upd_ne (fun y => by rw [y, N.h] at h; cases h)]; exact h⟩, A.far⟩, st, N.m, upd_same, r.step st, N.h0, N.t, N.n, N.f⟩
  · have q := A.slot i en o h1 h2
    cases en with
    | un => trivial
    | d x => obtain ⟨v, e1, r⟩ := q; exact ⟨v, e1, r.step st⟩
    | own w xs =>
      obtain ⟨a, ys, e1, m1, h3, r, z⟩ := q
      have ne : a ≠ p := fun y => N.n i w xs h1 (by rw [h2, e1, y])
      exact ⟨a, ys, e1, m1, by rw [upd_ne ne]; exact h3, r.step st, z⟩
    | dic ks =>
      obtain ⟨a, P, w, ys, e1, m1, h3, r, z⟩ := q
      have ne : a ≠ p := fun y => by rw [y, N.h] at h3; cases h3
      exact ⟨a, P, w, ys, e1, m1, by rw [upd_ne ne]; exact h3, r.step st, z⟩
    | obj w F P =>
      obtain ⟨a, e1, f, g, r⟩ := q
      exact ⟨a, e1, f, g, g.1 _ _ _ _ _ st (fun b hb => upd_ne (show b ≠ p from fun y => N.f i w F P h1 (y ▸ hb))) r⟩
  · by_cases y : a = p
    · rw [y]; exact ⟨_, upd_same, trivial⟩
    · obtain ⟨ys, q, mu⟩ := A.lst a ha
      exact ⟨ys, by rw [upd_ne y]; exact q, mu⟩
  · have ne : a ≠ p := fun y => by rw [y, N.h0] at h1; cases h1
    rw [upd_ne ne]; exact A.keep a o h1 h2
  · have ne : a ≠ p := fun y => by rw [y, N.t] at h; cases h
    rw [upd_ne ne]; exact A.hold a o h
theorem NewL.moved {vs : List Nat} {p : Addr} {acc : List V} {ds : List D} (N : NewL Φ M σ H ρ p acc ds) (hs : ∀ i, i ∉ vs → σ'[i]? = σ[i]?) : NewL Φ M σ' H (wipeE ρ vs) p acc ds := by
  refine ⟨N.m, N.h, N.r, N.h0, N.t, fun i w ys h1 h2 => ?_, fun i w F P h1 hf => ?_⟩
  · by_cases hi : i ∈ vs
    · have := wipeE_in hi h1; cases this
    · rw [wipeE_out hi] at h1
      rw [hs i hi] at h2
      exact N.n i w ys h1 h2
  · by_cases hi : i ∈ vs
    · have := wipeE_in hi h1; cases this
    · rw [wipeE_out hi] at h1
      exact N.f i w F P h1 hf
variable {elt tg iter : Expr} {ifs : List Expr} {scope : Scope} {own : List (Str × Nat)} {wi : WI} {g : WG} {tt : WT} {we : WE}
/-- the block's parts, whatever frame it gets -/
structure Blk (X : Cx) (Φ : Cl) (scope : Scope) (vs : List Nat) (tg : Expr) (ifs : List Expr) (elt : Expr) (g : WG) (tt : WT) (we : WE) : Prop where
  g : ∀ (T : Hp) (s : Shared) (H : Hp) (C : Addr) (cl : List (Str × Addr)) (fp : List Addr), QC (X.blk s H scope (compEnvC scope cl C X.env) fp) { Φ with T := T } vs tg g
  t : ∀ (T : Hp) (s : Shared) (H : Hp) (C : Addr) (cl : List (Str × Addr)) (fp : List Addr), QTs (X.blk s H scope (compEnvC scope cl C X.env) fp) { Φ with T := T } ifs tt
  e : ∀ (T : Hp) (s : Shared) (H : Hp) (C : Addr) (cl : List (Str × Addr)) (fp : List Addr), QE (X.blk s H scope (compEnvC scope cl C X.env) fp) { Φ with T := T } elt we
theorem wLc_mono {vs : List Nat} (hi : QI X Φ tg iter wi) (B : Blk X Φ scope vs tg ifs elt g tt we) : ∀ ρ Q Q', (∀ x ρ', Q x ρ' → Q' x ρ') → wLc wi g tt we vs ρ Q → wLc wi g tt we vs ρ Q' := fun ρ Q Q' h q =>
  hi.mono ρ _ _ (fun xs ρ' q' => wMake_mono (B.g (fun _ => none) X.s_0 (fun _ => none) 0 [] []).mono (B.t (fun _ => none) X.s_0 (fun _ => none) 0 [] []).mono (B.e (fun _ => none) X.s_0 (fun _ => none) 0 [] []).mono h _ _ _ q') q
/-- the readings of the parts, the held list told by the heap -/
def heldG (Φ : Cl) (p : Addr) (vs : List Nat) (w : WG) : TG := fun v σ H Q => ∃ acc, liftC (Φ.held p acc) vs w v σ H Q
def heldT (Φ : Cl) (p : Addr) (w : WT) : TT := fun σ H Q => ∃ acc, liftT (Φ.held p acc) w σ H Q
def heldE (Φ : Cl) (p : Addr) (w : WE) : TE := fun σ H Q => ∃ acc, liftE (Φ.held p acc) w σ H Q
def anyG (Φ : Cl) (vs : List Nat) (w : WG) : TG := fun v σ H Q => ∃ p, heldG Φ p vs w v σ H Q
def anyT (Φ : Cl) (w : WT) : TT := fun σ H Q => ∃ p, heldT Φ p w σ H Q
def anyE (Φ : Cl) (w : WE) : TE := fun σ H Q => ∃ p, heldE Φ p w σ H Q
theorem lift_lc (hi : QI X Φ tg iter wi) (B : Blk X Φ scope (own.map (·.2)) tg ifs elt g tt we) : ∀ σ H Q, liftF Φ (wLc wi g tt we (own.map (·.2))) σ H Q →
    tLc (liftI Φ wi) (anyG Φ (own.map (·.2)) g) (anyT Φ tt) (anyE Φ we) (own.map (·.2)) σ H Q := by
  intro σ H Q ⟨M, ρ, A, q⟩
  generalize own.map (·.2) = vs at *
  have gm := (B.g (fun _ => none) X.s_0 (fun _ => none) 0 [] []).mono
  have tm := (B.t (fun _ => none) X.s_0 (fun _ => none) 0 [] []).mono
  have em := (B.e (fun _ => none) X.s_0 (fun _ => none) 0 [] []).mono
  refine ⟨M, ρ, A, hi.mono ρ _ _ (fun xs ρ1 q1 => ?_) q⟩
  intro M1 H1 J A1 S1 G1 p hp
  obtain ⟨G, Y, W, hG, hY⟩ := G1.ex
  have hw : (wipe σ vs).length = σ.length := wipe_length σ vs
  obtain ⟨A2, S2, N2⟩ := A1.add (vs := []) hp .nil
  have h0 := N2.h0
  have ht := N2.t
  generalize hQ : (fun (zs : List D) (ρ' : Ev) => ∀ M' p vs H', Abs Φ M' σ H' ρ' → Step M H M' H' → NewL Φ M' σ H' ρ' p vs zs → Q (.ref p) H') = QQ at q1
  refine lc_it W (fun i H2 => ∃ M2 ρ2 acc ds, Abs Φ M2 (wipe σ vs) H2 ρ2 ∧ NewL Φ M2 (wipe σ vs) H2 ρ2 p acc ds ∧ Step M1 H1 M2 H2 ∧ (∀ i ∈ vs, ∀ e, ρ2[i]? = some e → e = .un) ∧ wMake g tt we vs QQ (xs.drop i) ds ρ2) ?_ (fun i H2 hi ⟨M2, ρ2, acc, ds, A2, N2, S2, u2, q2⟩ => hG M2 H2 S2) ?_ ?_
  · exact ⟨_, _, [], [], A2.wiped vs hw fun i hi => wipe_out hi, N2.moved fun i hi => wipe_out hi, S2, fun i hi e h => wipeE_in hi h, by rw [List.drop_zero]; exact q1⟩
  · intro i v H2 H3 hlt ⟨M2, ρ2, acc, ds, A2, N2, S2, u2, q2⟩ y
    obtain ⟨sm, hx⟩ := hY i M2 H2 H3 v S2 y
    have rx := hx xs[i] (List.getElem?_eq_getElem hlt)
    rw [List.drop_eq_getElem_cons hlt] at q2
    have S3 : Step M2 H2 M2 H3 := step_same sm
    have A3 := (A2.hold_in N2).same sm
    refine ⟨p, acc, M2, ρ2, _, A3, rx, gm _ _ _ _ (fun ρ4 q4 => ?_) q2⟩
    intro M4 σ4 H4 A4 S4 t4
    have e4 : wipe σ4 vs = wipe σ vs := by
      apply List.ext_getElem?
      intro k
      by_cases hk : k ∈ vs
      · have hl : (wipe σ4 vs).length = (wipe σ vs).length := by rw [wipe_length]; exact t4.1
        have un : ∀ (τ : L2.St) (o : Option V), (wipe τ vs)[k]? = some o → o = none := fun τ o h => by
          cases o with
          | none => rfl
          | some v => exact absurd hk (wipe_some h).2
        cases h1 : (wipe σ4 vs)[k]? with
        | none =>
          have : (wipe σ vs)[k]? = none := by
            rw [List.getElem?_eq_none_iff] at h1 ⊢
            omega
          rw [this]
        | some o =>
          have hk2 : k < (wipe σ vs).length := by
            have := (List.getElem?_eq_some_iff.mp h1).1
            omega
          rw [List.getElem?_eq_getElem hk2]
          rw [un _ _ h1, un σ _ (List.getElem?_eq_getElem hk2)]
      · rw [wipe_out hk, t4.2 k hk]
    refine ⟨e4, p, acc, M4, ρ4, A4, tm _ _ _ (fun b ρ5 q5 => ?_) q4⟩
    intro M5 H5 A5 S5
    have back : ∀ {M6 : Addr → Prop} {H6 : Hp} {ρ6 : Ev}, Abs (Φ.held p acc) M6 σ4 H6 ρ6 → Step M2 H2 M6 H6 → Abs Φ M6 (wipe σ vs) H6 (wipeE ρ6 vs) ∧ NewL Φ M6 (wipe σ vs) H6 (wipeE ρ6 vs) p acc ds := fun {M6 H6 ρ6} A6 S6 => by
      obtain ⟨h1, h2⟩ := A6.hold_out ht h0 (N2.r.step S6)
      have hs : ∀ k, k ∉ vs → (wipe σ vs)[k]? = σ4[k]? := fun k hk => by rw [← e4, wipe_out hk]
      exact ⟨h1.wiped vs (by rw [wipe_length, t4.1, wipe_length]) hs, h2.moved hs⟩
    cases b with
    | true =>
      refine iteT ⟨p, acc, M5, ρ5, A5, em _ _ _ (fun y ρ6 q6 => ?_) q5⟩
      intro M6 u H6 A6 S6 r6
      have SS := S3.trans (S4.trans (S5.trans S6))
      obtain ⟨B6, N6⟩ := back A6 SS
      obtain ⟨B7, S7, N7⟩ := B6.put N6 (N6.r.append (.cons r6 .nil))
      refine ⟨acc, N6.h, by rw [N6.r.length]; exact q6.1, M6, _, _, _, B7, N7, S2.trans (SS.trans S7), fun k hk e h => wipeE_in hk h, q6.2⟩
    | false =>
      have SS := S3.trans (S4.trans S5)
      obtain ⟨B6, N6⟩ := back A5 SS
      exact iteF ⟨M5, _, _, _, B6, N6, S2.trans SS, fun k hk e h => wipeE_in hk h, q5⟩
  · intro H2 ⟨M2, ρ2, acc, ds, A2, N2, S2, u2, q2⟩
    rw [List.drop_length] at q2
    have q2' : QQ ds ρ2 := q2
    subst hQ
    refine q2' M2 p acc H2 ?_ (S1.trans S2) ?_
    · refine ⟨by rw [← A2.len, hw], fun k en o h1 h2 => ?_, fun k j a w1 w2 ys zs h1 h2 h3 h4 => ?_, A2.lst, A2.m0, A2.keep, A2.wm, A2.hold, fun k j a ys zs h1 h2 h3 h4 => ?_, A2.tab, fun k j w F P e a hkj h1 h2 h3 => by
        by_cases hk : k ∈ vs
        · have := u2 k hk _ h1; cases this
        · by_cases hj : j ∈ vs
          · rw [u2 j hj _ h2]; trivial
          · exact A2.far k j w F P e a hkj h1 h2 (by rw [wipe_out hj]; exact h3)⟩
      · by_cases hk : k ∈ vs
        · rw [u2 k hk en h1]; trivial
        · exact A2.slot k en o h1 (by rw [wipe_out hk]; exact h2)
      · by_cases hk : k ∈ vs
        · have := u2 k hk _ h1; cases this
        · by_cases hj : j ∈ vs
          · have := u2 j hj _ h2; cases this
          · exact A2.inj k j a w1 w2 ys zs h1 h2 (by rw [wipe_out hk]; exact h3) (by rw [wipe_out hj]; exact h4)
      · by_cases hk : k ∈ vs
        · have := u2 k hk _ h1; cases this
        · by_cases hj : j ∈ vs
          · have := u2 j hj _ h2; cases this
          · exact A2.injd k j a ys zs h1 h2 (by rw [wipe_out hk]; exact h3) (by rw [wipe_out hj]; exact h4)
    · refine ⟨N2.m, N2.h, N2.r, N2.h0, N2.t, fun k w ys h1 h2 => ?_, fun k w F P h1 hf => N2.f k w F P h1 hf⟩
      by_cases hk : k ∈ vs
      · have := u2 k hk _ h1; cases this
      · exact N2.n k w ys h1 (by rw [wipe_out hk]; exact h2)
theorem anyE_of {X : Cx} (h : ∀ T, QE X { Φ with T := T } elt we) : PE X elt (anyE Φ we) := ⟨fun pins s σ H Q I ⟨p, acc, q⟩ => (h (upd Φ.T p (.lst acc))).run.run pins s σ H Q I q⟩
theorem anyT_of {X : Cx} (h : ∀ T, QTs X { Φ with T := T } ifs tt) : PTs X ifs (anyT Φ tt) := ⟨fun pins s σ H Q I ⟨p, acc, q⟩ => (h (upd Φ.T p (.lst acc))).run.run pins s σ H Q I q⟩
theorem anyG_of {X : Cx} {vs : List Nat} (h : ∀ T, QC X { Φ with T := T } vs tg g) : PG X tg (anyG Φ vs g) := ⟨fun pins s σ H v u Q I r ⟨p, acc, q⟩ => (h (upd Φ.T p (.lst acc))).run.run pins s σ H v u Q I r q⟩
theorem qf_lc (hc : X.calm = true) (hN : X.N.Nodup) (hi : QI X Φ tg iter wi) {vs : List Nat} (bk : BlkOk X.N X.env.scope scope own) (B : Blk X Φ scope vs tg ifs elt g tt we)
    (hvs : own.map (·.2) = vs := by rfl) (hs : ∀ x, foldedSetIterable iter X.env x = pure x := by intro _; rfl) : QF X Φ (.ListComp elt [⟨tg, iter, ifs, 0⟩] scope pos) (wLc wi g tt we vs) := by
  subst hvs
  exact ⟨wLc_mono hi B, PEw (pe_lc hc hN hi.run bk (fun s H C cl fp => anyG_of fun T => B.g T s H C cl fp) (fun s H C cl fp => anyT_of fun T => B.t T s H C cl fp) (fun s H C cl fp => anyE_of fun T => B.e T s H C cl fp) hs) (lift_lc hi B)⟩
/-- name = [..], the name a local: as a value, or to be changed -/
theorem qs_setLc {i : Nat} {y : Str} {py spos : Pos} (hc : X.calm = true) (hN : X.N.Nodup) (hy : X.N[i]? = some y) (hyl : X.env.scope.names.lookup y = some .local)
    (hsw : swapsWith (.ListComp elt [⟨tg, iter, ifs, 0⟩] scope pos) (some (.Name y py)) spos.line X.env = pure true) (hi : QI X Φ tg iter wi) {vs : List Nat} (bk : BlkOk X.N X.env.scope scope own) (B : Blk X Φ scope vs tg ifs elt g tt we)
    (hvs : own.map (·.2) = vs := by rfl) (hs : ∀ x, foldedSetIterable iter X.env x = pure x := by intro _; rfl) :
    QS X Φ (.Assign [.Name y py] (.ListComp elt [⟨tg, iter, ifs, 0⟩] scope pos) spos) (wAsg (fun ρ Q => wLc wi g tt we vs ρ fun xs ρ' => Q (.lst xs) ρ') (wName i)) := by
  subst hvs
  refine ⟨fun ρ R R' h q => wLc_mono hi B ρ _ _ (fun xs ρ' q' => h.nx _ q') q, PSw (ps_setLc hc hN hy hyl hsw hi.run bk (fun s H C cl fp => anyG_of fun T => B.g T s H C cl fp) (fun s H C cl fp => anyT_of fun T => B.t T s H C cl fp) (fun s H C cl fp => anyE_of fun T => B.e T s H C cl fp) hs) fun D σ H ⟨M, ρ, A, q⟩ => ?_⟩
  refine lift_lc hi B σ H _ ⟨M, ρ, A, wLc_mono hi B ρ _ _ (fun xs ρ' q' => ?_) q⟩
  intro M' p vs H' A' S' N'
  obtain ⟨A2, S2, r2⟩ := A'.drop N'
  exact q' _ _ H' (A2.store r2) (S'.trans S2)
theorem qs_setLcOwn {i : Nat} {y : Str} {py spos : Pos} (hc : X.calm = true) (hN : X.N.Nodup) (hy : X.N[i]? = some y) (hyl : X.env.scope.names.lookup y = some .local)
    (hsw : swapsWith (.ListComp elt [⟨tg, iter, ifs, 0⟩] scope pos) (some (.Name y py)) spos.line X.env = pure true) (hi : QI X Φ tg iter wi) {vs : List Nat} (bk : BlkOk X.N X.env.scope scope own) (B : Blk X Φ scope vs tg ifs elt g tt we)
    (hvs : own.map (·.2) = vs := by rfl) (hs : ∀ x, foldedSetIterable iter X.env x = pure x := by intro _; rfl) :
    QS X Φ (.Assign [.Name y py] (.ListComp elt [⟨tg, iter, ifs, 0⟩] scope pos) spos) (wOwn (wLc wi g tt we vs) i) := by
  subst hvs
  refine ⟨fun ρ R R' h q => wLc_mono hi B ρ _ _ (fun xs ρ' q' => h.nx _ q') q, PSw (ps_setLc hc hN hy hyl hsw hi.run bk (fun s H C cl fp => anyG_of fun T => B.g T s H C cl fp) (fun s H C cl fp => anyT_of fun T => B.t T s H C cl fp) (fun s H C cl fp => anyE_of fun T => B.e T s H C cl fp) hs) fun D σ H ⟨M, ρ, A, q⟩ => ?_⟩
  refine lift_lc hi B σ H _ ⟨M, ρ, A, wLc_mono hi B ρ _ _ (fun xs ρ' q' => ?_) q⟩
  intro M' p vs H' A' S' N'
  exact q' _ _ H' (A'.storeOwn N') S'
end
end AL
set_option Elab.async false
set_option linter.all false
set_option maxRecDepth 100000
namespace AL
open PySem PySem.Spec PyProof.Rows L2

section
variable {X : Cx} {Φ : Cl} [ok : ClOk Φ] {pos : Pos} {e a b c : Expr} {es : List Expr} {wa wb wc : WE} {wr : WA} {ta : WT} {st : Stmt} {rest : List Stmt} {w u : WS} {M : Addr → Prop} {σ σ' : L2.St} {H H' : Hp} {ρ : Ev}
theorem qv (i : Nat) {x : Str} (hN : X.N[i]? = some x := by rfl) (hv : Vis X.env.scope x := by first | exact Or.inl rfl | exact Or.inr (Or.inl rfl) | exact Or.inr (Or.inr rfl)) (hd : (x == ("__debug__" : Str)) = false := by decide)
    (hcd : (x == ("__classdict__" : Str)) = false := by decide) : QE X Φ (.Name x pos) (wVar i) := qe_var hN hv hd hcd
theorem qvb (i : Nat) {x : Str} (hN : X.N[i]? = some x := by rfl) (hv : Vis X.env.scope x := by first | exact Or.inl rfl | exact Or.inr (Or.inl rfl) | exact Or.inr (Or.inr rfl)) (hd : (x == ("__debug__" : Str)) = false := by decide)
    (hcd : (x == ("__classdict__" : Str)) = false := by decide) : QB X Φ (.Name x pos) (wVarB i) := qb_var hN hv hd hcd
theorem q2v (i : Nat) {x : Str} {p : Pos} (hb : QB X Φ b wb) (hN : X.N[i]? = some x := by rfl) (hv : Vis X.env.scope x := by first | exact Or.inl rfl | exact Or.inr (Or.inl rfl) | exact Or.inr (Or.inr rfl)) (hd : (x == ("__debug__" : Str)) = false := by decide)
    (hcd : (x == ("__classdict__" : Str)) = false := by decide) : Q2 X Φ (.Name x p) b (w2v i wb) := q2_v hN hv hb hd hcd

/-! ### an own list is written -/
/-- the list at r, of slot i, is now us' -/
theorem Abs.writeOwn (A : Abs Φ M σ H ρ) {i : Nat} {w : Bool} {xs ys : List D} {r : Addr} {us' : List V} (e : ρ[i]? = some (.own w xs)) (es : σ[i]? = some (some (.ref r))) (old : ∀ b o, b ≠ r → H b = some o → H' b = some o) (new : H' r = some (.lst us')) (rr : RpAll Φ.K M H' us' ys) :
    Abs Φ M σ H' (ρ.set i (.own w ys)) ∧ Step M H M H' := by
  obtain ⟨a, vs, e1, m, hh, r0, z, t⟩ := A.slot i _ _ e es
  cases e1
  have st : Step M H M H' := ⟨fun b o hm h => ⟨hm, old b o (fun y => hm (by rw [y]; exact m)) h⟩, fun b zs h => old b _ (fun y => by rw [y, hh] at h; cases h) h, fun b o u h => old b _ (fun y => by rw [y, hh] at h; cases h) h⟩
  have hi : i < ρ.length := (List.getElem?_eq_some_iff.mp e).1
  have own : ∀ {j : Nat} {w' : Bool} {zs : List D}, (ρ.set i (.own w ys))[j]? = some (.own w' zs) → ∃ zs', ρ[j]? = some (.own w' zs') := fun {j w' zs} h => by
    by_cases hj : i = j
    · subst hj
      rw [List.getElem?_set_self hi] at h
      cases h; exact ⟨xs, e⟩
    · rw [List.getElem?_set_ne hj] at h; exact ⟨zs, h⟩
  refine ⟨⟨by rw [List.length_set]; exact A.len, fun j en o h1 h2 => ?_, fun j k p w1 w2 zs1 zs2 h1 h2 h3 h4 => ?_, fun b hb => ?_, A.m0, fun b o h1 h2 => ?_, A.wm, fun b o h => ?_, fun j k b ys zs h1 h2 h3 h4 => A.injd j k b ys zs (not_dic (fun _ => En.noConfusion) h1).2 (not_dic (fun _ => En.noConfusion) h2).2 h3 h4, A.tabs st fun P ps m' h => ⟨m', old _ _ (fun y => by rw [y, hh] at h; cases h) h⟩, A.far.set (fun _ _ => rfl) (fun _ _ _ => En.noConfusion) fun j w F P a hji h1 h3 => (show ¬ F a from A.far j i w F P (.own _ xs) a hji h1 e h3)⟩, st⟩
  · by_cases hj : i = j
    · subst hj
      rw [List.getElem?_set_self hi] at h1
      cases h1
      rw [es] at h2; cases h2
      exact ⟨r, us', rfl, m, new, rr, z, t⟩
    · rw [List.getElem?_set_ne hj] at h1
      have q := A.slot j en o h1 h2
      cases en with
      | un => trivial
      | d x => obtain ⟨v, e1, r1⟩ := q; exact ⟨v, e1, r1.step st⟩
      | own w' zs =>
        obtain ⟨b, ws, e1, m1, h3, r1, z1⟩ := q
        have ne : b ≠ r := fun y => by
          subst y; subst e1
          exact hj (A.inj i j _ _ _ _ _ e h1 es h2)
        exact ⟨b, ws, e1, m1, old b _ ne h3, r1.step st, z1⟩
      | dic ks =>
        obtain ⟨b, P, w, ws, e1, m1, h3, r1, z1⟩ := q
        have ne : b ≠ r := fun y => by rw [y, hh] at h3; cases h3
        exact ⟨b, P, w, ws, e1, m1, old b _ ne h3, r1.step st, z1⟩
      | obj w F P =>
        obtain ⟨b, e1, f, g, r1⟩ := q
        have nf : ¬ F r := A.far j i w F P _ r (fun z => hj z.symm) h1 e es
        refine ⟨b, e1, f, g, g.1 _ _ _ _ _ st (fun c hc => ?_) r1⟩
        obtain ⟨o, hb', _⟩ := A.lst c (f c hc).1
        rw [hb', old c o (fun z => nf (z ▸ hc)) hb']
  · obtain ⟨y1, g1⟩ := own h1
    obtain ⟨y2, g2⟩ := own h2
    exact A.inj j k p w1 w2 y1 y2 g1 g2 h3 h4
  · by_cases y : b = r
    · rw [y]; exact ⟨_, new, trivial⟩
    · obtain ⟨ws, q, mu⟩ := A.lst b hb
      exact ⟨ws, old b _ y q, mu⟩
  · refine old b o (fun y => ?_) (A.keep b o h1 h2)
    subst y
    cases w with
    | true => exact h2 z
    | false =>
      have z' : Φ.H0 b = none := z
      rw [z'] at h1; cases h1
  · exact ⟨(A.hold b o h).1, old b o (fun y => by rw [y, t] at h; cases h) (A.hold b o h).2⟩
/-- what an own slot holds -/
def ownE : Option En → (Bool → List D → Prop) → Prop
  | some (.own w xs), P => P w xs
  | _, _ => False
theorem ownE_mono {o : Option En} {P P' : Bool → List D → Prop} (h : ∀ w x, P w x → P' w x) (q : ownE o P) : ownE o P' := by
  cases o with
  | none => exact q.elim
  | some e => cases e <;> first | exact h _ _ q | exact q.elim
theorem ownE_rp (A : Abs Φ M σ H ρ) {i : Nat} {P : Bool → List D → Prop} (q : ownE ρ[i]? P) : ∃ w xs r vs, ρ[i]? = some (.own w xs) ∧ σ[i]? = some (some (.ref r)) ∧ M r ∧ H r = some (.lst vs) ∧ RpAll Φ.K M H vs xs ∧ P w xs := by
  cases he : ρ[i]? with
  | none => rw [he] at q; exact q.elim
  | some en =>
    have hi : i < σ.length := by rw [A.len]; exact (List.getElem?_eq_some_iff.mp he).1
    have sl := A.slot i en _ he (List.getElem?_eq_getElem hi)
    rw [he] at q
    cases en with
    | un => exact q.elim
    | d x => exact q.elim
    | own w xs => obtain ⟨r, vs, e, m, h, rr, _⟩ := sl; exact ⟨w, xs, r, vs, rfl, by rw [List.getElem?_eq_getElem hi, e], m, h, rr, q⟩
    | dic ks => exact q.elim
    | obj w F P => exact q.elim
theorem upd_old {r : Addr} {o : HO} : ∀ b u, b ≠ r → H b = some u → upd H r o b = some u := fun b u n h => by rw [upd_ne n]; exact h
theorem step_upd {r : Addr} {vs us : List V} (m : M r) (hh : H r = some (.lst vs)) : Step M H M (upd H r (.lst us)) :=
  ⟨fun b o hm h => ⟨hm, upd_old b o (fun y => hm (by rw [y]; exact m)) h⟩, fun b zs h => upd_old b _ (fun y => by rw [y, hh] at h; cases h) h, fun b o u h => upd_old b _ (fun y => by rw [y, hh] at h; cases h) h⟩

/-- xs.append(e) -/
def wApp (i : Nat) (wa : WE) : WE := fun ρ Q => ownE ρ[i]? fun _ _ => wa ρ fun x ρ1 => ownE ρ1[i]? fun w xs => xs.length < sizeLine ∧ Q .non (ρ1.set i (.own w (xs ++ [x])))
/-- xs.pop(e) -/
def wPop (i : Nat) (wa : WE) : WE := fun ρ Q => ownE ρ[i]? fun _ _ => wa ρ fun x ρ1 => ownE ρ1[i]? fun w xs => match x with
  | .int k => (-(2 ^ 63) ≤ k ∧ k < 2 ^ 63) ∧ ∃ j y, seqIndex? k xs.length = some j ∧ xs[j]? = some y ∧ Q y (ρ1.set i (.own w (xs.eraseIdx j)))
  | _ => False
theorem qe_app {i : Nat} {x : Str} {p : Pos} (hN : X.N[i]? = some x) (hv : Vis X.env.scope x) (ha : QE X Φ e wa) (hd : (x == ("__debug__" : Str)) = false := by decide) (hcd : (x == ("__classdict__" : Str)) = false := by decide)
    (mk : ∀ ta tb, PE X (.Name x p) ta → PA X [e] tb → PE X c (tBM X.K "list" rAppend ta tb)) (hs : starEach (e :: []) X.env = (false, eval e X.env) :: starEach [] X.env := by rfl) : QE X Φ c (wApp i wa) := by
  refine ⟨fun ρ Q Q' h q => ownE_mono (fun _ _ q => ha.mono ρ _ _ (fun x ρ1 q1 => ownE_mono (fun w xs p => ⟨p.1, h _ _ p.2⟩) q1) q) q, PEw (mk _ _ (pe_var hN hv hd hcd) (pa_cons ha.run pa_nil hs)) fun σ H Q ⟨M, ρ, A, q⟩ => ?_⟩
  obtain ⟨w, xs, r, vs, e1, es, m, hh, rr, q⟩ := ownE_rp A q
  refine ⟨.ref r, es, .inl ⟨rfl, _, SqL.of hh⟩, M, ρ, A, ha.mono ρ _ _ (fun x ρ1 q1 => ?_) q⟩
  intro M1 v H1 A1 S1 r1
  obtain ⟨w1, xs1, r', vs1, e2, es2, m2, hh2, rr2, p⟩ := ownE_rp A1 q1
  rw [es] at es2; cases es2
  refine ⟨r, vs1, v, rfl, rfl, hh2, by rw [rr2.length]; exact p.1, ?_⟩
  have st : Step M1 H1 M1 (upd H1 r (.lst (vs1 ++ [v]))) := step_upd m2 hh2
  obtain ⟨A3, S3⟩ := A1.writeOwn e2 es upd_old upd_same ((rr2.append (.cons r1 .nil)).step st)
  exact p.2 M1 .non _ A3 (S1.trans S3) .non
theorem qe_pop {i : Nat} {x : Str} {p : Pos} (hN : X.N[i]? = some x) (hv : Vis X.env.scope x) (ha : QE X Φ e wa) (hd : (x == ("__debug__" : Str)) = false := by decide) (hcd : (x == ("__classdict__" : Str)) = false := by decide)
    (mk : ∀ ta tb, PE X (.Name x p) ta → PA X [e] tb → PE X c (tBM X.K "list" rPopAt ta tb)) (hs : starEach (e :: []) X.env = (false, eval e X.env) :: starEach [] X.env := by rfl) : QE X Φ c (wPop i wa) := by
  refine ⟨fun ρ Q Q' h q => ownE_mono (fun _ _ q => ha.mono ρ _ _ (fun x ρ1 q1 => ownE_mono (fun w xs p => ?_) q1) q) q, PEw (mk _ _ (pe_var hN hv hd hcd) (pa_cons ha.run pa_nil hs)) fun σ H Q ⟨M, ρ, A, q⟩ => ?_⟩
  · cases x <;> first | exact p.elim | exact ⟨p.1, let ⟨j, y, h1, h2, h3⟩ := p.2; ⟨j, y, h1, h2, h _ _ h3⟩⟩
  obtain ⟨w, xs, r, vs, e1, es, m, hh, rr, q⟩ := ownE_rp A q
  refine ⟨.ref r, es, .inl ⟨rfl, _, SqL.of hh⟩, M, ρ, A, ha.mono ρ _ _ (fun x ρ1 q1 => ?_) q⟩
  intro M1 v H1 A1 S1 r1
  obtain ⟨w1, xs1, r', vs1, e2, es2, m2, hh2, rr2, p⟩ := ownE_rp A1 q1
  rw [es] at es2; cases es2
  cases x with
  | int k =>
    cases r1
    obtain ⟨⟨l1, l2⟩, j, y, h1, h2, h3⟩ := p
    obtain ⟨yv, g1, g2⟩ := rr2.get h2
    refine ⟨r, vs1, k, j, yv, rfl, rfl, hh2, l1, l2, by rw [rr2.length]; exact h1, g1, ?_⟩
    have st : Step M1 H1 M1 (upd H1 r (.lst (vs1.eraseIdx j))) := step_upd m2 hh2
    obtain ⟨A3, S3⟩ := A1.writeOwn e2 es upd_old upd_same ((rr2.eraseIdx j).step st)
    exact h3 M1 yv _ A3 (S1.trans S3) (g2.step st)
  | _ => exact p.elim
/-- xs[k] = e -/
def wSetI (wa : WE) (i : Nat) (k : Nat) : WS := fun R ρ => wa ρ fun x ρ1 => ownE ρ1[i]? fun w xs => k < xs.length ∧ R.nx (ρ1.set i (.own w (xs.set k x)))
theorem qs_setI {i k : Nat} {x : Str} {p spos : Pos} {j ip} (hN : X.N[i]? = some x) (hv : Vis X.env.scope x) (ha : QE X Φ e wa) (hd : (x == ("__debug__" : Str)) = false := by decide) (hcd : (x == ("__classdict__" : Str)) = false := by decide)
    (hsub : ∀ v, assign (.Subscript (.Name x p) (.Constant (.int (k : Nat)) j ip) spos) X.env v = (do
      let ov ← holding [v] (eval (.Name x p) X.env)
      let iv ← holding [v, ov] (eval (.Constant (.int (k : Nat)) j ip) X.env)
      standAt spos
      holding [v, ov, iv] (setItem ov iv v)
      release [v, ov, iv] []) := by intro _; rfl)
    (hs : swapsWithSole [.Subscript (.Name x p) (.Constant (.int (k : Nat)) j ip) spos] e pos.line X.env = pure false := by rfl) (hw : swappedStores [.Subscript (.Name x p) (.Constant (.int (k : Nat)) j ip) spos] e X.env = pure none := by rfl)
    (h1 : (assignEach [.Subscript (.Name x p) (.Constant (.int (k : Nat)) j ip) spos] X.env).map (·.2) = [assign (.Subscript (.Name x p) (.Constant (.int (k : Nat)) j ip) spos) X.env] := by rfl) : QS X Φ (.Assign [.Subscript (.Name x p) (.Constant (.int (k : Nat)) j ip) spos] e pos) (wSetI wa i k) := by
  refine ⟨fun ρ R R' h q => ha.mono ρ _ _ (fun x ρ1 q1 => ownE_mono (fun w xs p => ⟨p.1, h.nx _ p.2⟩) q1) q, PSw (ps_asg ha.run (pg_sub (pe_var hN hv hd hcd) pe_int set_list hsub) hs hw h1) fun D σ H ⟨M, ρ, A, q⟩ => ?_⟩
  refine ⟨M, ρ, A, ha.mono ρ _ _ (fun x ρ1 q1 => ?_) q⟩
  intro M1 v H1 A1 S1 r1
  obtain ⟨w1, xs1, r, vs1, e2, es2, m2, hh2, rr2, hk, q2⟩ := ownE_rp A1 q1
  refine ⟨.ref r, es2, r, vs1, (k : Int), k, rfl, rfl, hh2, ?_, ?_⟩
  · unfold ixN
    rw [if_pos (by omega), if_pos (by rw [rr2.length]; omega)]
    rfl
  · have st : Step M1 H1 M1 (upd H1 r (.lst (vs1.set k v))) := step_upd m2 hh2
    obtain ⟨A3, S3⟩ := A1.writeOwn e2 es2 upd_old upd_same ((RpAll.set r1 k rr2).step st)
    exact q2 M1 σ _ A3 (S1.trans S3)

/-! ### calls of the text's own defs -/
abbrev ASp := List D → (D → Prop) → Prop
abbrev RSp := List D → List D → (D → List D → Prop) → Prop
def MonoA (s : ASp) : Prop := ∀ xs P P', (∀ y, P y → P' y) → s xs P → s xs P'
def MonoR (s : RSp) : Prop := ∀ r xs P P', (∀ y z, P y z → P' y z) → s r xs P → s r xs P'
/-- arguments as data; what stood stands; the answer as data -/
def liftSp (K : PySem.W.Frag) (s : ASp) : Sp := fun vs H Q E => ∃ M xs, (∀ p, M p → ∃ o, H p = some o ∧ MutO o) ∧ RpAll K M H vs xs ∧ s xs fun y => ∀ v H', Same H H' → Rp K M H' v y → Q v H'
/-- the first argument a list that may be changed -/
def liftRw (K : PySem.W.Frag) (s : RSp) : Sp := fun vs H Q E => ∃ M r us row ws xs, vs = .ref r :: ws ∧ M r ∧ (∀ p, M p → ∃ o, H p = some o ∧ MutO o) ∧ H r = some (.lst us) ∧ RpAll K M H us row ∧ RpAll K M H ws xs ∧
  s row xs fun y row' => ∀ v H' us', (∀ b o, b ≠ r → H b = some o → H' b = some o) → H' r = some (.lst us') → RpAll K M H' us' row' → Rp K M H' v y → Q v H'
def wCallS (s : ASp) (wr : WA) : WE := fun ρ Q => wr ρ fun xs ρ1 => s xs fun y => Q y ρ1
theorem wCallS_mono {s : ASp} (sm : MonoA s) (ha : QA X Φ es wr) : ∀ ρ Q Q', (∀ x ρ', Q x ρ' → Q' x ρ') → wCallS s wr ρ Q → wCallS s wr ρ Q' := fun ρ Q Q' h q => ha.mono ρ _ _ (fun xs ρ1 q1 => sm xs _ _ (fun y p => h y ρ1 p) q1) q
theorem lift_callS {s : ASp} (sm : MonoA s) (ha : QA X Φ es wr) {E : XK} : ∀ σ H Q, liftE Φ (wCallS s wr) σ H Q → tCall (liftSp Φ.K s) [] E (liftA Φ wr) σ H Q := by
  intro σ H Q ⟨M, ρ, A, q⟩
  refine ⟨M, ρ, A, ha.mono ρ _ _ (fun xs ρ1 q1 => ?_) q⟩
  intro M1 vs H1 A1 S1 r1
  rw [List.append_nil]
  refine ⟨M1, xs, A1.lst, r1, sm xs _ _ (fun y p v H' s' r' => ?_) q1⟩
  exact p M1 v H' (A1.same s') (S1.trans (step_same s')) r'
variable {k : Nat} {f : Addr} {fd : FuncData} {ps : List Str} {x : Str} {p : Pos} {CX : CXT} {E : XK}
theorem qe_call {s : ASp} (sm : MonoA s) (F : FnOk X.prog X.w X.K X.mg X.base CX k f fd ps (liftSp Φ.K s)) (hr : Room k X.A) (hm : X.mg x = some (.ref f)) (hk : PySem.W.keepIn X.K (.ref f) = true) (hb : Binds X.K fd ps []) (hx : Passes CX X E)
    (ha : QA X Φ (e :: es) wr) (hg : Gl X x := by rfl) (hdb : (x == ("__debug__" : Str)) = false := by decide) (he : starEach (e :: es) X.env = (false, eval e X.env) :: starEach es X.env := by rfl) (hpl : (backTo pos (starEach es X.env)).any (·.1) = false := by rfl) :
    QE X Φ (.Call (.Name x p) (e :: es) [] pos) (wCallS s wr) :=
  ⟨wCallS_mono sm ha, PEw (pe_call F hr hg hm hk hb .nil hx ha.run hdb he hpl) (lift_callS sm ha)⟩
/-- f(row, ..), row the name at slot i -/
def wCallR (s : RSp) (i : Nat) (wr : WA) : WE := fun ρ Q => ownE ρ[i]? fun _ _ => wr ρ fun xs ρ1 => ownE ρ1[i]? fun w row => s row xs fun y row' => Q y (ρ1.set i (.own w row'))
theorem qe_callR {s : RSp} {i : Nat} {y : Str} {py : Pos} (sm : MonoR s) (F : FnOk X.prog X.w X.K X.mg X.base CX k f fd ps (liftRw Φ.K s)) (hr : Room k X.A) (hm : X.mg x = some (.ref f)) (hk : PySem.W.keepIn X.K (.ref f) = true) (hb : Binds X.K fd ps []) (hx : Passes CX X E)
    (hN : X.N[i]? = some y) (hv : Vis X.env.scope y) (ha : QA X Φ es wr) (hg : Gl X x := by rfl) (hdb : (x == ("__debug__" : Str)) = false := by decide) (hdy : (y == ("__debug__" : Str)) = false := by decide) (hcd : (y == ("__classdict__" : Str)) = false := by decide)
    (he : starEach (.Name y py :: es) X.env = (false, eval (.Name y py) X.env) :: starEach es X.env := by rfl) (hpl : (backTo pos (starEach es X.env)).any (·.1) = false := by rfl) :
    QE X Φ (.Call (.Name x p) (.Name y py :: es) [] pos) (wCallR s i wr) := by
  refine ⟨fun ρ Q Q' h q => ownE_mono (fun _ _ q => ha.mono ρ _ _ (fun xs ρ1 q1 => ownE_mono (fun w row q2 => sm row xs _ _ (fun y z p => h _ _ p) q2) q1) q) q, PEw (pe_call F hr hg hm hk hb .nil hx (pa_cons (pe_var hN hv hdy hcd) ha.run he) hdb he hpl) fun σ H Q ⟨M, ρ, A, q⟩ => ?_⟩
  obtain ⟨w, xs, r, vs, e1, es1, m, hh, rr, q⟩ := ownE_rp A q
  refine ⟨.ref r, es1, M, ρ, A, ha.mono ρ _ _ (fun xs1 ρ1 q1 => ?_) q⟩
  intro M1 vs1 H1 A1 S1 r1
  obtain ⟨w1, row, r', us, e2, es2, m2, hh2, rr2, q2⟩ := ownE_rp A1 q1
  rw [es1] at es2; cases es2
  rw [List.append_nil]
  refine ⟨M1, r, us, row, vs1, xs1, rfl, m2, A1.lst, hh2, rr2, r1, sm row xs1 _ _ (fun z row' p v H' us' old new rw' rv => ?_) q2⟩
  obtain ⟨A3, S3⟩ := A1.writeOwn e2 es1 old new rw'
  exact p M1 v H' A3 (S1.trans S3) rv
end

/-! ### a def keeps its promise -/
section
variable {P : Program} {w : World} {K : PySem.W.Frag} {mg : Str → Option Value} {base : Heap}
def startE (N ps : List Str) (xs : List D) : Ev := xs.map En.d ++ List.replicate (N.length - xs.length) En.un
theorem start_abs {M : Addr → Prop} {H : Hp} {N : List Str} {vs : List V} {xs : List D} {Φ : Cl} (h : RpAll Φ.K M H vs xs) (hm : ∀ p, M p → ∃ o, H p = some o ∧ MutO o) (h1 : Φ.M0 = M) (h2 : ∀ a, Φ.W a → Φ.M0 a) (h3 : Φ.H0 = H) (h4 : ∀ a, Φ.T a = none) (h5 : ∀ P q, Φ.TB P = some q → M P ∧ Φ.W P ∧ Φ.T P = none ∧ TabM M H P q) :
    Abs Φ M (L2.start N vs) H (startE N [] xs) := by
  have hl := h.length
  have hs : ∀ (i : Nat) (e : En), (startE N [] xs)[i]? = some e → (∃ x, xs[i]? = some x ∧ e = .d x) ∨ (xs.length ≤ i ∧ e = .un) := fun i e he => by
    unfold startE at he
    by_cases hi : i < xs.length
    · rw [List.getElem?_append_left (by rw [List.length_map]; exact hi), List.getElem?_map, List.getElem?_eq_getElem hi] at he
      cases he
      exact .inl ⟨_, List.getElem?_eq_getElem hi, rfl⟩
    · rw [List.getElem?_append_right (by rw [List.length_map]; omega)] at he
      exact .inr ⟨by omega, List.eq_of_mem_replicate (List.mem_of_getElem? he)⟩
  refine ⟨?_, fun i e o he ho => ?_, fun i j a w1 w2 ys zs q1 q2 q3 q4 => ?_, hm, fun a ha => by rw [h1] at ha; exact ha, fun a o q _ => by rw [h3] at q; exact q, h2, fun a o q => (by rw [h4 a] at q; cases q), fun i j a ys zs q1 _ _ _ => (by rcases hs i _ q1 with ⟨x, hx, e⟩ | ⟨_, e⟩ <;> cases e), h5, fun i j w F P en a _ q1 _ _ => (by rcases hs i _ q1 with ⟨x, hx, e⟩ | ⟨_, e⟩ <;> cases e)⟩
  · unfold L2.start startE
    rw [List.length_append, List.length_append, List.length_map, List.length_map, List.length_replicate, List.length_replicate, hl]
  · rcases hs i e he with ⟨x, hx, rfl⟩ | ⟨_, rfl⟩
    · obtain ⟨v, hv, r⟩ := h.get hx
      refine ⟨v, ?_, r⟩
      unfold L2.start at ho
      have hi : i < vs.length := (List.getElem?_eq_some_iff.mp hv).1
      rw [List.getElem?_append_left (by rw [List.length_map]; exact hi), List.getElem?_map, hv] at ho
      cases ho; rfl
    · trivial
  · rcases hs i _ q1 with ⟨x, hx, e⟩ | ⟨_, e⟩ <;> cases e
def clOf (K : PySem.W.Frag) (M W : Addr → Prop) (H : Hp) : Cl := ⟨K, M, W, H, fun _ => none, noTb⟩
/-- from the readings over data to the promise -/
theorem fn_ok {x qual : Str} {st : Stmt} {f : Addr} {fd : FuncData} {N ps : List Str} {k : Nat} {s : ASp} {wb : WS} (F : Fun K x qual st f fd) (S : FnScope N ps (defScope st)) (len : ∀ xs Q, s xs Q → xs.length = ps.length)
    (body : ∀ (cdv : Value) (A : Around) (outer : List PySem.Env) (s₀ : Shared) (H : Hp) (E : XK) (M W : Addr → Prop) (H0 T : Hp) [ClOk ⟨K, M, W, H0, T, noTb⟩], Room k (A.deeper (envOfC qual (defScope st) s₀.heap.objs.size f cdv)) → QSs (cxOf CX0 P w K mg base N qual (defScope st) f cdv A outer s₀ H E).nox ⟨K, M, W, H0, T, noTb⟩ (defBody st) wb)
    (read : ∀ xs Q, s xs Q → wb { nx := fun _ => Q .non, rt := fun y _ => Q y } (startE N [] xs)) : FnOk P w K mg base CX0 (k + 1) f fd ps (liftSp K s) := by
  refine F.ok S (fun vs H Q E h => ?_) (fun cdv A outer s₀ H vs Q E hr h => ?_)
  · obtain ⟨M, xs, _, r, q⟩ := h
    rw [r.length]; exact len _ _ q
  · obtain ⟨M, xs, hm, r, q⟩ := h
    haveI : ClOk ⟨K, M, fun _ => False, H, fun _ => none, noTb⟩ := ⟨fun b hb => let ⟨us, z, _⟩ := hm b hb; ⟨_, z⟩⟩
    have B := body cdv A outer s₀ H E M (fun _ => False) H (fun _ => none) hr
    refine ⟨_, B.run, M, startE N [] xs, start_abs r hm rfl (fun a h => h.elim) rfl (fun _ => rfl) (fun P q e => by cases e), B.mono _ { nx := fun _ => ∀ v H', Same H H' → Rp K M H' v .non → Q v H', rt := fun y _ => ∀ v H', Same H H' → Rp K M H' v y → Q v H' } _ ⟨fun ρ q => ?_, fun y ρ q => ?_, fun _ q => q.elim, fun _ q => q.elim⟩ (read xs _ q)⟩
    · intro M' σ' H' A' S'
      exact q .non H' (fun a o e => A'.keep a o e fun z => z) .non
    · intro M' σ' v H' A' S' r'
      exact q v H' (fun a o e => A'.keep a o e fun z => z) (r'.step ⟨fun a o h e => ⟨fun z => h (A'.m0 a z), e⟩, fun _ _ e => e, fun _ _ _ e => e⟩)
def startR (N : List Str) (row xs : List D) : Ev := .own true row :: (xs.map En.d ++ List.replicate (N.length - (xs.length + 1)) En.un)
theorem start_absR {M : Addr → Prop} {H : Hp} {N : List Str} {r : Addr} {us vs : List V} {row xs : List D} {Φ : Cl} (h : RpAll Φ.K M H vs xs) (hr : M r) (hu : H r = some (.lst us)) (hw : RpAll Φ.K M H us row) (hm : ∀ p, M p → ∃ o, H p = some o ∧ MutO o) (h1 : Φ.M0 = M) (h2 : ∀ a, Φ.W a ↔ a = r) (h3 : Φ.H0 = H) (h4 : ∀ a, Φ.T a = none) (h5 : Φ.TB = fun _ => none) :
    Abs Φ M (L2.start N (.ref r :: vs)) H (startR N row xs) := by
  have hl := h.length
  have hs : ∀ (i : Nat) (e : En), (startR N row xs)[i]? = some e → (i = 0 ∧ e = .own true row) ∨ (∃ j x, i = j + 1 ∧ xs[j]? = some x ∧ e = .d x) ∨ e = .un := fun i e he => by
    unfold startR at he
    match i, he with
    | 0, he => cases he; exact .inl ⟨rfl, rfl⟩
    | j + 1, he =>
      rw [List.getElem?_cons_succ] at he
      by_cases hi : j < xs.length
      · rw [List.getElem?_append_left (by rw [List.length_map]; exact hi), List.getElem?_map, List.getElem?_eq_getElem hi] at he
        cases he
        exact .inr (.inl ⟨j, _, rfl, List.getElem?_eq_getElem hi, rfl⟩)
      · rw [List.getElem?_append_right (by rw [List.length_map]; omega)] at he
        exact .inr (.inr (List.eq_of_mem_replicate (List.mem_of_getElem? he)))
  have h0 : (L2.start N (.ref r :: vs))[0]? = some (some (.ref r)) := by unfold L2.start; rfl
  refine ⟨?_, fun i e o he ho => ?_, fun i j a w1 w2 ys zs q1 q2 q3 q4 => ?_, hm, fun a ha => by rw [h1] at ha; exact ha, fun a o q _ => by rw [h3] at q; exact q, fun a q => by rw [(h2 a).mp q, h1]; exact hr, fun a o q => (by rw [h4 a] at q; cases q), fun i j a ys zs q1 _ _ _ => (by rcases hs i _ q1 with ⟨_, e⟩ | ⟨_, x, _, hx, e⟩ | e <;> cases e), (fun P q e => by rw [h5] at e; cases e), fun i j w F P en a _ q1 _ _ => (by rcases hs i _ q1 with ⟨_, e⟩ | ⟨_, x, _, hx, e⟩ | e <;> cases e)⟩
  · unfold L2.start startR
    simp only [List.length_append, List.length_cons, List.length_map, List.length_replicate, hl]
    omega
  · rcases hs i e he with ⟨rfl, rfl⟩ | ⟨j, x, rfl, hx, rfl⟩ | rfl
    · rw [h0] at ho; cases ho
      exact ⟨r, us, rfl, hr, hu, hw, (h2 r).mpr rfl, h4 r⟩
    · obtain ⟨v, hv, rr⟩ := h.get hx
      refine ⟨v, ?_, rr⟩
      unfold L2.start at ho
      have hi : j < vs.length := (List.getElem?_eq_some_iff.mp hv).1
      rw [List.getElem?_append_left (by rw [List.length_map, List.length_cons]; omega), List.getElem?_map, List.getElem?_cons_succ, hv] at ho
      cases ho; rfl
    · trivial
  · rcases hs i _ q1 with ⟨rfl, _⟩ | ⟨_, x, _, hx, e⟩ | e
    · rcases hs j _ q2 with ⟨rfl, _⟩ | ⟨_, x, _, hx, e⟩ | e
      · rfl
      · cases e
      · cases e
    · cases e
    · cases e
theorem fn_okR {x qual : Str} {st : Stmt} {f : Addr} {fd : FuncData} {N ps : List Str} {k : Nat} {s : RSp} {wb : WS} (F : Fun K x qual st f fd) (S : FnScope N ps (defScope st)) (len : ∀ row xs Q, s row xs Q → xs.length + 1 = ps.length)
    (hσ : ∀ (cdv : Value) (A : Around) (outer : List PySem.Env) (s₀ : Shared) (H : Hp) (E : XK), True)
    (body : ∀ (cdv : Value) (A : Around) (outer : List PySem.Env) (s₀ : Shared) (H : Hp) (E : XK) (M W : Addr → Prop) (H0 T : Hp) [ClOk ⟨K, M, W, H0, T, noTb⟩], Room k (A.deeper (envOfC qual (defScope st) s₀.heap.objs.size f cdv)) → QSs (cxOf CX0 P w K mg base N qual (defScope st) f cdv A outer s₀ H E).nox ⟨K, M, W, H0, T, noTb⟩ (defBody st) wb)
    (read : ∀ row xs Q, s row xs Q → wb { nx := fun ρ => ownE ρ[0]? fun w row' => w = true ∧ Q .non row', rt := fun y ρ => ownE ρ[0]? fun w row' => w = true ∧ Q y row' } (startR N row xs)) : FnOk P w K mg base CX0 (k + 1) f fd ps (liftRw K s) := by
  refine F.ok S (fun vs H Q E h => ?_) (fun cdv A outer s₀ H vs Q E hr h => ?_)
  · obtain ⟨M, r, us, row, ws, xs, rfl, _, _, _, _, rw', q⟩ := h
    rw [List.length_cons, rw'.length]; exact len _ _ _ q
  · obtain ⟨M, r, us, row, ws, xs, rfl, hM, hm, hu, hrow, hws, q⟩ := h
    haveI : ClOk ⟨K, M, fun a => a = r, H, fun _ => none, noTb⟩ := ⟨fun b hb => let ⟨us, z, _⟩ := hm b hb; ⟨_, z⟩⟩
    have B := body cdv A outer s₀ H E M (fun a => a = r) H (fun _ => none) hr
    have fin : ∀ {y : D} {ρ : Ev} {M' : Addr → Prop} {σ' : L2.St} {v : V} {H' : Hp}, Abs (clOf K M (fun a => a = r) H) M' σ' H' ρ → Rp K M' H' v y →
        (ownE ρ[0]? fun w row' => w = true ∧ ∀ v H' us', (∀ b o, b ≠ r → H b = some o → H' b = some o) → H' r = some (.lst us') → RpAll K M H' us' row' → Rp K M H' v y → Q v H') → Q v H' := fun {y ρ M' σ' v H'} A' r' q => by
      have st : Step M' H' M H' := ⟨fun a o h e => ⟨fun z => h (A'.m0 a z), e⟩, fun _ _ e => e, fun _ _ _ e => e⟩
      cases he : ρ[0]? with
      | none => rw [he] at q; exact q.elim
      | some en =>
        have hi : 0 < σ'.length := by rw [A'.len]; exact (List.getElem?_eq_some_iff.mp he).1
        have sl := A'.slot 0 en _ he (List.getElem?_eq_getElem hi)
        rw [he] at q
        cases en with
        | un => exact q.elim
        | d x => exact q.elim
        | dic ks => exact q.elim
        | obj w F P => exact q.elim
        | own w xs =>
          obtain ⟨rfl, q⟩ := q
          obtain ⟨a, vs', e1, m1, h1, r1, z, t⟩ := sl
          have z' : a = r := z
          subst z'
          exact q v H' vs' (fun b o n e => A'.keep b o e n) h1 (r1.step st) (r'.step st)
    refine ⟨_, B.run, M, startR N row xs, start_absR hws hM hu hrow hm rfl (fun a => Iff.rfl) rfl (fun _ => rfl) rfl, B.mono _ { nx := fun ρ => ownE ρ[0]? fun w row' => w = true ∧ ∀ v H' us', (∀ b o, b ≠ r → H b = some o → H' b = some o) → H' r = some (.lst us') → RpAll K M H' us' row' → Rp K M H' v .non → Q v H', rt := fun y ρ => ownE ρ[0]? fun w row' => w = true ∧ ∀ v H' us', (∀ b o, b ≠ r → H b = some o → H' b = some o) → H' r = some (.lst us') → RpAll K M H' us' row' → Rp K M H' v y → Q v H' } _ ⟨fun ρ q => ?_, fun y ρ q => ?_, fun _ q => q.elim, fun _ q => q.elim⟩ (read row xs _ q)⟩
    · intro M' σ' H' A' S'
      exact fin A' .non q
    · intro M' σ' v H' A' S' r'
      exact fin A' r' q
end
end AL
set_option Elab.async false
set_option linter.all false
set_option maxHeartbeats 4000000
set_option maxRecDepth 100000
namespace AL
open PySem PySem.Spec PyProof.Rows L2

/-! ### numbers, lists of numbers -/
theorem rp_ints {K : PySem.W.Frag} {M : Addr → Prop} {H : Hp} : ∀ {ns : List Int} {vs : List V}, RpAll K M H vs (ns.map D.int) → vs = ns.map V.int
  | [], _, .nil => rfl
  | n :: ns, _, .cons r t => by
    have e := rp_ints t
    cases r
    rw [List.map_cons, e]
theorem ints_rp {K : PySem.W.Frag} {M : Addr → Prop} {H : Hp} : ∀ ns : List Int, RpAll K M H (ns.map V.int) (ns.map D.int)
  | [] => .nil
  | n :: ns => .cons (.int n) (ints_rp ns)
def kI2 (C : Int → Int → Prop) (f : Int → Int → D) : K2 := fun x y P => match x, y with
  | .int i, .int j => C i j ∧ P (f i j)
  | _, _ => False
theorem kI2_mono {C : Int → Int → Prop} {f : Int → Int → D} : Mono2 (kI2 C f) := fun x y P P' h q => by
  cases x <;> cases y <;> first | exact q.elim | exact ⟨q.1, h _ q.2⟩
theorem kI2_op {C : Int → Int → Prop} {f : Int → Int → D} {K : PySem.W.Frag} {g : Int → Int → V} (hfg : ∀ M H i j, Rp K M H (g i j) (f i j)) : Op2 K (rI C g) (kI2 C f) := fun M H v u x y P Q r1 r2 _ q fin => by
  cases x <;> cases y <;> first | exact q.elim | exact ⟨_, _, r1.int, r2.int, q.1, fin _ _ H q.2 (Same.refl H) (hfg M H _ _)⟩
def kI (f : Int → Int → D) : K2 := fun x y P => match x, y with
  | .int i, .int j => P (f i j)
  | _, _ => False
theorem kI_mono {f : Int → Int → D} : Mono2 (kI f) := fun x y P P' h q => by
  cases x <;> cases y <;> first | exact q.elim | exact h _ q
theorem kI_op {f : Int → Int → D} {K : PySem.W.Frag} {g : Int → Int → V} (hfg : ∀ M H i j, Rp K M H (g i j) (f i j)) : Op2 K (rI0 g) (kI f) := fun M H v u x y P Q r1 r2 _ q fin => by
  cases x <;> cases y <;> first | exact q.elim | exact ⟨_, _, r1.int, r2.int, fin _ _ H q (Same.refl H) (hfg M H _ _)⟩
def kSub : K2 := kI fun i j => .int (i - j)
def kMul : K2 := kI2 CMul fun i j => .int (i * j)
def kMod : K2 := kI2 (fun _ j => 0 < j) fun i j => .int (i % j)
def kDiv : K2 := kI2 CDiv fun i j => .int (i / j)
def kPow : K2 := kI2 CPow fun i j => .int (i ^ j.toNat)
def kLt : K2 := kI fun i j => .bl (decide (i < j))
def kLe : K2 := kI fun i j => .bl (decide (i ≤ j))
def kGt : K2 := kI fun i j => .bl (decide (j < i))
def kGe : K2 := kI fun i j => .bl (decide (j ≤ i))
/-- + of numbers, lists, tuples, texts -/
def kAdd : K2 := fun x y P => match x, y with
  | .int i, .int j => P (.int (i + j))
  | .lst xs, .lst ys => xs.length + ys.length ≤ sizeLine ∧ P (.lst (xs ++ ys))
  | .tup xs, .tup ys => xs.length + ys.length ≤ sizeLine ∧ P (.tup (xs ++ ys))
  | .str a, .str b => a.length + b.length ≤ sizeLine ∧ P (.str (a ++ b))
  | _, _ => False
theorem kAdd_mono : Mono2 kAdd := fun x y P P' h q => by
  cases x <;> cases y <;> first | exact q.elim | exact h _ q | exact ⟨q.1, h _ q.2⟩
section
variable {X : Cx}
theorem op_addA : OpR X (binaryOp .Add) (fun x y H Q => rI0 (fun i j => .int (i + j)) x y H Q ∨ rCat x y H Q ∨ rCatA X.K x y H Q ∨ (∃ i j, x = .str i ∧ y = .str j ∧ i.length + j.length ≤ sizeLine ∧ Q (.str (i ++ j)) H)) :=
  op_add.or (op_cat.or (op_catA.or op_add_str))
/-- a new list stands outside of M -/
theorem rp_newL {K : PySem.W.Frag} {M : Addr → Prop} {H : Hp} {p : Addr} {vs : List V} {ds : List D} (hM : ∀ a, M a → ∃ o, H a = some o) (hp : H p = none) (r : RpAll K M H vs ds) : Rp K M (upd H p (.lst vs)) (.ref p) (.lst ds) :=
  .lst (fun z => by obtain ⟨o, q⟩ := hM p z; rw [hp] at q; cases q) upd_same (r.step (step_same (same_upd hp)))
theorem rp_newT {K : PySem.W.Frag} {M : Addr → Prop} {H : Hp} {p : Addr} {vs : List V} {ds : List D} (hp : H p = none) (r : RpAll K M H vs ds) : Rp K M (upd H p (.tup vs)) (.ref p) (.tup ds) :=
  .tup upd_same (r.step (step_same (same_upd hp)))
theorem kAdd_op {K : PySem.W.Frag} : Op2 K (fun x y H Q => rI0 (fun i j => .int (i + j)) x y H Q ∨ rCat x y H Q ∨ rCatA K x y H Q ∨ (∃ i j, x = .str i ∧ y = .str j ∧ i.length + j.length ≤ sizeLine ∧ Q (.str (i ++ j)) H)) kAdd := fun M H v u x y P Q r1 r2 hM q fin => by
  cases x <;> cases y <;> first
    | exact q.elim
    | exact .inl ⟨_, _, r1.int, r2.int, fin _ _ H q (Same.refl H) (.int _)⟩
    | exact .inr (.inr (.inr ⟨_, _, r1.str, r2.str, q.1, fin _ _ H q.2 (Same.refl H) (.str _)⟩))
    | skip
  · obtain ⟨a, vs, rfl, ha, ra⟩ := r1.tup
    obtain ⟨b, us, rfl, hb, rb⟩ := r2.tup
    refine .inr (.inr (.inl ⟨a, b, vs, us, rfl, rfl, .of ha, .of hb, by rw [ra.length, rb.length]; exact q.1, fun e => ?_, fun _ e => ?_, fun _ _ p hp => ?_⟩))
    · subst e
      have e2 := List.length_eq_zero_iff.mp (ra.length.symm.trans rfl)
      refine fin _ _ H q.2 (Same.refl H) ?_
      rw [e2]
      exact .tup hb rb
    · subst e
      have e2 := List.length_eq_zero_iff.mp (rb.length.symm.trans rfl)
      refine fin _ _ H q.2 (Same.refl H) ?_
      rw [e2, List.append_nil]
      exact .tup ha ra
    · exact fin _ _ _ q.2 (same_upd hp) (rp_newT hp (ra.append rb))
  · obtain ⟨a, vs, rfl, ha, ra⟩ := r1.lst
    obtain ⟨b, us, rfl, hb, rb⟩ := r2.lst
    exact .inr (.inl ⟨a, b, vs, us, rfl, rfl, ha, hb, by rw [ra.length, rb.length]; exact q.1, fun p hp => fin _ _ _ q.2 (same_upd hp) (rp_newL hM hp (ra.append rb))⟩)
/-- a list: xs[i]; a tuple: t[i] -/
def kIx : K2 := fun x y P => match x, y with
  | .lst xs, .int i => ∃ d, atI xs i = some d ∧ P d
  | .tup xs, .int i => ∃ d, atI xs i = some d ∧ P d
  | .scr ns, .int i => ∃ n, atI ns i = some n ∧ P (.int n)
  | _, _ => False
theorem kIx_mono : Mono2 kIx := fun x y P P' h q => by
  cases x <;> cases y <;> first | exact q.elim | exact (let ⟨d, e, p⟩ := q; ⟨d, e, h _ p⟩)
theorem atI_rp {K : PySem.W.Frag} {M : Addr → Prop} {H : Hp} {vs : List V} {ds : List D} {i : Int} {d : D} (r : RpAll K M H vs ds) (h : atI ds i = some d) : ∃ v, atI vs i = some v ∧ Rp K M H v d := by
  unfold atI at h ⊢
  rw [r.length]
  cases e : ixN ds.length i with
  | none => rw [e] at h; cases h
  | some j =>
    rw [e] at h
    exact r.get h
theorem RpB.scr {K : PySem.W.Frag} {M : Addr → Prop} {H : Hp} {v : V} {ns : List Int} (r : RpB K M H v (.scr ns)) : ∃ a, v = .ref a ∧ ScrAt K M H a ns := by
  rcases r with r | ⟨a, vs, ds', e, e2, h, r⟩
  · cases r with
    | scr h => exact ⟨_, rfl, h⟩
  · cases e2
theorem atI_ints {ns : List Int} {i n : Int} (h : atI ns i = some n) : atI (ns.map V.int) i = some (.int n) := by
  unfold atI at h ⊢
  rw [List.length_map]
  cases e : ixN ns.length i with
  | none => rw [e] at h; cases h
  | some j =>
    rw [e] at h
    have h' : ns[j]? = some n := h
    show (ns.map V.int)[j]? = some (.int n)
    rw [List.getElem?_map, h']; rfl
theorem kIx_op {K : PySem.W.Frag} : Op2 K (rIx K) kIx := fun M H v u x y P Q r1 r2 hM q fin => by
  cases x <;> cases y <;> first
    | exact q.elim
    | skip
  · obtain ⟨a, vs, rfl, ha, ra⟩ := r1.tup
    obtain ⟨d, e, p⟩ := q
    obtain ⟨z, hz, rz⟩ := atI_rp ra e
    exact .inr (.inl ⟨a, vs, _, z, rfl, r2.int, .of ha, hz, fin _ _ H p (Same.refl H) rz⟩)
  · obtain ⟨a, vs, rfl, ha, ra⟩ := r1.lst
    obtain ⟨d, e, p⟩ := q
    obtain ⟨z, hz, rz⟩ := atI_rp ra e
    exact .inl ⟨a, vs, _, z, rfl, r2.int, .of ha, hz, fin _ _ H p (Same.refl H) rz⟩
  · obtain ⟨a, rfl, hs⟩ := r1.scr
    obtain ⟨n, e, p⟩ := q
    exact .inl ⟨a, _, _, .int n, rfl, r2.int, hs.sq, atI_ints e, fin _ _ H p (Same.refl H) (.int n)⟩
/-- is None, is not None -/
def kIsN : K2 := fun x y P => match y with
  | .non => (match x with | .non => P (.bl true) | .raw _ => False | .dct _ => False | .thk _ => False | .scr _ => False | _ => P (.bl false))
  | _ => False
def kNotN : K2 := fun x y P => match y with
  | .non => (match x with | .non => P (.bl false) | .raw _ => False | .dct _ => False | .thk _ => False | .scr _ => False | _ => P (.bl true))
  | _ => False
theorem kIsN_mono : Mono2 kIsN := fun x y P P' h q => by cases y <;> first | exact q.elim | (cases x <;> first | exact q.elim | exact h _ q)
theorem kNotN_mono : Mono2 kNotN := fun x y P P' h q => by cases y <;> first | exact q.elim | (cases x <;> first | exact q.elim | exact h _ q)
end

/-! ### data that can be compared -/
mutual
theorem Rp.dp {K : PySem.W.Frag} {M : Addr → Prop} {H : Hp} : ∀ {d : D} {v : V}, d.plain = true → Rp K M H v d → Dp K H v d.py
  | _, _, _, .non => .non
  | _, _, _, .bl b => .bl b
  | _, _, _, .int i => .int i
  | _, _, _, .str x => .str x
  | _, _, h, .tup e r => .tup (.of e) (RpAll.dp h r)
  | _, _, h, .lst m e r => .lst (.of e) (RpAll.dp h r)
  | .scr w, _, h, r => by simp [D.plain] at h
  | .raw w, _, h, r => by simp [D.plain] at h
  | .dct w, _, h, r => by simp [D.plain] at h
  | .dkt w u, _, h, r => by simp [D.plain] at h
  | .thk w, _, h, r => by simp [D.plain] at h
theorem RpAll.dp {K : PySem.W.Frag} {M : Addr → Prop} {H : Hp} : ∀ {ds : List D} {vs : List V}, D.plains ds = true → RpAll K M H vs ds → DpAll K H vs (D.pys ds)
  | _, _, _, .nil => .nil
  | _, _, h, .cons r t => by
    have h' := Bool.and_eq_true_iff.mp h
    exact .cons (Rp.dp h'.1 r) (RpAll.dp h'.2 t)
end
theorem RpB.dp {K : PySem.W.Frag} {M : Addr → Prop} {H : Hp} {d : D} {v : V} (h : d.plain = true) (r : RpB K M H v d) : Dp K H v d.py := by
  rcases r with r | ⟨a, vs, ds, rfl, rfl, e, r⟩
  · exact r.dp h
  · exact .lst (.of e) (RpAll.dp h r)
/-- can be compared -/
def okD (d : D) : Bool := d.plain && SeqAt.shaped d.py
def eqD (x y : D) : Bool := PyData.eqv x.py y.py
def kEq : K2 := fun x y P => okD x = true ∧ okD y = true ∧ P (.bl (eqD x y))
def kNe : K2 := fun x y P => okD x = true ∧ okD y = true ∧ P (.bl (!eqD x y))
theorem kEq_mono : Mono2 kEq := fun x y P P' h q => ⟨q.1, q.2.1, h _ q.2.2⟩
theorem kNe_mono : Mono2 kNe := fun x y P P' h q => ⟨q.1, q.2.1, h _ q.2.2⟩
theorem kEq_op {K : PySem.W.Frag} : Op2 K (rEqD K) kEq := fun M H v u x y P Q r1 r2 hM q fin => by
  obtain ⟨o1, o2, p⟩ := q
  have h1 := Bool.and_eq_true_iff.mp o1
  have h2 := Bool.and_eq_true_iff.mp o2
  exact ⟨_, _, r1.dp h1.1, r2.dp h2.1, h1.2, h2.2, fin _ _ H p (Same.refl H) (.bl _)⟩
theorem kNe_op {K : PySem.W.Frag} : Op2 K (rNeD K) kNe := fun M H v u x y P Q r1 r2 hM q fin => by
  obtain ⟨o1, o2, p⟩ := q
  have h1 := Bool.and_eq_true_iff.mp o1
  have h2 := Bool.and_eq_true_iff.mp o2
  exact ⟨_, _, r1.dp h1.1, r2.dp h2.1, h1.2, h2.2, fin _ _ H p (Same.refl H) (.bl _)⟩
theorem kIsN_op {K : PySem.W.Frag} : Op2 K (fun x y H Q => y = .non ∧ Q (.bl (decide (x = .non))) H) kIsN := fun M H v u x y P Q r1 r2 hM q fin => by
  cases y with
  | non =>
    refine ⟨r2.non, ?_⟩
    cases x with
    | non => rw [r1.non]; exact fin _ _ H q (Same.refl H) (.bl _)
    | bl b => rw [r1.bl]; exact fin _ _ H q (Same.refl H) (.bl _)
    | int b => rw [r1.int]; exact fin _ _ H q (Same.refl H) (.bl _)
    | str b => rw [r1.str]; exact fin _ _ H q (Same.refl H) (.bl _)
    | tup b => obtain ⟨a, vs, rfl, _⟩ := r1.tup; exact fin _ _ H q (Same.refl H) (.bl _)
    | lst b => obtain ⟨a, vs, rfl, _⟩ := r1.lst; exact fin _ _ H q (Same.refl H) (.bl _)
    | scr w => exact q.elim
    | raw w => exact q.elim
    | dct w => exact q.elim
    | thk w => exact q.elim
    | dkt b c => obtain ⟨a, vs, rfl, _⟩ := r1.dkt; exact fin _ _ H q (Same.refl H) (.bl _)
  | _ => exact q.elim
theorem kNotN_op {K : PySem.W.Frag} : Op2 K (fun x y H Q => y = .non ∧ Q (.bl (!decide (x = .non))) H) kNotN := fun M H v u x y P Q r1 r2 hM q fin => by
  cases y with
  | non =>
    refine ⟨r2.non, ?_⟩
    cases x with
    | non => rw [r1.non]; exact fin _ _ H q (Same.refl H) (.bl _)
    | bl b => rw [r1.bl]; exact fin _ _ H q (Same.refl H) (.bl _)
    | int b => rw [r1.int]; exact fin _ _ H q (Same.refl H) (.bl _)
    | str b => rw [r1.str]; exact fin _ _ H q (Same.refl H) (.bl _)
    | tup b => obtain ⟨a, vs, rfl, _⟩ := r1.tup; exact fin _ _ H q (Same.refl H) (.bl _)
    | lst b => obtain ⟨a, vs, rfl, _⟩ := r1.lst; exact fin _ _ H q (Same.refl H) (.bl _)
    | scr w => exact q.elim
    | raw w => exact q.elim
    | dct w => exact q.elim
    | thk w => exact q.elim
    | dkt b c => obtain ⟨a, vs, rfl, _⟩ := r1.dkt; exact fin _ _ H q (Same.refl H) (.bl _)
  | _ => exact q.elim

/-! ### in, not in: flat things -/
def D.flat : D → Bool
  | .non => true
  | .bl _ => true
  | .int _ => true
  | .str _ => true
  | _ => false
def D.v : D → V
  | .non => .non
  | .bl b => .bl b
  | .int i => .int i
  | .str x => .str x
  | _ => .non
theorem flat_rp {K : PySem.W.Frag} {M : Addr → Prop} {H : Hp} {v : V} {d : D} (h : d.flat = true) (r : RpB K M H v d) : v = d.v ∧ flatV v = true := by
  cases d with
  | non => rw [r.non]; exact ⟨rfl, rfl⟩
  | bl b => rw [r.bl]; exact ⟨rfl, rfl⟩
  | int b => rw [r.int]; exact ⟨rfl, rfl⟩
  | str b => rw [r.str]; exact ⟨rfl, rfl⟩
  | _ => cases h
theorem flats_rp {K : PySem.W.Frag} {M : Addr → Prop} {H : Hp} : ∀ {ds : List D} {vs : List V}, ds.all D.flat = true → RpAll K M H vs ds → vs = ds.map D.v ∧ vs.all flatV = true
  | _, _, _, .nil => ⟨rfl, rfl⟩
  | d :: ds, v :: vs, h, .cons r t => by
    rw [List.all_cons, Bool.and_eq_true] at h
    obtain ⟨e1, e2⟩ := flat_rp h.1 (.inl r)
    obtain ⟨e3, e4⟩ := flats_rp h.2 t
    exact ⟨by rw [List.map_cons, ← e1, ← e3], by rw [List.all_cons, e2, e4]; rfl⟩
def inD (x : D) (xs : List D) : Bool := inV x.v (xs.map D.v)
def kIn (neg : Bool) : K2 := fun x y P => match y with
  | .lst xs => x.flat = true ∧ xs.all D.flat = true ∧ P (.bl (if neg then !inD x xs else inD x xs))
  | .tup xs => x.flat = true ∧ xs.all D.flat = true ∧ P (.bl (if neg then !inD x xs else inD x xs))
  | _ => False
theorem kIn_mono {neg : Bool} : Mono2 (kIn neg) := fun x y P P' h q => by
  cases y <;> first | exact q.elim | exact ⟨q.1, q.2.1, h _ q.2.2⟩
theorem kIn_op {K : PySem.W.Frag} {neg : Bool} : Op2 K (rIn K neg) (kIn neg) := fun M H v u x y P Q r1 r2 hM q fin => by
  cases y <;> first
    | exact q.elim
    | skip
  · obtain ⟨a, vs, rfl, ha, ra⟩ := r2.tup
    obtain ⟨o1, o2, p⟩ := q
    obtain ⟨e1, e2⟩ := flat_rp o1 r1
    obtain ⟨e3, e4⟩ := flats_rp o2 ra
    refine ⟨a, vs, rfl, .inr (.of ha), e2, e4, ?_⟩
    rw [e1, e3]
    exact fin _ _ H p (Same.refl H) (.bl _)
  · obtain ⟨a, vs, rfl, ha, ra⟩ := r2.lst
    obtain ⟨o1, o2, p⟩ := q
    obtain ⟨e1, e2⟩ := flat_rp o1 r1
    obtain ⟨e3, e4⟩ := flats_rp o2 ra
    refine ⟨a, vs, rfl, .inl (.of ha), e2, e4, ?_⟩
    rw [e1, e3]
    exact fin _ _ H p (Same.refl H) (.bl _)
/-- -x -/
def kNeg : K1 := fun x P => match x with
  | .int i => P (.int (-i))
  | _ => False
theorem kNeg_mono : Mono1 kNeg := fun x P P' h q => by cases x <;> first | exact q.elim | exact h _ q
theorem kNeg_op {K : PySem.W.Frag} : Op1 K (rU fun i => .int (-i)) kNeg := fun M H v x P Q r _ q fin => by
  cases x <;> first | exact q.elim | exact ⟨_, r.int, fin _ _ H q (Same.refl H) (.int _)⟩

/-! ### built-ins of one argument -/
def kLen : K1 := fun x P => match x with
  | .lst xs => P (.int xs.length)
  | .tup xs => P (.int xs.length)
  | .scr ns => P (.int ns.length)
  | _ => False
theorem kLen_mono : Mono1 kLen := fun x P P' h q => by cases x <;> first | exact q.elim | exact h _ q
theorem kLen_op {K : PySem.W.Frag} : Op1L K (fun xs H Q => ∃ p ys, xs = [.ref p] ∧ (SqL K H p ys ∨ SqT K H p ys) ∧ Q (.int ys.length) H) kLen := fun M H v x P Q r _ q fin => by
  cases x <;> first | exact q.elim | skip
  · obtain ⟨a, vs, rfl, ha, ra⟩ := r.tup
    refine ⟨a, vs, rfl, .inr (.of ha), ?_⟩
    rw [ra.length]
    exact fin _ _ H q (Same.refl H) (.int _)
  · obtain ⟨a, vs, rfl, ha, ra⟩ := r.lst
    refine ⟨a, vs, rfl, .inl (.of ha), ?_⟩
    rw [ra.length]
    exact fin _ _ H q (Same.refl H) (.int _)
  · obtain ⟨a, rfl, hs⟩ := r.scr
    refine ⟨a, _, rfl, .inl hs.sq, ?_⟩
    rw [List.length_map]
    exact fin _ _ H q (Same.refl H) (.int _)
/-- sum(ints) -/
def kSum : K1 := fun x P => ∃ ns : List Int, x = .lst (ns.map D.int) ∧ P (.int ns.sum)
theorem kSum_mono : Mono1 kSum := fun x P P' h ⟨ns, e, q⟩ => ⟨ns, e, h _ q⟩
theorem kSum_op {K : PySem.W.Frag} : Op1L K (rSum K) kSum := fun M H v x P Q r _ q fin => by
  obtain ⟨ns, rfl, q⟩ := q
  obtain ⟨a, vs, rfl, ha, ra⟩ := r.lst
  have e := rp_ints ra
  subst e
  exact ⟨a, ns, rfl, .of ha, fin _ _ H q (Same.refl H) (.int _)⟩
/-- max(ints), min(ints) -/
def kMax : K1 := fun x P => ∃ ns : List Int, x = .lst (ns.map D.int) ∧ 0 < ns.length ∧ ∀ m, m ∈ ns → (∀ y, y ∈ ns → y ≤ m) → P (.int m)
def kMin : K1 := fun x P => ∃ ns : List Int, x = .lst (ns.map D.int) ∧ 0 < ns.length ∧ ∀ m, m ∈ ns → (∀ y, y ∈ ns → m ≤ y) → P (.int m)
theorem kMax_mono : Mono1 kMax := fun x P P' h ⟨ns, e, l, q⟩ => ⟨ns, e, l, fun m a b => h _ (q m a b)⟩
theorem kMin_mono : Mono1 kMin := fun x P P' h ⟨ns, e, l, q⟩ => ⟨ns, e, l, fun m a b => h _ (q m a b)⟩
theorem kMax_op {K : PySem.W.Frag} : Op1L K (rMax K) kMax := fun M H v x P Q r _ q fin => by
  obtain ⟨ns, rfl, l, q⟩ := q
  obtain ⟨a, vs, rfl, ha, ra⟩ := r.lst
  have e := rp_ints ra
  subst e
  exact ⟨a, ns, rfl, .of ha, l, fun m h1 h2 => fin _ _ H (q m h1 h2) (Same.refl H) (.int _)⟩
theorem kMin_op {K : PySem.W.Frag} : Op1L K (rMin K) kMin := fun M H v x P Q r _ q fin => by
  obtain ⟨ns, rfl, l, q⟩ := q
  obtain ⟨a, vs, rfl, ha, ra⟩ := r.lst
  have e := rp_ints ra
  subst e
  exact ⟨a, ns, rfl, .of ha, l, fun m h1 h2 => fin _ _ H (q m h1 h2) (Same.refl H) (.int _)⟩
/-- sorted(ints): a new list -/
def kSortI : KF := fun x P => ∃ ns : List Int, x = .lst (ns.map D.int) ∧ ∀ ns' : List Int, ns'.Perm ns → ns'.Pairwise (· ≤ ·) → P (ns'.map D.int)
theorem kSortI_mono : MonoF kSortI := fun x P P' h ⟨ns, e, q⟩ => ⟨ns, e, fun m a b => h _ (q m a b)⟩
theorem kSortI_op {K : PySem.W.Frag} : OpF K (rSortedI K) kSortI := fun M H v x P Q r q fin => by
  obtain ⟨ns, rfl, q⟩ := q
  obtain ⟨a, vs, rfl, ha, ra⟩ := r.lst
  have e := rp_ints ra
  subst e
  exact ⟨a, ns, rfl, .of ha, fun ns' p h1 h2 hp => fin _ _ p (q ns' h1 h2) hp (ints_rp ns')⟩
/-- list(xs), list(t): a new list -/
def kList : KF := fun x P => match x with
  | .lst xs => P xs
  | .tup xs => P xs
  | _ => False
theorem kList_mono : MonoF kList := fun x P P' h q => by cases x <;> first | exact q.elim | exact h _ q
theorem kList_op {K : PySem.W.Frag} : OpF K (fun xs H Q => ∃ p ys, xs = [.ref p] ∧ (SqL K H p ys ∨ SqT K H p ys) ∧ ∀ l, H l = none → Q (.ref l) (upd H l (.lst ys))) kList := fun M H v x P Q r q fin => by
  cases x <;> first | exact q.elim | skip
  · obtain ⟨a, vs, rfl, ha, ra⟩ := r.tup
    exact ⟨a, vs, rfl, .inr (.of ha), fun l hl => fin _ _ l q hl ra⟩
  · obtain ⟨a, vs, rfl, ha, ra⟩ := r.lst
    exact ⟨a, vs, rfl, .inl (.of ha), fun l hl => fin _ _ l q hl ra⟩
/-- tuple(xs), tuple(t) -/
def kTuple : K1 := fun x P => match x with
  | .lst xs => P (.tup xs)
  | .tup xs => P (.tup xs)
  | _ => False
theorem kTuple_mono : Mono1 kTuple := fun x P P' h q => by cases x <;> first | exact q.elim | exact h _ q
theorem kTuple_op {K : PySem.W.Frag} : Op1L K (fun xs H Q => ∃ p ys, xs = [.ref p] ∧ ((SqL K H p ys ∧ ∀ l, H l = none → Q (.ref l) (upd H l (.tup ys))) ∨ (SqT K H p ys ∧ Q (.ref p) H))) kTuple := fun M H v x P Q r hM q fin => by
  cases x <;> first | exact q.elim | skip
  · obtain ⟨a, vs, rfl, ha, ra⟩ := r.tup
    exact ⟨a, vs, rfl, .inr ⟨.of ha, fin _ _ H q (Same.refl H) (.tup ha ra)⟩⟩
  · obtain ⟨a, vs, rfl, ha, ra⟩ := r.lst
    exact ⟨a, vs, rfl, .inl ⟨.of ha, fun l hl => fin _ _ _ q (same_upd hl) (rp_newT hl ra)⟩⟩
/-- int(n), int(flag) -/
def kInt : K1 := fun x P => match x with
  | .int i => P (.int i)
  | .bl b => P (.int (if b then 1 else 0))
  | _ => False
theorem kInt_mono : Mono1 kInt := fun x P P' h q => by cases x <;> first | exact q.elim | exact h _ q
theorem kInt_op {K : PySem.W.Frag} : Op1L K (fun xs H Q => (∃ i, xs = [.int i] ∧ Q (.int i) H) ∨ ∃ k, xs = [.bl k] ∧ Q (.int (if k then 1 else 0)) H) kInt := fun M H v x P Q r hM q fin => by
  cases x <;> first | exact q.elim | skip
  · exact .inr ⟨_, by rw [r.bl], fin _ _ H q (Same.refl H) (.int _)⟩
  · exact .inl ⟨_, by rw [r.int], fin _ _ H q (Same.refl H) (.int _)⟩

/-! ### built-ins of two arguments -/
def kMax2 : KL := fun xs P => match xs with
  | [.int i, .int j] => P (.int (if j > i then j else i))
  | _ => False
def kMin2 : KL := fun xs P => match xs with
  | [.int i, .int j] => P (.int (if j < i then j else i))
  | _ => False
theorem kMax2_mono : MonoL kMax2 := fun xs P P' h q => by
  unfold kMax2 at q ⊢
  split at q
  · exact h _ q
  · exact q.elim
theorem kMin2_mono : MonoL kMin2 := fun xs P P' h q => by
  unfold kMin2 at q ⊢
  split at q
  · exact h _ q
  · exact q.elim
theorem kMax2_op {K : PySem.W.Frag} : OpL K (fun xs H Q => ∃ i j, xs = [.int i, .int j] ∧ Q (.int (if j > i then j else i)) H) kMax2 := fun M H vs xs P Q r hM q fin => by
  unfold kMax2 at q
  split at q
  · exact ⟨_, _, rp_ints2 r, fin _ _ H q (Same.refl H) (.int _)⟩
  · exact q.elim
theorem kMin2_op {K : PySem.W.Frag} : OpL K (fun xs H Q => ∃ i j, xs = [.int i, .int j] ∧ Q (.int (if j < i then j else i)) H) kMin2 := fun M H vs xs P Q r hM q fin => by
  unfold kMin2 at q
  split at q
  · exact ⟨_, _, rp_ints2 r, fin _ _ H q (Same.refl H) (.int _)⟩
  · exact q.elim
/-- isinstance(x, T), isinstance(x, (T, U)) -/
def D.ty : D → String
  | .non => "NoneType"
  | .bl _ => "bool"
  | .int _ => "int"
  | .str _ => "str"
  | .tup _ => "tuple"
  | .lst _ => "list"
  | .scr _ => "list"
  | .raw _ => ""
  | .dct _ => "dict"
  | .dkt _ _ => "dict"
  | .thk _ => "function"
def D.isRaw : D → Bool
  | .scr _ => true
  | .raw _ => true
  | .dct _ => true
  | .dkt _ _ => true
  | .thk _ => true
  | _ => false
def kIsi : KL := fun xs P => match xs with
  | [x, .raw (.ty T)] => x.isRaw = false ∧ ∃ b, kitB x.ty T = some b ∧ P (.bl b)
  | [x, .tup [.raw (.ty T), .raw (.ty U)]] => x.isRaw = false ∧ ∃ b c, kitB x.ty T = some b ∧ kitB x.ty U = some c ∧ P (.bl (b || c))
  | _ => False
theorem kIsi_mono : MonoL kIsi := fun xs P P' h q => by
  unfold kIsi at q ⊢
  split at q
  · exact ⟨q.1, let ⟨b, e, p⟩ := q.2; ⟨b, e, h _ p⟩⟩
  · exact ⟨q.1, let ⟨b, c, e, e2, p⟩ := q.2; ⟨b, c, e, e2, h _ p⟩⟩
  · exact q.elim
theorem ty_rp {K : PySem.W.Frag} {M : Addr → Prop} {H : Hp} {v : V} {x : D} (h : x.isRaw = false) (r : Rp K M H v x) : TyX K H v (.type x.ty) := by
  cases r with
  | non => exact .base .non
  | bl b => exact .base (.bl b)
  | int i => exact .base (.int i)
  | str z => exact .base (.str z)
  | tup e _ => exact .base (.tup e)
  | lst _ e _ => exact .base (.lst e)
  | scr v => cases h
  | raw v => cases h
  | dct _ => cases h
  | dkt _ _ _ => cases h
  | thk _ _ _ _ _ => cases h
theorem rp_raw {K : PySem.W.Frag} {M : Addr → Prop} {H : Hp} {v u : V} (r : Rp K M H v (.raw u)) : v = u := by cases r; rfl
theorem kIsi_op {K : PySem.W.Frag} : OpL K (fun xs H Q => rIsi K xs H Q ∨ rIsiT K xs H Q) kIsi := fun M H vs xs P Q r hM q fin => by
  unfold kIsi at q
  split at q
  · rename_i x T
    obtain ⟨o, b, e, p⟩ := q
    cases r with
    | cons r1 r2 =>
      cases r2 with
      | cons r2 r3 =>
        cases r3
        rw [rp_raw r2]
        exact .inl ⟨_, _, _, _, b, rfl, .ty T, ty_rp o r1, kit_ty e, fin _ _ H p (Same.refl H) (.bl _)⟩
  · rename_i x T U
    obtain ⟨o, b, c, e1, e2, p⟩ := q
    cases r with
    | cons r1 r2 =>
      cases r2 with
      | cons r2 r3 =>
        cases r3
        cases r2 with
        | tup hh rr =>
          cases rr with
          | cons s1 s2 =>
            cases s2 with
            | cons s2 s3 =>
              cases s3
              rw [rp_raw s1, rp_raw s2] at hh
              refine .inr ⟨_, _, _, _, [.type T, .type U], b || c, rfl, hh, .cons (.ty T) (.cons (.ty U) .nil), ty_rp o r1, ?_, fin _ _ H p (Same.refl H) (.bl _)⟩
              refine kitAny_cons (kit_ty e1) (fun hb => ?_) (fun hb => by rw [hb]; rfl)
              subst hb
              refine kitAny_cons (kit_ty e2) (fun hc => ?_) (fun hc => by rw [hc]; rfl)
              subst hc
              rfl
  · exact q.elim
theorem CallR.or {X : Cx} {f : Value} {r r' : List V → Hp → VK → Prop} (h : CallR X f r) (h' : CallR X f r') : CallR X f (fun xs H Q => r xs H Q ∨ r' xs H Q) := by
  intro pins s σ H xs us Q I rv q
  rcases q with q | q
  · exact h pins s σ H xs us Q I rv q
  · exact h' pins s σ H xs us Q I rv q
theorem call_isiA {X : Cx} : CallR X (.builtin "isinstance") (fun xs H Q => rIsi X.K xs H Q ∨ rIsiT X.K xs H Q) := CallR.or call_isi call_isiT
/-- a built-in type as a value -/
theorem qe_ty {X : Cx} {Φ : Cl} [ClOk Φ] {x : Str} {T : String} {pos : Pos} (hg : Gl X x) (hm : X.mg x = none) (hv : bootBuiltins x = some (.type T)) (hn : x ≠ "__name__" := by decide) (hd : (x == ("__debug__" : Str)) = false := by decide) : QE X Φ (.Name x pos) (wC (.raw (.ty T))) :=
  qe_const (pe_bltn hg hm hv (show RelV (.ty T) (.type T) from rfl) hn hd) fun _ _ => .raw _
/-- a module's constant -/
theorem qe_glob {X : Cx} {Φ : Cl} [ClOk Φ] {x : Str} {v : V} {u : Value} {d : D} {pos : Pos} (hg : Gl X x) (hm : X.mg x = some u) (r : RelV v u) (hr : ∀ M H, Rp Φ.K M H v d) (hd : (x == ("__debug__" : Str)) = false := by decide) : QE X Φ (.Name x pos) (wC d) :=
  qe_const (pe_glob hg hm r hd) hr
end AL
set_option Elab.async false
set_option linter.all false
set_option maxRecDepth 100000
/-! ### enumerate(v), v whatever begins -/
namespace PySem
open Sem (wp)
set_option maxHeartbeats 1000000 in
theorem al_enum_new {u : Value} {ob : Obj} {G : Heap → Prop} (beg : Begins u ob G) :
    Meets (Builtin.«enumerate.__new__» ⟨[.type "enumerate", u], []⟩) (fun _ R s => G s.heap ∧
      R (.ok (.ret (.ref (s.heap.push ob).objs.size)))
        { s with heap := (s.heap.push ob).push ⟨.type "enumerate", none, .fields #[.none, .bool false, .ref s.heap.objs.size, rawInt 0, .none, .none], #[]⟩ }) := by
  refine .of_wp fun prog w A R st0 hyp => ?_
  obtain ⟨hp, g, d, tk, os⟩ := st0
  obtain ⟨hG, hyp⟩ := hyp
  have sub := sub_enumerate
  have it : ∀ {A' : Around} {E Q : Value → Shared → Prop}, Q (.ref hp.objs.size) ⟨hp.push ob, g, d, tk, os⟩ → wpAny (model prog w) A' (pyIter u) Q E ⟨hp, g, d, tk, os⟩ := fun {A' E Q} q => beg.iter prog w A' E ⟨hp, g, d, tk, os⟩ Q hG q
  wp_walk using it
  refine wpAny_stack_any fun stk => wpAny_pure ?_
  split
  · rename_i c _ _ _ _ _
    cases (c == Value.type "enumerate") <;> (wp_walk using it; exact ⟨_, rfl, hyp⟩)
  · wp_walk using it
    exact ⟨_, rfl, hyp⟩
theorem al_enum_call {prog : Program} {w : World} {A : Around} {E : Value → Shared → Prop} {s : Shared} {u : Value} {ob : Obj} {G : Heap → Prop} {Q : Value → Shared → Prop} (beg : Begins u ob G) (hG : G s.heap)
    (go : ∀ h1, IsEnum h1 (s.heap.objs.size + 1) s.heap.objs.size 0 .none → h1.get? s.heap.objs.size = some ob → (∀ b o, s.heap.get? b = some o → h1.get? b = some o) → Q (.ref (s.heap.objs.size + 1)) { s with heap := h1 }) :
    wpAny (model prog w) A (call (.type "enumerate") [u]) Q E s := by
  refine callType_new F.called_enumerate (by decide) (F.typeCall_enumerate_1 _) (F.newCall_enumerate_1 _) (fun obj => F.args_object_init_2 obj _) F.entry_enumerate_new (al_enum_new beg) ⟨hG, ?_⟩
  have hz : (s.heap.push ob).objs.size = s.heap.objs.size + 1 := Heap.size_push ..
  have h2 : ((s.heap.push ob).push ⟨.type "enumerate", none, .fields #[.none, .bool false, .ref s.heap.objs.size, rawInt 0, .none, .none], #[]⟩).get? (s.heap.objs.size + 1) = some ⟨.type "enumerate", none, .fields #[.none, .bool false, .ref s.heap.objs.size, rawInt 0, .none, .none], #[]⟩ := by
    rw [← hz]; exact Heap.get?_push_size _ rfl
  show _ ∧ _
  rw [hz]
  exact ⟨⟨_, h2, rfl⟩, go _ h2 (Heap.get?_push_of_some _ (Heap.get?_push_size _ beg.free)) fun b o x => Heap.get?_push_of_some _ (Heap.get?_push_of_some _ x)⟩
end PySem
namespace AL
open PySem PySem.Spec PyProof.Rows L2
/-- a tuple's items with their places, in new pairs -/
def ItEt (K : PySem.W.Frag) (a : Addr) : It where
  go := fun i H => ∃ (xs : List V) (x : V), SqT K H a xs ∧ xs[i]? = some x
  yld := fun i H v H' => ∃ T x, v = .ref T ∧ H T = none ∧ H' = upd H T (.tup [.int (i : Nat), x]) ∧ ∀ xs, SqT K H a xs → xs[i]? = some x
  stop := fun i H => ∃ xs : List V, SqT K H a xs ∧ xs.length ≤ i
theorem turn_enumT {P : Program} {w : World} {K : PySem.W.Frag} {elts : List Expr} {kk : Nat} {tpos : Pos} (a e it : Addr) (items : Array Value) (hai : a ≠ it) (hae : a ≠ e) :
    Turn P w K (.Tuple elts kk tpos) (ItEt K a) [e, it] e (fun i h => (∃ old, IsEnum h e it ((i : Nat) : Int) old) ∧ h.IsTupleIter it a i ∧ e ≠ it) where
  mem := by simp
  obj := fun i h st b hb => by
    obtain ⟨⟨old, he⟩, ⟨o, ho, hc, hd⟩, _⟩ := st
    rcases (show b = e ∨ b = it by simpa using hb) with rfl | rfl
    · exact ⟨_, he, fun v q => nomatch q⟩
    · exact ⟨o, ho, fun v q => by rw [hd] at q; cases q⟩
  keep := fun i h h' st kp => by
    obtain ⟨⟨old, he⟩, hi, hne⟩ := st
    exact ⟨⟨old, kp e (by simp) _ he⟩, hi.at fun o q => kp it (by simp) o q, hne⟩
  item := by
    intro X hP hw hK hc i pins s σ H E I hf st hg
    subst hP hw hK
    obtain ⟨⟨old, he⟩, hit, hne⟩ := st
    obtain ⟨xs, x, hq, hx⟩ := hg
    obtain ⟨its, rv, tp, hz⟩ := I.tuple hq
    have hel : e < s.heap.objs.size := Heap.lt_size he
    have hil : it < s.heap.objs.size := let ⟨_, q, _⟩ := hit; Heap.lt_size q
    obtain ⟨u, hu, ru⟩ := rv.get hx
    have hlt : i < its.toArray.size := by rw [List.size_toArray]; exact (List.getElem?_eq_some_iff.mp hu).1
    have hef : e ∉ [it, a] := by
      intro z
      rcases (show e = it ∨ e = a by simpa using z) with z | z
      · exact hne z
      · exact hae z.symm
    have DD : Draws X.prog X.w X.A.in1 it [it, a] its.toArray.size (fun i v => its.toArray[i]? = some v) (fun i h => h.IsTupleIter it a i ∧ h.IsTuple a its.toArray) := Draws.tuple (show X.A.in1.handled = none from I.ok.hd hc) it a hai its.toArray
    refine wpAny_pyNext_enum_itemD DD he ⟨hit, tp⟩ hlt hne hef fun y h' tk hy ho hst' hT hsz hk => ?_
    have ey : y = u := by
      have : its.toArray[i]? = some u := by simpa using hu
      rw [this] at hy
      exact (Option.some.inj hy).symm
    subst ey
    refine ⟨_, rfl, wpAny_letOwnedTupleGo_enum (s := { s with heap := h', toks := tk + 1 }) ho fun h2 he2 sb => ?_⟩
    have hT2 := (sb.2 _ (Nat.ne_of_gt hel)).trans hT
    have new : ObjOk X.prog X.w (upd H s.heap.objs.size (.tup [.int (i : Nat), x])) h2 s.heap.objs.size (.tup [.int (i : Nat), x]) := by
      refine ⟨by show 2 ≤ sizeLine; decide, [.int i tk, y], .cons ⟨_, rfl⟩ (.cons ru .nil), ?_⟩
      exact ⟨_, hT2, rfl, _, rfl⟩
    have I1 := I.turnedNew (h' := h2) (t' := tk + 1) (ch := [e, it]) (fun b ob hb q => (sb.2 b (fun z => hb (by simp [z]))).trans (hk b ob (fun z => hb (by simp [z])) (fun z => hb (by simp [z])) q)) hf (Nat.le_refl _) new
    refine ⟨.ref s.heap.objs.size, _, I1, rfl, ⟨_, x, rfl, I.hok.fresh (Nat.le_refl _), rfl, fun ys hy => by rw [I.tuple_inj hy hq]; exact hx⟩, ⟨⟨y, ?_⟩, hst'.1.at fun o q => (sb.2 it (Ne.symm hne)).trans q, hne⟩, fun b hb => ?_⟩
    · rw [show ((i + 1 : Nat) : Int) = (i : Int) + 1 by omega]
      exact he2
    · have hb' : b < s.heap.objs.size := by
        rcases (show b = e ∨ b = it by simpa using hb) with rfl | rfl
        · exact hel
        · exact hil
      rw [upd_ne (Nat.ne_of_lt hb')]
      exact (hf b hb).1
  done := by
    intro X hP hw hK hc i pins s σ H E I hf st hg
    subst hP hw hK
    obtain ⟨⟨old, he⟩, hit, hne⟩ := st
    obtain ⟨xs, hq, hx⟩ := hg
    obtain ⟨its, rv, tp, hz⟩ := I.tuple hq
    obtain ⟨f0, f1, f2, f3, f4, f5⟩ := hf it (by simp)
    have hl := rv.length
    have none_at : its.toArray[i]? = none := by
      rw [List.getElem?_toArray, List.getElem?_eq_none_iff]; omega
    have DD : Draws X.prog X.w X.A.in1 it [it, a] i (fun _ _ => False) (fun j h => j = i ∧ h.IsTupleIter it a i ∧ h.IsTuple a its.toArray) :=
      { live := fun j h st => let ⟨o, ho, _⟩ := st.2.1; ⟨o, ho⟩
        frame := fun j h h' st kp => ⟨st.1, st.2.1.at fun o q => kp it (by simp) o q, st.2.2.at fun o q => kp a (by simp) o q⟩
        item := fun j s Q E hj st _ => absurd st.1 (Nat.ne_of_lt hj)
        done := fun s Q E st hE => wpAny_nextOf_tuple_end (show X.A.in1.handled = none from I.ok.hd hc) st.2.1 st.2.2 none_at hE }
    exact wpAny_pyNext_enum_endD DD he ⟨rfl, hit, tp⟩ fun h' eb => ⟨rfl, I.turned (t' := s.toks) (fun b o hb q => eb b o hb q) f0 f1 f3 f4 f5⟩
  self := fun A i s Q E st h => let ⟨⟨_, he⟩, _⟩ := st; wpAny_pyIter_enum he h
def iEnumT (K : PySem.W.Frag) (ta : TA) : TI := fun σ H R => ta σ H fun vs H1 => ∃ a xs, vs = [.ref a] ∧ SqT K H1 a xs ∧ R (ItEt K a) H1
theorem pi_enumT {X : Cx} {e : Expr} {ta : TA} {p pos tpos : Pos} {elts : List Expr} {kk : Nat} (hg : Gl X "enumerate") (hm : X.mg "enumerate" = none) (ha : PA X [e] ta) (hs : starEach [e] X.env = [(false, eval e X.env)] := by rfl) :
    PI X (.Tuple elts kk tpos) (.Call (.Name "enumerate" p) [e] [] pos) (iEnumT X.K ta) := by
  refine ⟨fun pins s σ H R I h => Call_ (ld_blt I hg hm PyProof.Rows.boot_enumerate (PyProof.Rows.callWith_type1 (thn (ha.run pos pins s σ H _ I h) ?_) hs rfl))⟩
  rintro us s1 ⟨vs, H1, I1, r1, a, xs, rfl, hq, q⟩
  cases r1 with
  | cons r rr =>
    cases rr
    cases r
    obtain ⟨its, rv, tp, hz⟩ := I1.tuple hq
    have ha : a < s1.heap.objs.size := let ⟨o, ho, _⟩ := tp; Heap.lt_size ho
    refine al_enum_call (begins_tuple a its.toArray) tp fun h1 he hit hk => wpAny_pyIter_enum he ?_
    have I2 : Inv X pins σ H1 { s1 with heap := h1 } := I1.kept (t' := s1.toks) hk
    refine ⟨s1.heap.objs.size + 1, [s1.heap.objs.size + 1, s1.heap.objs.size], _, _, H1, rfl, I2, turn_enumT a (s1.heap.objs.size + 1) s1.heap.objs.size its.toArray (Nat.ne_of_lt ha) (Nat.ne_of_lt (Nat.lt_succ_of_lt ha)), ⟨⟨.none, he⟩, ⟨_, hit, rfl, rfl⟩, Nat.succ_ne_self _⟩, fun b hb => ?_, q⟩
    have hle : s1.heap.objs.size ≤ b := by
      rcases (show b = s1.heap.objs.size + 1 ∨ b = s1.heap.objs.size by simpa using hb) with rfl | rfl
      · exact Nat.le_succ _
      · exact Nat.le_refl _
    exact I1.fpOk hle (I1.hok.fresh hle)
theorem walk_enumT {K : PySem.W.Frag} {a : Addr} {xs : List V} : Walk (ItEt K a) xs.length (fun H => SqT K H a xs) (YPair (fun i => some (.int (i : Nat))) (fun i => xs[i]?)) := by
  refine ⟨fun i H hi q => ⟨xs, xs[i], q, List.getElem?_eq_getElem hi⟩, fun H q => ⟨xs, q, Nat.le_refl _⟩, fun i H v H' hi q y => ?_⟩
  obtain ⟨T, x, h1, h2, h3, h4⟩ := y
  exact ⟨T, .int (i : Nat), x, h1, h2, h3, rfl, h4 xs q⟩
section
variable {X : Cx} {Φ : Cl} [ok : ClOk Φ] {pos : Pos} {e a b c : Expr} {wa wb wc : WE} {wr : WA}
theorem gives_pair {M : Addr → Prop} {H : Hp} {J : It} {vs : List V} {xs : List D} {G : Hp → Prop} (W : Walk J vs.length G (YPair (fun i => some (.int (i : Nat))) (fun i => vs[i]?))) (hG : ∀ M' H', Step M H M' H' → G H') (r : RpAll Φ.K M H vs xs) : Gives Φ.K M H J (enums 0 xs) := by
  refine ⟨G, YPair (fun i => some (.int (i : Nat))) (fun i => vs[i]?), ?_, hG, fun i M' H' H2 v S y => ?_⟩
  · rw [enums_len, ← r.length]; exact W
  · obtain ⟨T, x, z, rfl, hn, rfl, e1, e2⟩ := y
    cases e1
    have sm := same_upd (o := .tup [.int (i : Nat), z]) hn
    refine ⟨sm, fun d hd => ?_⟩
    rw [enums_get] at hd
    obtain ⟨dz, h1, h2⟩ := (r.step S).getV e2
    rw [h1] at hd
    cases hd
    rw [Nat.zero_add]
    exact .tup upd_same (.cons (.int _) (.cons (h2.step (step_same sm)) .nil))
/-- enumerate(t), enumerate(xs) -/
def wEnumT (wa : WE) : WI := fun ρ Q => wa ρ fun x ρ' => isT x fun xs => Q (enums 0 xs) ρ'
def wEnumL (wa : WE) : WI := fun ρ Q => wa ρ fun x ρ' => isL x fun xs => Q (enums 0 xs) ρ'
theorem qi_enumT {elts : List Expr} {kk : Nat} {tpos p : Pos} (hg : Gl X "enumerate") (hm : X.mg "enumerate" = none) (ha : QE X Φ a wa) (hs : starEach [a] X.env = [(false, eval a X.env)] := by rfl) (hs2 : starEach (a :: []) X.env = (false, eval a X.env) :: starEach [] X.env := by rfl) :
    QI X Φ (.Tuple elts kk tpos) (.Call (.Name "enumerate" p) [a] [] pos) (wEnumT wa) := by
  refine ⟨fun ρ Q Q' h q => ha.mono ρ _ _ (fun x ρ' q' => isT_mono (fun xs p => h _ ρ' p) q') q, PIw (pi_enumT hg hm (pa_cons ha.run pa_nil hs2) hs) fun σ H R ⟨M, ρ, A, q⟩ => ?_⟩
  refine ⟨M, ρ, A, ha.mono ρ _ _ (fun x ρ' q' => ?_) q⟩
  intro M' v H' A' S' r'
  cases r' with
  | tup hh rr => exact ⟨_, _, rfl, SqT.of hh, q' M' H' _ A' S' (gives_pair walk_enumT (fun M2 H2 S => SqT.of (S.tu _ _ hh)) rr)⟩
  | _ => exact q'.elim
theorem qi_enumL {elts : List Expr} {kk : Nat} {tpos p : Pos} (hg : Gl X "enumerate") (hm : X.mg "enumerate" = none) (ha : QE X Φ a wa) (hs : starEach [a] X.env = [(false, eval a X.env)] := by rfl) (hs2 : starEach (a :: []) X.env = (false, eval a X.env) :: starEach [] X.env := by rfl) :
    QI X Φ (.Tuple elts kk tpos) (.Call (.Name "enumerate" p) [a] [] pos) (wEnumL wa) := by
  refine ⟨fun ρ Q Q' h q => ha.mono ρ _ _ (fun x ρ' q' => isL_mono (fun xs p => h _ ρ' p) q') q, PIw (pi_enum hg hm (pa_cons ha.run pa_nil hs2) hs) fun σ H R ⟨M, ρ, A, q⟩ => ?_⟩
  refine ⟨M, ρ, A, ha.mono ρ _ _ (fun x ρ' q' => ?_) q⟩
  intro M' v H' A' S' r'
  cases r' with
  | lst hm hh rr => exact ⟨_, _, rfl, SqL.of hh, q' M' H' _ A' S' (gives_pair walk_enum (fun M2 H2 S => SqL.of (S.st _ _ hm hh).2) rr)⟩
  | _ => exact q'.elim

/-! ### slices -/
abbrev WO := Ev → (Option Int → Ev → Prop) → Prop
def liftO (Φ : Cl) (w : WO) : TO := fun σ H Q => ∃ M ρ, Abs Φ M σ H ρ ∧ w ρ fun o ρ' => ∀ M' H', Abs Φ M' σ H' ρ' → Step M H M' H' → Q o H'
structure QO (X : Cx) (Φ : Cl) (e : Option Expr) (w : WO) : Prop where
  mono : ∀ ρ Q Q', (∀ x ρ', Q x ρ' → Q' x ρ') → w ρ Q → w ρ Q'
  run : PO X e (liftO Φ w)
theorem POw {e : Option Expr} {t t' : TO} (h : PO X e t) (i : ∀ σ H Q, t' σ H Q → t σ H Q) : PO X e t' := ⟨fun pins s σ H Q I q => h.run pins s σ H Q I (i σ H Q q)⟩
def wNoPart : WO := fun ρ Q => Q none ρ
def isI (x : D) (P : Int → Prop) : Prop := match x with
  | .int i => P i
  | _ => False
theorem isI_mono {z : D} {P P' : Int → Prop} (h : ∀ b, P b → P' b) (q : isI z P) : isI z P' := by
  cases z <;> first | exact h _ q | exact q.elim
def wPart (wa : WE) : WO := fun ρ Q => wa ρ fun x ρ' => isI x fun i => Q (some i) ρ'
theorem qo_none : QO X Φ none wNoPart := ⟨fun ρ Q Q' h q => h _ _ q, POw po_none fun σ H Q ⟨M, ρ, A, q⟩ => q M H A .refl⟩
theorem qo_some (ha : QE X Φ a wa) : QO X Φ (some a) (wPart wa) := by
  refine ⟨fun ρ Q Q' h q => ha.mono ρ _ _ (fun x ρ' q' => isI_mono (fun i p => h _ ρ' p) q') q, POw (po_some ha.run) fun σ H Q ⟨M, ρ, A, q⟩ => ?_⟩
  refine ⟨M, ρ, A, ha.mono ρ _ _ (fun x ρ' q' => ?_) q⟩
  intro M' v H' A' S' r'
  cases r' with
  | int i => exact ⟨i, rfl, q' M' H' A' S'⟩
  | _ => exact q'.elim
/-- a cut of a list of data -/
def cutD (xs : List D) (lo hi : Option Int) : List D := (xs.drop (HT.sIx xs.length 0 lo)).take (HT.sIx xs.length xs.length hi - HT.sIx xs.length 0 lo)
theorem cut_rp {M : Addr → Prop} {H : Hp} {vs : List V} {xs : List D} (r : RpAll Φ.K M H vs xs) (lo hi : Option Int) : RpAll Φ.K M H (cutV vs lo hi) (cutD xs lo hi) := by
  unfold cutV cutD
  rw [r.length]
  exact (r.drop _).take _
/-- xs[lo:hi], t[lo:hi] -/
def wSl (wa : WE) (wl wh : WO) : WE := fun ρ Q => wa ρ fun x ρ1 => wl ρ1 fun lo ρ2 => wh ρ2 fun hi ρ3 => match x with
  | .lst xs => Q (.lst (cutD xs lo hi)) ρ3
  | .tup xs => Q (.tup (cutD xs lo hi)) ρ3
  | _ => False
theorem qe_sl {lo hi : Option Expr} {wl wh : WO} {p2 : Pos} (ha : QE X Φ a wa) (hl : QO X Φ lo wl) (hh : QO X Φ hi wh) : QE X Φ (.Subscript a (.Slice lo hi none p2) pos) (wSl wa wl wh) := by
  refine ⟨fun ρ Q Q' h q => ha.mono ρ _ _ (fun x ρ1 q1 => hl.mono ρ1 _ _ (fun l ρ2 q2 => hh.mono ρ2 _ _ (fun u ρ3 q3 => ?_) q2) q1) q, PEw (pe_slice (sl_list.or sl_tupA) ha.run hl.run hh.run) fun σ H Q ⟨M, ρ, A, q⟩ => ?_⟩
  · cases x <;> first | exact q3.elim | exact h _ _ q3
  · refine ⟨M, ρ, A, ha.mono ρ _ _ (fun x ρ1 q1 => ?_) q⟩
    intro M1 v H1 A1 S1 r1
    refine ⟨M1, ρ1, A1, hl.mono ρ1 _ _ (fun l ρ2 q2 => ?_) q1⟩
    intro M2 H2 A2 S2
    refine ⟨M2, ρ2, A2, hh.mono ρ2 _ _ (fun u ρ3 q3 => ?_) q2⟩
    intro M3 H3 A3 S3
    have hM : ∀ a, M3 a → ∃ o, H3 a = some o := fun b hb => let ⟨_, z, _⟩ := A3.lst b hb; ⟨_, z⟩
    have SS := S1.trans (S2.trans S3)
    cases r1 with
    | @lst a0 vs0 ds0 m e r =>
      have z := (S2.trans S3).st _ _ m e
      refine .inl ⟨_, _, rfl, .of z.2, fun p hp => ?_⟩
      have sm := same_upd (o := .lst (cutV vs0 l u)) hp
      exact q3 M3 _ _ (A3.same sm) (SS.trans (step_same sm)) (rp_newL hM hp (cut_rp (r.step (S2.trans S3)) l u))
    | @tup a0 vs0 ds0 e r =>
      have z := (S2.trans S3).tu _ _ e
      have r3 := r.step (S2.trans S3)
      refine .inr ⟨_, _, rfl, .of z, fun w => ?_, fun _ p hp => ?_⟩
      · refine q3 M3 _ H3 A3 SS ?_
        have e3 : cutD ds0 l u = ds0 := by
          unfold cutD
          rw [← r3.length, w.1, w.2, List.drop_zero, Nat.sub_zero, r3.length, List.take_length]
        rw [e3]
        exact .tup z r3
      · have sm := same_upd (o := .tup (cutV vs0 l u)) hp
        exact q3 M3 _ _ (A3.same sm) (SS.trans (step_same sm)) (rp_newT hp (cut_rp r3 l u))
    | _ => exact q3.elim

/-! ### a < b < c -/
def wChain (k k' : K2) (wa wb wc : WE) : WE := fun ρ Q => wa ρ fun x ρ1 => wb ρ1 fun y ρ2 => k x y fun z => isB z fun b => if b = true then wc ρ2 fun v ρ3 => k' y v fun z => Q z ρ3 else Q (.bl false) ρ2
theorem wChain_mono {k k' : K2} (km : Mono2 k) (km' : Mono2 k') (ha : QE X Φ a wa) (hb : QE X Φ b wb) (hc : QE X Φ c wc) : ∀ ρ Q Q', (∀ x ρ', Q x ρ' → Q' x ρ') → wChain k k' wa wb wc ρ Q → wChain k k' wa wb wc ρ Q' := fun ρ Q Q' h q =>
  ha.mono ρ _ _ (fun x ρ1 q1 => hb.mono ρ1 _ _ (fun y ρ2 q2 => km x y _ _ (fun z p => isB_mono (fun b p => by
    cases b with
    | true => exact hc.mono ρ2 _ _ (fun v ρ3 q3 => km' y v _ _ (fun z p => h z ρ3 p) q3) p
    | false => exact h _ _ p) p) q2) q1) q
theorem chain_run {r r' : R2} {k k' : K2} {M : Addr → Prop} {σ : L2.St} {H : Hp} {ρ : Ev} {Q : VK} {P : D → Ev → Prop} (hk : Op2 Φ.K r k) (hk' : Op2 Φ.K r' k') (km : Mono2 k) (km' : Mono2 k') (ha : QE X Φ a wa) (hb : QE X Φ b wb) (hc : QE X Φ c wc) (A : Abs Φ M σ H ρ) (q : wChain k k' wa wb wc ρ P)
    (fin : ∀ z ρ', P z ρ' → ∀ M' v H', Abs Φ M' σ H' ρ' → Step M H M' H' → Rp Φ.K M' H' v z → Q v H') : tChain r r' (liftE Φ wa) (liftE Φ wb) (liftE Φ wc) σ H Q := by
  refine ⟨M, ρ, A, ha.mono ρ _ _ (fun x ρ1 q1 => ?_) q⟩
  intro M1 v H1 A1 S1 r1
  refine ⟨M1, ρ1, A1, hb.mono ρ1 _ _ (fun y ρ2 q2 => ?_) q1⟩
  intro M2 u H2 A2 S2 r2
  have hM2 : ∀ a, M2 a → ∃ o, H2 a = some o := fun b hb => let ⟨_, z, _⟩ := A2.lst b hb; ⟨_, z⟩
  refine hk M2 H2 v u x y _ _ (.inl (r1.step S2)) (.inl r2) hM2 q2 fun z v' H3 p sm r' => ?_
  obtain ⟨b, e, p⟩ := isB_rp r' p
  have A3 := A2.same sm
  have S3 := S1.trans (S2.trans (step_same sm))
  refine ⟨b, e, ?_⟩
  cases b with
  | true =>
    refine iteT ⟨M2, ρ2, A3, hc.mono ρ2 _ _ (fun t ρ4 q4 => ?_) p⟩
    intro M4 w4 H4 A4 S4 r4
    have hM4 : ∀ a, M4 a → ∃ o, H4 a = some o := fun b hb => let ⟨_, z, _⟩ := A4.lst b hb; ⟨_, z⟩
    refine hk' M4 H4 u w4 y t _ _ (.inl ((r2.step (step_same sm)).step S4)) (.inl r4) hM4 q4 fun z v' H5 p sm' r' => ?_
    exact fin z ρ4 p M4 v' H5 (A4.same sm') (S3.trans (S4.trans (step_same sm'))) r'
  | false => exact iteF (fin _ ρ2 p M2 _ H3 A3 S3 (.bl false))
theorem qe_chain {op op' : CmpOp} {r r' : R2} {k k' : K2} (ho : OpR X (compareOp op) r) (ho' : OpR X (compareOp op') r') (hk : Op2 Φ.K r k) (hk' : Op2 Φ.K r' k') (km : Mono2 k) (km' : Mono2 k') (ha : QE X Φ a wa) (hb : QE X Φ b wb) (hc : QE X Φ c wc)
    (hm : lastMarks [op, op'] [b, c] = false := by with_unfolding_all rfl) : QE X Φ (.Compare a [op, op'] [b, c] pos) (wChain k k' wa wb wc) :=
  ⟨wChain_mono km km' ha hb hc, PEw (pe_chain ho ho' ha.run hb.run hc.run hm) fun σ H Q ⟨M, ρ, A, q⟩ => chain_run hk hk' km km' ha hb hc A q fun z ρ' p => p⟩
theorem qt_chain {op op' : CmpOp} {r r' : R2} {k k' : K2} (ho : OpR X (compareOp op) r) (ho' : OpR X (compareOp op') r') (hk : Op2 Φ.K r k) (hk' : Op2 Φ.K r' k') (km : Mono2 k) (km' : Mono2 k') (ha : QE X Φ a wa) (hb : QE X Φ b wb) (hc : QE X Φ c wc)
    (hm : lastMarks [op, op'] [b, c] = false := by with_unfolding_all rfl) : QT X Φ (.Compare a [op, op'] [b, c] pos) (wTest (wChain k k' wa wb wc)) := by
  refine ⟨wTest_mono (wChain_mono km km' ha hb hc), PTw (pt_chain ho ho' ha.run hb.run hc.run hm) fun σ H Q ⟨M, ρ, A, q⟩ => chain_run hk hk' km km' ha hb hc A q fun z ρ' p M' v H' A' S' r' => ?_⟩
  obtain ⟨b, e, p⟩ := isB_rp r' p
  exact ⟨b, e, p M' H' A' S'⟩

/-! ### sorted(pairs of numbers) -/
def pairD (p : Int × Int) : D := .tup [.int p.1, .int p.2]
def pairV (P : V → Int × Int) : V → Int × Int := P
/-- by the first, then by the second -/
def lexLe (p q : Int × Int) : Prop := p.1 < q.1 ∨ (p.1 = q.1 ∧ p.2 ≤ q.2)
def kSortP : KF := fun x P => ∃ ps : List (Int × Int), x = .lst (ps.map pairD) ∧ ∀ qs : List (Int × Int), qs.Perm ps → qs.Pairwise lexLe → P (qs.map pairD)
theorem kSortP_mono : MonoF kSortP := fun x P P' h ⟨ns, e, q⟩ => ⟨ns, e, fun m a b => h _ (q m a b)⟩
/-- the pair that stands at an address -/
noncomputable def pairAt (H : Hp) : V → Int × Int
  | .ref a => match H a with
    | some (.tup [.int i, .int j]) => (i, j)
    | _ => (0, 0)
  | _ => (0, 0)
theorem pairs_rp {K : PySem.W.Frag} {M : Addr → Prop} {H : Hp} : ∀ {ps : List (Int × Int)} {vs : List V}, RpAll K M H vs (ps.map pairD) → ps = vs.map (pairAt H) ∧ ∀ x ∈ vs, ∃ t, x = V.ref t ∧ H t = some (.tup [.int (pairAt H x).1, .int (pairAt H x).2])
  | [], _, .nil => ⟨rfl, fun _ h => nomatch h⟩
  | (i, j) :: ps, _, .cons (v := v) r t => by
    obtain ⟨e, h⟩ := pairs_rp t
    have hv : ∃ a, v = .ref a ∧ H a = some (.tup [.int i, .int j]) := by
      have r' : Rp K M H v (.tup [.int i, .int j]) := r
      cases r' with
      | tup hh rr => rw [rp_ints (ns := [i, j]) rr] at hh; exact ⟨_, rfl, hh⟩
    obtain ⟨a, rfl, ha⟩ := hv
    have pa : pairAt H (.ref a) = (i, j) := by unfold pairAt; simp only [ha]
    refine ⟨by rw [List.map_cons, pa, ← e], fun x hx => ?_⟩
    rcases List.mem_cons.mp hx with rfl | hx
    · exact ⟨a, rfl, by rw [pa]; exact ha⟩
    · exact h x hx
theorem rp_pairs {K : PySem.W.Frag} {M : Addr → Prop} {H : Hp} : ∀ {vs : List V}, (∀ x ∈ vs, ∃ t, x = V.ref t ∧ H t = some (.tup [.int (pairAt H x).1, .int (pairAt H x).2])) → RpAll K M H vs ((vs.map (pairAt H)).map pairD)
  | [], _ => .nil
  | v :: vs, h => by
    obtain ⟨t, e, ht⟩ := h v List.mem_cons_self
    refine .cons ?_ (rp_pairs fun x hx => h x (List.mem_cons_of_mem _ hx))
    have g : H t = some (.tup [.int (pairAt H v).1, .int (pairAt H v).2]) := ht
    rw [e] at g ⊢
    exact .tup g (.cons (.int _) (.cons (.int _) .nil))
theorem kSortP_op {K : PySem.W.Frag} : OpF K (rSortedPO K) kSortP := fun M H v x P Q r q fin => by
  obtain ⟨ps, rfl, q⟩ := q
  obtain ⟨a, vs, rfl, ha, ra⟩ := r.lst
  obtain ⟨e, hx⟩ := pairs_rp ra
  refine ⟨a, vs, pairAt H, rfl, .of ha, hx, fun ys p hs hb hp => ?_⟩
  have pm : ys.Perm vs := hb.perm
  refine fin _ ys p (q (ys.map (pairAt H)) (by rw [e]; exact pm.map _) ?_) hp (rp_pairs fun x hx' => hx x (pm.mem_iff.mp hx'))
  refine List.pairwise_map.mpr (hs.imp fun {x y} h => ?_)
  have h2 := SrtO.lexB_no.mp h
  unfold lexLe
  omega
end
end AL
set_option Elab.async false
set_option linter.all false
set_option maxRecDepth 100000
namespace AL
open PySem PySem.Spec PyProof.Rows L2
section
variable {X : Cx} {Φ : Cl} [ok : ClOk Φ] {pos : Pos} {e a b c : Expr} {wa wb wc : WE} {wr : WA}
/-! ### several names at once -/
def wPar3 (i j l : Nat) (wr : WA) : WS := fun R ρ => wr ρ fun xs ρ' => match xs with
  | [x, y, z] => R.nx (((ρ'.set i (.d x)).set j (.d y)).set l (.d z))
  | _ => False
theorem qs_par3 {i j l : Nat} {x y z : Str} {wr : WA} {px py pz pt : Pos} {kt k2 pt2} (hc : X.calm = true) (hN : X.N.Nodup) (hi : X.N[i]? = some x) (hj : X.N[j]? = some y) (hl : X.N[l]? = some z) (hij : i ≠ j) (hil : i ≠ l) (hjl : j ≠ l)
    (hx : X.env.scope.names.lookup x = some .local) (hy : X.env.scope.names.lookup y = some .local) (hz : X.env.scope.names.lookup z = some .local) (ha : QA X Φ [a, b, c] wr)
    (hw : swappedStores [.Tuple [.Name x px, .Name y py, .Name z pz] kt pt] (.Tuple [a, b, c] k2 pt2) X.env = pure (some [x, y, z]))
    (hs : swapsWithSole [.Tuple [.Name x px, .Name y py, .Name z pz] kt pt] (.Tuple [a, b, c] k2 pt2) pos.line X.env = pure false := by rfl) :
    QS X Φ (.Assign [.Tuple [.Name x px, .Name y py, .Name z pz] kt pt] (.Tuple [a, b, c] k2 pt2) pos) (wPar3 i j l wr) := by
  refine ⟨fun ρ R R' h q => ha.mono ρ _ _ (fun xs ρ' q' => ?_) q, PSw (ps_par3 hc hN hi hj hl hij hil hjl hx hy hz ha.run hw hs) fun D σ H ⟨M, ρ, A, q⟩ => ?_⟩
  · match xs, q' with
    | [x, y, z], q' => exact h.nx _ q'
  · refine ⟨M, ρ, A, ha.mono ρ _ _ (fun xs ρ' q' => ?_) q⟩
    intro M' vs H' A' S' r'
    match xs, q' with
    | [x, y, z], q' =>
      cases r' with
      | cons r1 r2 =>
        cases r2 with
        | cons r2 r3 =>
          cases r3 with
          | cons r3 r4 =>
            cases r4
            exact ⟨_, _, _, rfl, q' M' _ H' (((A'.store r1).store r2).store r3) S'⟩
/-- a new list that a store beside leaves as it is -/
theorem NewL.stored {M : Addr → Prop} {σ : L2.St} {H : Hp} {ρ : Ev} {p : Addr} {acc : List V} {ds : List D} (N : NewL Φ M σ H ρ p acc ds) (A : Abs Φ M σ H ρ) {i : Nat} {v : V} {x : D} : NewL Φ M (σ.set i (some v)) H (ρ.set i (.d x)) p acc ds := by
  refine ⟨N.m, N.h, N.r, N.h0, N.t, fun j w ys h1 h2 => ?_, fun j w F P h1 hf => ?_⟩
  · by_cases hj : i = j
    · subst hj
      have hi : i < ρ.length := by have := (List.getElem?_eq_some_iff.mp h1).1; rwa [List.length_set] at this
      rw [List.getElem?_set_self hi] at h1
      cases h1
    · rw [List.getElem?_set_ne hj] at h1 h2
      exact N.n j w ys h1 h2
  · by_cases hj : i = j
    · subst hj
      have hi : i < ρ.length := by have := (List.getElem?_eq_some_iff.mp h1).1; rwa [List.length_set] at this
      rw [List.getElem?_set_self hi] at h1
      cases h1
    · rw [List.getElem?_set_ne hj] at h1
      exact N.f j w F P h1 hf
/-- a, b = x, [..]: the last one a list to be changed -/
def wParO (i j : Nat) (wa : WE) (wl : WA) : WS := fun R ρ => wa ρ fun x ρ1 => wl ρ1 fun ys ρ2 => R.nx ((ρ2.set i (.d x)).set j (.own false ys))
theorem qs_parO {i j : Nat} {x y : Str} {wl : WA} {px py pt : Pos} {kt k2 pt2} (hc : X.calm = true) (hN : X.N.Nodup) (hi : X.N[i]? = some x) (hj : X.N[j]? = some y) (hij : i ≠ j)
    (hx : X.env.scope.names.lookup x = some .local) (hy : X.env.scope.names.lookup y = some .local) (ha : QE X Φ a wa) (hb : QF X Φ b wl)
    (hw : swappedStores [.Tuple [.Name x px, .Name y py] kt pt] (.Tuple [a, b] k2 pt2) X.env = pure (some [x, y]))
    (hs : swapsWithSole [.Tuple [.Name x px, .Name y py] kt pt] (.Tuple [a, b] k2 pt2) pos.line X.env = pure false := by rfl)
    (h1 : starEach (a :: [b]) X.env = (false, eval a X.env) :: starEach [b] X.env := by rfl) (h2 : starEach (b :: []) X.env = (false, eval b X.env) :: starEach [] X.env := by rfl) :
    QS X Φ (.Assign [.Tuple [.Name x px, .Name y py] kt pt] (.Tuple [a, b] k2 pt2) pos) (wParO i j wa wl) := by
  refine ⟨fun ρ R R' h q => ha.mono ρ _ _ (fun x ρ1 q1 => hb.mono ρ1 _ _ (fun ys ρ2 q2 => h.nx _ q2) q1) q, PSw (ps_par hc hN hi hj hij hx hy (pa_cons ha.run (pa_cons hb.run pa_nil h2) h1) hw hs) fun D σ H ⟨M, ρ, A, q⟩ => ?_⟩
  refine ⟨M, ρ, A, ha.mono ρ _ _ (fun x ρ1 q1 => ?_) q⟩
  intro M1 v H1 A1 S1 r1
  refine ⟨M1, ρ1, A1, hb.mono ρ1 _ _ (fun ys ρ2 q2 => ?_) q1⟩
  intro M2 p vs H2 A2 S2 N2
  exact ⟨_, _, rfl, q2 M2 _ H2 ((A2.store (r1.step S2)).storeOwn (N2.stored A2)) (S1.trans S2)⟩
def wPar3O (i j l : Nat) (wa wb : WE) (wl : WA) : WS := fun R ρ => wa ρ fun x ρ1 => wb ρ1 fun y ρ2 => wl ρ2 fun ys ρ3 => R.nx (((ρ3.set i (.d x)).set j (.d y)).set l (.own false ys))
theorem qs_par3O {i j l : Nat} {x y z : Str} {wl : WA} {px py pz pt : Pos} {kt k2 pt2} (hc : X.calm = true) (hN : X.N.Nodup) (hi : X.N[i]? = some x) (hj : X.N[j]? = some y) (hl : X.N[l]? = some z) (hij : i ≠ j) (hil : i ≠ l) (hjl : j ≠ l)
    (hx : X.env.scope.names.lookup x = some .local) (hy : X.env.scope.names.lookup y = some .local) (hz : X.env.scope.names.lookup z = some .local) (ha : QE X Φ a wa) (hb : QE X Φ b wb) (hcc : QF X Φ c wl)
    (hw : swappedStores [.Tuple [.Name x px, .Name y py, .Name z pz] kt pt] (.Tuple [a, b, c] k2 pt2) X.env = pure (some [x, y, z]))
    (hs : swapsWithSole [.Tuple [.Name x px, .Name y py, .Name z pz] kt pt] (.Tuple [a, b, c] k2 pt2) pos.line X.env = pure false := by rfl)
    (h1 : starEach (a :: [b, c]) X.env = (false, eval a X.env) :: starEach [b, c] X.env := by rfl) (h2 : starEach (b :: [c]) X.env = (false, eval b X.env) :: starEach [c] X.env := by rfl) (h3 : starEach (c :: []) X.env = (false, eval c X.env) :: starEach [] X.env := by rfl) :
    QS X Φ (.Assign [.Tuple [.Name x px, .Name y py, .Name z pz] kt pt] (.Tuple [a, b, c] k2 pt2) pos) (wPar3O i j l wa wb wl) := by
  refine ⟨fun ρ R R' h q => ha.mono ρ _ _ (fun x ρ1 q1 => hb.mono ρ1 _ _ (fun y ρ2 q2 => hcc.mono ρ2 _ _ (fun ys ρ3 q3 => h.nx _ q3) q2) q1) q, PSw (ps_par3 hc hN hi hj hl hij hil hjl hx hy hz (pa_cons ha.run (pa_cons hb.run (pa_cons hcc.run pa_nil h3) h2) h1) hw hs) fun D σ H ⟨M, ρ, A, q⟩ => ?_⟩
  refine ⟨M, ρ, A, ha.mono ρ _ _ (fun x ρ1 q1 => ?_) q⟩
  intro M1 v H1 A1 S1 r1
  refine ⟨M1, ρ1, A1, hb.mono ρ1 _ _ (fun y ρ2 q2 => ?_) q1⟩
  intro M2 u H2 A2 S2 r2
  refine ⟨M2, ρ2, A2, hcc.mono ρ2 _ _ (fun ys ρ3 q3 => ?_) q2⟩
  intro M3 p vs H3 A3 S3 N3
  exact ⟨_, _, _, rfl, q3 M3 _ H3 (((A3.store (r1.step (S2.trans S3))).store (r2.step S3)).storeOwn ((N3.stored A3).stored (A3.store (r1.step (S2.trans S3))))) (S1.trans (S2.trans S3))⟩
/-- a list or a tuple, walked -/
def iSeq (K : PySem.W.Frag) (tl : TE) : TI := fun σ H R => tl σ H fun x H1 => ∃ p, x = .ref p ∧ (((∃ xs, SqL K H1 p xs) ∧ R (Itl K p) H1) ∨ ((∃ xs, SqT K H1 p xs) ∧ R (Itt K p) H1))
theorem pi_seq {tg l : Expr} {tl : TE} (hl : PE X l tl) : PI X tg l (iSeq X.K tl) := by
  refine ⟨fun pins s σ H R I h => thn (hl.run pins s σ H _ I h) ?_⟩
  rintro v s1 ⟨x, H1, I1, r1, p, rfl, q⟩
  cases r1
  have new : ∀ b ∈ [s1.heap.objs.size], FpOk X pins H1 b := fun b hb => by
    rw [List.mem_singleton.mp hb]
    exact I1.fpOk (Nat.le_refl _) I1.fresh
  rcases q with ⟨⟨xs, hq⟩, q⟩ | ⟨⟨xs, hq⟩, q⟩
  · obtain ⟨its, rv, pl, hz⟩ := I1.list hq
    refine wpAny_pyIter_list pl.isList ⟨s1.heap.objs.size, [s1.heap.objs.size], _, _, H1, rfl, ?_, turn_list p _, ?_, new, q⟩
    · exact I1.kept (t' := s1.toks) fun b o e => Heap.get?_push_of_some _ e
    · exact ⟨_, Heap.get?_push_size _ rfl, rfl, rfl⟩
  · obtain ⟨its, rv, pt, hz⟩ := I1.tuple hq
    refine wpAny_pyIter_tuple (show s1.heap.IsTuple p its.toArray from pt) ⟨s1.heap.objs.size, [s1.heap.objs.size], _, _, H1, rfl, ?_, turn_tuple p _, ?_, new, q⟩
    · exact I1.kept (t' := s1.toks) fun b o e => Heap.get?_push_of_some _ e
    · exact ⟨_, Heap.get?_push_size _ rfl, rfl, rfl⟩
/-- the items of a list or a tuple -/
def isS (x : D) (P : List D → Prop) : Prop := match x with
  | .lst xs => P xs
  | .tup xs => P xs
  | _ => False
theorem isS_mono {z : D} {P P' : List D → Prop} (h : ∀ b, P b → P' b) (q : isS z P) : isS z P' := by
  cases z <;> first | exact h _ q | exact q.elim
def wSeqI (wa : WE) : WI := fun ρ Q => wa ρ fun x ρ' => isS x fun xs => Q xs ρ'
theorem qi_seq {tg : Expr} (he : QE X Φ e wa) : QI X Φ tg e (wSeqI wa) := by
  refine ⟨fun ρ Q Q' h q => he.mono ρ _ _ (fun x ρ' q' => isS_mono (fun xs p => h xs ρ' p) q') q, PIw (pi_seq he.run) fun σ H R ⟨M, ρ, A, q⟩ => ?_⟩
  refine ⟨M, ρ, A, he.mono ρ _ _ (fun x ρ' q' => ?_) q⟩
  intro M' v H' A' S' r'
  cases r' with
  | lst hm hh rr => exact ⟨_, rfl, .inl ⟨⟨_, SqL.of hh⟩, q' M' H' _ A' S' (gives_list hm hh rr)⟩⟩
  | tup hh rr => exact ⟨_, rfl, .inr ⟨⟨_, SqT.of hh⟩, q' M' H' _ A' S' (gives_tup hh rr)⟩⟩
  | _ => exact q'.elim
/-- a def that keeps its promise, as its callers see it -/
structure Ok (P : Program) (w : World) (K : PySem.W.Frag) (mg : Str → Option Value) (base : Heap) (k : Nat) (x : Str) (ps : List Str) (sp : Sp) : Prop where
  ex : ∃ f fd, FnOk P w K mg base CX0 k f fd ps sp ∧ mg x = some (.ref f) ∧ PySem.W.keepIn K (.ref f) = true ∧ Binds K fd ps []
/-- a def as the top has left it -/
structure Dn (K : PySem.W.Frag) (mg : Str → Option Value) (x : Str) (ps : List Str) (st : Stmt) : Prop where
  ex : ∃ f fd, Fun K x x st f fd ∧ mg x = some (.ref f) ∧ Binds K fd ps []
end
end AL
set_option Elab.async false
set_option linter.all false
set_option maxRecDepth 100000
namespace AL
open PySem PySem.Spec PyProof.Rows L2
/-! ### loops by what holds between two turns -/
theorem loop_inv {α : Type} {enc : α → D} {g : WG} {wb : WS} {R : AEnds} {xs : List α} (I : List α → Ev → Prop)
    (h : ∀ pre x post, xs = pre ++ x :: post → ∀ K : Ev → Prop, (∀ ρ, I (pre ++ [x]) ρ → K ρ) → ∀ ρ, I pre ρ → g (enc x) ρ fun ρ1 => wb { R with nx := K, ct := K, bk := R.nx } ρ1)
    (hd : ∀ ρ, I xs ρ → R.nx ρ) : ∀ ρ, I [] ρ → wLoop g wb R (xs.map enc) ρ := by
  have go : ∀ (post pre : List α), xs = pre ++ post → ∀ ρ, I pre ρ → wLoop g wb R (post.map enc) ρ := by
    intro post
    induction post with
    | nil => intro pre e ρ hi; rw [List.append_nil] at e; subst e; exact hd ρ hi
    | cons x r ih =>
      intro pre e ρ hi
      show g (enc x) ρ _
      exact h pre x r e (fun ρ2 => wLoop g wb R (r.map enc) ρ2) (fun ρ2 h2 => ih (pre ++ [x]) (by rw [e, List.append_assoc]; rfl) ρ2 h2) ρ hi
  exact fun ρ hi => go xs [] rfl ρ hi
/-- a comprehension that leaves the frame as it is -/
theorem make_map {α : Type} {enc : α → D} {g : WG} {tt : WT} {we : WE} {vs : List Nat} {Q : List D → Ev → Prop} {ρ : Ev} (p : α → Bool) (f : α → D) :
    ∀ (ls : List α) (acc : List D), (∀ a ∈ ls, ∀ (C : D → Ev → Prop) (N : Ev → Prop), (p a = true → ∀ ρ3, wipeE ρ3 vs = ρ → C (f a) ρ3) → (p a = false → ∀ ρ3, wipeE ρ3 vs = ρ → N ρ3) → g (enc a) ρ fun ρ1 => tt ρ1 fun b ρ2 => if b = true then we ρ2 C else N ρ2) →
      acc.length + ls.length ≤ sizeLine → Q (acc ++ (ls.filter p).map f) ρ → wMake g tt we vs Q (ls.map enc) acc ρ
  | [], acc, _, _, q => by
    show Q acc ρ
    simpa using q
  | a :: r, acc, h, hl, q => by
    rw [List.length_cons] at hl
    refine h a List.mem_cons_self (fun y ρ3 => acc.length < sizeLine ∧ wMake g tt we vs Q (r.map enc) (acc ++ [y]) (wipeE ρ3 vs)) (fun ρ3 => wMake g tt we vs Q (r.map enc) acc (wipeE ρ3 vs)) (fun hp ρ3 e => ⟨by omega, ?_⟩) fun hp ρ3 e => ?_
    · rw [e]
      refine make_map p f r _ (fun b hb => h b (List.mem_cons_of_mem _ hb)) (by rw [List.length_append, List.length_singleton]; omega) ?_
      rw [List.filter_cons_of_pos hp, List.map_cons] at q
      rw [List.append_assoc]; exact q
    · rw [e]
      refine make_map p f r _ (fun b hb => h b (List.mem_cons_of_mem _ hb)) (by omega) ?_
      rw [List.filter_cons_of_neg (by rw [hp]; decide)] at q
      exact q
/-- a comprehension by what holds between two turns -/
theorem make_inv {α : Type} {enc : α → D} {g : WG} {tt : WT} {we : WE} {vs : List Nat} {Q : List D → Ev → Prop} {xs : List α} (I : List α → List D → Ev → Prop)
    (h : ∀ pre x post, xs = pre ++ x :: post → ∀ acc ρ, I pre acc ρ → ∀ (C : D → Ev → Prop) (N : Ev → Prop), (∀ y ρ3, I (pre ++ [x]) (acc ++ [y]) (wipeE ρ3 vs) → C y ρ3) → (∀ ρ3, I (pre ++ [x]) acc (wipeE ρ3 vs) → N ρ3) → g (enc x) ρ fun ρ1 => tt ρ1 fun b ρ2 => if b = true then we ρ2 C else N ρ2)
    (hl : ∀ pre acc ρ, I pre acc ρ → acc.length ≤ pre.length) (hx : xs.length ≤ sizeLine) (hd : ∀ acc ρ, I xs acc ρ → Q acc ρ) : ∀ ρ, I [] [] ρ → wMake g tt we vs Q (xs.map enc) [] ρ := by
  have go : ∀ (post pre : List α), xs = pre ++ post → ∀ acc ρ, I pre acc ρ → wMake g tt we vs Q (post.map enc) acc ρ := by
    intro post
    induction post with
    | nil => intro pre e acc ρ hi; rw [List.append_nil] at e; subst e; exact hd acc ρ hi
    | cons x r ih =>
      intro pre e acc ρ hi
      show g (enc x) ρ _
      have e2 : xs = (pre ++ [x]) ++ r := by rw [e, List.append_assoc]; rfl
      have hn : acc.length < sizeLine := by
        have := hl pre acc ρ hi
        have : xs.length = pre.length + (r.length + 1) := by rw [e, List.length_append, List.length_cons]
        omega
      exact h pre x r e acc ρ hi (fun y ρ3 => acc.length < sizeLine ∧ wMake g tt we vs Q (r.map enc) (acc ++ [y]) (wipeE ρ3 vs)) (fun ρ3 => wMake g tt we vs Q (r.map enc) acc (wipeE ρ3 vs)) (fun y ρ3 h3 => ⟨hn, ih _ e2 _ _ h3⟩) fun ρ3 h3 => ih _ e2 _ _ h3
  exact fun ρ hi => go xs [] rfl [] ρ hi
theorem enums_map {α : Type} {enc : α → D} : ∀ (k : Nat) (xs : List α), enums k (xs.map enc) = (xs.zipIdx k).map fun p => .tup [.int (p.2 : Nat), enc p.1]
  | _, [] => rfl
  | k, x :: r => by
    rw [List.map_cons, List.zipIdx_cons, List.map_cons]
    unfold enums
    rw [enums_map (k + 1) r]
theorem intsD_map (n : Nat) : intsD 0 n = (List.range n).map fun k => .int (k : Nat) := by
  unfold intsD
  congr 1
  funext i
  rw [Int.zero_add]
theorem isS_tup {xs : List D} {P : List D → Prop} (h : P xs) : isS (.tup xs) P := h
theorem isS_lst {xs : List D} {P : List D → Prop} (h : P xs) : isS (.lst xs) P := h
end AL
set_option Elab.async false
set_option linter.all false
set_option maxHeartbeats 4000000
set_option maxRecDepth 100000
namespace AL
open PySem PySem.Spec PyProof.Rows L2 L2D
/-! ### dicts of the def's own, keys whole numbers in tuples -/
mutual
theorem hash_nk (w w' : World) : ∀ d : PyData, (nkP d).hash w = (nkP d).hash w'
  | .none => rfl
  | .bool _ => rfl
  | .int _ => rfl
  | .str _ => rfl
  | .list _ => rfl
  | .dict _ => rfl
  | .tuple xs => by
    show reduceHash (Builtin.Tuple.tupleHashOf (NestedKey.hashes w (nkPs xs))) = reduceHash (Builtin.Tuple.tupleHashOf (NestedKey.hashes w' (nkPs xs)))
    rw [hash_nks w w' xs]
theorem hash_nks (w w' : World) : ∀ ds : List PyData, NestedKey.hashes w (nkPs ds) = NestedKey.hashes w' (nkPs ds)
  | [] => rfl
  | d :: ds => by
    show (nkP d).hash w :: NestedKey.hashes w (nkPs ds) = (nkP d).hash w' :: NestedKey.hashes w' (nkPs ds)
    rw [hash_nk w w' d, hash_nks w w' ds]
end
mutual
theorem depth_nk : ∀ {d : PyData}, keyP d = true → (nkP d).depth = d.depth
  | .int _, _ => rfl
  | .tuple xs, k => by
    show NestedKey.depthAll (nkPs xs) + 1 = PyData.depth (.tuple xs)
    rw [depth_nks k]
    unfold PyData.depth
    rfl
  | .none, k => by simp [keyP] at k
  | .bool _, k => by simp [keyP] at k
  | .str _, k => by simp [keyP] at k
  | .list _, k => by simp [keyP] at k
  | .dict _, k => by simp [keyP] at k
theorem depth_nks : ∀ {ds : List PyData}, keyPs ds = true → NestedKey.depthAll (nkPs ds) = PyData.depthAll ds
  | [], _ => by unfold nkPs NestedKey.depthAll PyData.depthAll; rfl
  | d :: ds, k => by
    have k' := Bool.and_eq_true_iff.mp k
    unfold nkPs NestedKey.depthAll PyData.depthAll
    rw [depth_nk k'.1, depth_nks k'.2]
end
mutual
theorem py_inj : ∀ {d e : D}, d.plain = true → e.plain = true → d.py = e.py → d = e
  | .non, e, _, k, h => by cases e <;> first | rfl | (cases h; done) | simp [D.plain] at k
  | .bl _, e, _, k, h => by cases e <;> first | (cases h; rfl) | (cases h; done) | simp [D.plain] at k
  | .int _, e, _, k, h => by cases e <;> first | (cases h; rfl) | (cases h; done) | simp [D.plain] at k
  | .str _, e, _, k, h => by cases e <;> first | (cases h; rfl) | (cases h; done) | simp [D.plain] at k
  | .tup xs, .tup ys, k1, k2, h => by rw [pys_inj k1 k2 (PyData.tuple.inj h)]
  | .lst xs, .lst ys, k1, k2, h => by rw [pys_inj k1 k2 (PyData.list.inj h)]
  | .tup _, .non, _, _, h | .tup _, .bl _, _, _, h | .tup _, .int _, _, _, h | .tup _, .str _, _, _, h | .tup _, .lst _, _, _, h => by cases h
  | .lst _, .non, _, _, h | .lst _, .bl _, _, _, h | .lst _, .int _, _, _, h | .lst _, .str _, _, _, h | .lst _, .tup _, _, _, h => by cases h
  | _, .scr _, _, k, _ => by simp [D.plain] at k
  | _, .raw _, _, k, _ => by simp [D.plain] at k
  | _, .dct _, _, k, _ => by simp [D.plain] at k
  | _, .dkt _ _, _, k, _ => by simp [D.plain] at k
  | _, .thk _, _, k, _ => by simp [D.plain] at k
  | .scr _, _, k, _, _ => by simp [D.plain] at k
  | .raw _, _, k, _, _ => by simp [D.plain] at k
  | .dct _, _, k, _, _ => by simp [D.plain] at k
  | .dkt _ _, _, k, _, _ => by simp [D.plain] at k
  | .thk _, _, k, _, _ => by simp [D.plain] at k
theorem pys_inj : ∀ {ds es : List D}, D.plains ds = true → D.plains es = true → D.pys ds = D.pys es → ds = es
  | [], [], _, _, _ => rfl
  | d :: ds, e :: es, k1, k2, h => by
    have k1' := Bool.and_eq_true_iff.mp k1
    have k2' := Bool.and_eq_true_iff.mp k2
    have h0 : d.py :: D.pys ds = e.py :: D.pys es := h
    rw [List.cons.injEq] at h0
    rw [py_inj k1'.1 k2'.1 h0.1, pys_inj k1'.2 k2'.2 h0.2]
  | [], _ :: _, _, _, h => by cases h
  | _ :: _, [], _, _, h => by cases h
end
theorem isKey_of {k : D} (h : k.isKey = true) : k.plain = true ∧ keyP k.py = true ∧ (nkP k.py).depth ≤ 8 ∧ ∃ x r, k = .tup (x :: r) := by
  unfold D.isKey at h
  simp only [Bool.and_eq_true, decide_eq_true_eq] at h
  obtain ⟨⟨⟨h1, h2⟩, h3⟩, h4⟩ := h
  refine ⟨h1, h2, h3, ?_⟩
  cases k with
  | tup xs =>
    cases xs with
    | nil => cases h4
    | cons x r => exact ⟨x, r, rfl⟩
  | _ => cases h4
theorem key_inj {k l : D} (hk : k.isKey = true) (hl : l.isKey = true) (h : nkP k.py = nkP l.py) : k = l := by
  obtain ⟨a1, a2, _⟩ := isKey_of hk
  obtain ⟨b1, b2, _⟩ := isKey_of hl
  exact py_inj a1 b1 (nkP_inj a2 b2 h)
theorem dicO_eq {P P' : Program} {w w' : World} {a : Addr} {xs : List Ent} {ks : List D} (h : xs.map (·.1) = ks.map fun k => nkP k.py) : DicO P w a xs = DicO P' w' a xs := by
  have e : xs.map (entryOfKey (nestedKind P w)) = xs.map (entryOfKey (nestedKind P' w')) := by
    refine List.map_congr_left fun x hx => ?_
    have hm : x.1 ∈ xs.map (·.1) := List.mem_map.mpr ⟨x, hx, rfl⟩
    rw [h] at hm
    obtain ⟨k, _, e⟩ := List.mem_map.mp hm
    have e2 : x.1.hash w = x.1.hash w' := by rw [← e]; exact hash_nk w w' k.py
    show (⟨x.1.hash w, .ref x.2.1, x.2.2⟩ : DictEntry) = ⟨x.1.hash w', .ref x.2.1, x.2.2⟩
    rw [e2]
  have e3 : DicAt P w a xs = DicAt P' w' a xs := by
    funext g
    unfold DicAt
    rw [e]
  unfold DicO
  rw [e3]
theorem key_at {K : PySem.W.Frag} {M : Addr → Prop} {H : Hp} {b : Addr} {k : D} (hk : k.isKey = true) (r : Rp K M H (.ref b) k) : KeyAt K H b k.py := by
  obtain ⟨a1, a2, a3, _⟩ := isKey_of hk
  exact ⟨r.dp a1, a2, a3⟩
theorem keys_at {K : PySem.W.Frag} {M : Addr → Prop} {H : Hp} : ∀ {xs : List Ent} {ks : List D}, DicR K M H xs ks → KeysAt K H xs (ks.map D.py)
  | [], [], _ => .nil
  | x :: xs, k :: ks, ⟨h1, h2, h3⟩ => by
    cases h1 with
    | cons r t =>
      rw [List.map_cons, List.map_cons, List.cons.injEq] at h2
      exact .cons ⟨key_at (h3 k List.mem_cons_self) r, h2.1⟩ (keys_at ⟨t, h2.2, fun l hl => h3 l (List.mem_cons_of_mem _ hl)⟩)
  | [], _ :: _, ⟨h1, _, _⟩ => by cases h1
  | _ :: _, [], ⟨h1, _, _⟩ => by cases h1
/-- a key is stored -/
theorem dic_stored {K : PySem.W.Frag} {M : Addr → Prop} {H : Hp} {xs : List Ent} {ks : List D} {b : Addr} {k : D} {u : Value} (h : DicR K M H xs ks) (hk : k.isKey = true) (r : Rp K M H (.ref b) k) :
    ∃ ks', DicR K M H (storedH xs (nkP k.py) b u) ks' ∧ (∀ x, x ∈ ks' ↔ x ∈ ks ∨ x = k) ∧ ks'.length ≤ ks.length + 1 := by
  obtain ⟨h1, h2, h3⟩ := h
  cases e : atKey xs (nkP k.py) with
  | none =>
    rw [storedH_new e]
    refine ⟨ks ++ [k], ⟨?_, ?_, fun x hx => ?_⟩, fun x => by simp, by simp⟩
    · rw [List.map_append]; exact h1.append (.cons r .nil)
    · rw [List.map_append, List.map_append, h2]; rfl
    · rcases List.mem_append.mp hx with hx | hx
      · exact h3 x hx
      · rw [List.mem_singleton.mp hx]; exact hk
  | some p =>
    rw [storedH_old e]
    have e1 : (xs.map (putAt (nkP k.py) u)).map (fun x => V.ref x.2.1) = xs.map fun x => V.ref x.2.1 := by
      rw [List.map_map]
      refine List.map_congr_left fun x _ => ?_
      show V.ref (putAt (nkP k.py) u x).2.1 = _
      unfold putAt
      split <;> rfl
    have e2 : (xs.map (putAt (nkP k.py) u)).map (·.1) = xs.map (·.1) := by
      rw [List.map_map]
      refine List.map_congr_left fun x _ => ?_
      show (putAt (nkP k.py) u x).1 = _
      unfold putAt
      split <;> rfl
    have hm : k ∈ ks := by
      unfold atKey at e
      cases q : xs.find? (fun x => decide (x.1 = nkP k.py)) with
      | none => rw [q] at e; cases e
      | some y =>
        have y1 := List.find?_some q
        have y2 := List.mem_of_find?_eq_some q
        have y3 : y.1 ∈ xs.map (·.1) := List.mem_map.mpr ⟨y, y2, rfl⟩
        rw [h2] at y3
        obtain ⟨l, hl, el⟩ := List.mem_map.mp y3
        have := key_inj (h3 l hl) hk (el.trans (of_decide_eq_true y1))
        rwa [this] at hl
    refine ⟨ks, ⟨by rw [e1]; exact h1, by rw [e2]; exact h2, h3⟩, fun x => ⟨.inl, fun z => z.elim id fun z => by rw [z]; exact hm⟩, Nat.le_succ _⟩
section
variable {X : Cx} {Φ : Cl} [ok : ClOk Φ] {pos : Pos} {e a b c : Expr} {wa wb wc : WE} {M : Addr → Prop} {σ : L2.St} {H : Hp} {ρ : Ev}
def dicE : Option En → (List D → Prop) → Prop
  | some (.dic ks), P => P ks
  | _, _ => False
theorem dicE_mono {o : Option En} {P P' : List D → Prop} (h : ∀ x, P x → P' x) (q : dicE o P) : dicE o P' := by
  cases o with
  | none => exact q.elim
  | some e => cases e <;> first | exact h _ q | exact q.elim
theorem dicE_rp (A : Abs Φ M σ H ρ) {i : Nat} {P : List D → Prop} (q : dicE ρ[i]? P) : ∃ ks r Pr w xs, ρ[i]? = some (.dic ks) ∧ σ[i]? = some (some (.ref r)) ∧ M r ∧ H r = some (DicO Pr w r xs) ∧ DicR Φ.K M H xs ks ∧ Φ.H0 r = none ∧ Φ.T r = none ∧ P ks := by
  cases he : ρ[i]? with
  | none => rw [he] at q; exact q.elim
  | some en =>
    have hi : i < σ.length := by rw [A.len]; exact (List.getElem?_eq_some_iff.mp he).1
    have sl := A.slot i en _ he (List.getElem?_eq_getElem hi)
    rw [he] at q
    cases en with
    | dic ks => obtain ⟨r, Pr, w, xs, e, m, h, rr, z⟩ := sl; exact ⟨ks, r, Pr, w, xs, rfl, by rw [List.getElem?_eq_getElem hi, e], m, h, rr, z.1, z.2, q⟩
    | _ => exact q.elim
theorem Abs.newDic (A : Abs Φ M σ H ρ) {i : Nat} {p : Addr} {P : Program} {w : World} (hp : H p = none) : Abs Φ (more M p) (σ.set i (some (.ref p))) (upd H p (DicO P w p [])) (ρ.set i (.dic [])) ∧ Step M H (more M p) (upd H p (DicO P w p [])) := by
  have st : Step M H (more M p) (upd H p (DicO P w p [])) := ⟨fun a o hm h => ⟨fun z => z.elim hm (fun y => ne_of_none h hp y), same_upd hp a o h⟩, fun a xs h => same_upd hp a _ h, fun a o u h => same_upd hp a _ h⟩
  have h0 : Φ.H0 p = none := by
    cases q : Φ.H0 p with
    | none => rfl
    | some o =>
      by_cases hw : Φ.W p
      · obtain ⟨vs, z, _⟩ := A.lst p (A.m0 p (A.wm p hw))
        rw [hp] at z; cases z
      · have := A.keep p o q hw
        rw [hp] at this; cases this
  have ht : Φ.T p = none := by
    cases q : Φ.T p with
    | none => rfl
    | some o => have := (A.hold p o q).2; rw [hp] at this; cases this
  have nown : ∀ {j : Nat} {w' : Bool} {ys : List D}, (ρ.set i (.dic []))[j]? = some (.own w' ys) → i ≠ j ∧ ρ[j]? = some (.own w' ys) := fun {j w' ys} h => by
    by_cases hj : i = j
    · subst hj
      have hi : i < ρ.length := by have := (List.getElem?_eq_some_iff.mp h).1; rwa [List.length_set] at this
      rw [List.getElem?_set_self hi] at h; cases h
    · rw [List.getElem?_set_ne hj] at h; exact ⟨hj, h⟩
  have ndic : ∀ {j : Nat} {ys : List D}, ρ[j]? = some (.dic ys) → σ[j]? ≠ some (some (.ref p)) := fun {j ys} h1 h2 => by
    obtain ⟨a, _, _, _, e1, m, h, _⟩ := A.slot j _ _ h1 h2
    cases e1
    rw [hp] at h; cases h
  refine ⟨⟨by rw [List.length_set, List.length_set]; exact A.len, fun j en o h1 h2 => ?_, fun j k q w1 w2 ys zs h1 h2 h3 h4 => ?_, fun a h => ?_, fun a h => .inl (A.m0 a h), fun a o h1 h2 => same_upd hp a o (A.keep a o h1 h2), A.wm, fun a o h => ⟨.inl (A.hold a o h).1, same_upd hp a o (A.hold a o h).2⟩, fun j k q ys zs h1 h2 h3 h4 => ?_, A.tabs st fun P ps m h => ⟨.inl m, same_upd hp _ _ h⟩, A.far.set (fun k hk => List.getElem?_set_ne (fun z => hk z.symm)) (fun _ _ _ => En.noConfusion) (fun j w F P a _ h1 h3 => by
    have hi : i < σ.length := by have := (List.getElem?_eq_some_iff.mp h3).1; rwa [List.length_set] at this
    rw [List.getElem?_set_self hi] at h3
    cases h3
    intro hf
    have hj : j < σ.length := by rw [A.len]; exact (List.getElem?_eq_some_iff.mp h1).1
    obtain ⟨b, e1, f, g, r⟩ := A.slot j _ _ h1 (List.getElem?_eq_getElem hj)
    obtain ⟨o, hb', _⟩ := A.lst _ (f _ hf).1
    rw [hp] at hb'; cases hb')⟩, st⟩
  · by_cases hj : i = j
    · subst hj
      have hi : i < ρ.length := by have := (List.getElem?_eq_some_iff.mp h1).1; rwa [List.length_set] at this
      rw [List.getElem?_set_self hi] at h1
      cases h1
      rw [List.getElem?_set_self (by rw [A.len]; exact hi)] at h2
      cases h2
      exact ⟨p, P, w, [], rfl, .inr rfl, upd_same, ⟨.nil, rfl, fun k hk => by cases hk⟩, h0, ht⟩
    · rw [List.getElem?_set_ne hj] at h1 h2
      have q := A.slot j en o h1 h2
      cases en with
      | un => trivial
      | d x => obtain ⟨v, e1, r⟩ := q; exact ⟨v, e1, r.step st⟩
      | own w xs => obtain ⟨a, ws, e1, m, h, r, z⟩ := q; exact ⟨a, ws, e1, .inl m, same_upd hp _ _ h, r.step st, z⟩
      | dic ks => obtain ⟨a, P, w, ws, e1, m, h, r, z⟩ := q; exact ⟨a, P, w, ws, e1, .inl m, same_upd hp _ _ h, r.step st, z⟩
      | obj w F P =>
        obtain ⟨a, e1, f, g, r⟩ := q
        refine ⟨a, e1, fun b hb => ⟨.inl (f b hb).1, (f b hb).2⟩, g, g.1 _ _ _ _ _ st (fun b hb => ?_) r⟩
        obtain ⟨o, hb', _⟩ := A.lst b (f b hb).1
        rw [hb', same_upd hp b o hb']
  · obtain ⟨n1, g1⟩ := nown h1
    obtain ⟨n2, g2⟩ := nown h2
    rw [List.getElem?_set_ne n1] at h3
    rw [List.getElem?_set_ne n2] at h4
    exact A.inj j k q w1 w2 ys zs g1 g2 h3 h4
  · rcases h with h | h
    · obtain ⟨ws, q, mu⟩ := A.lst a h
      exact ⟨ws, same_upd hp _ _ q, mu⟩
    · rw [h]; exact ⟨_, upd_same, trivial⟩
  · have val : ∀ {j : Nat} {ys : List D}, (ρ.set i (.dic []))[j]? = some (.dic ys) → (σ.set i (some (.ref p)))[j]? = some (some (.ref q)) → (i = j ∧ q = p) ∨ (i ≠ j ∧ ρ[j]? = some (.dic ys) ∧ σ[j]? = some (some (.ref q))) := fun {j ys} h h' => by
      by_cases hj : i = j
      · subst hj
        have hi : i < ρ.length := by have := (List.getElem?_eq_some_iff.mp h).1; rwa [List.length_set] at this
        rw [List.getElem?_set_self (by rw [A.len]; exact hi)] at h'
        cases h'; exact .inl ⟨rfl, rfl⟩
      · rw [List.getElem?_set_ne hj] at h h'
        exact .inr ⟨hj, h, h'⟩
    rcases val h1 h3 with ⟨z1, y1⟩ | ⟨_, g1, f1⟩ <;> rcases val h2 h4 with ⟨z2, y2⟩ | ⟨_, g2, f2⟩
    · rw [← z1, ← z2]
    · subst y1; exact absurd f2 (ndic g2)
    · subst y2; exact absurd f1 (ndic g1)
    · exact A.injd j k q ys zs g1 g2 f1 f2
theorem Abs.writeDic (A : Abs Φ M σ H ρ) {i : Nat} {ks ks' : List D} {r : Addr} {P P' : Program} {w w' : World} {xs xs' : List Ent} (e : ρ[i]? = some (.dic ks)) (es : σ[i]? = some (some (.ref r))) (hh : H r = some (DicO P w r xs)) (rr : DicR Φ.K M H xs' ks') :
    Abs Φ M σ (upd H r (DicO P' w' r xs')) (ρ.set i (.dic ks')) ∧ Step M H M (upd H r (DicO P' w' r xs')) := by
  obtain ⟨a, P1, w1, xs1, e1, m, hh1, r0, z, t⟩ := A.slot i _ _ e es
  cases e1
  have st : Step M H M (upd H r (DicO P' w' r xs')) := by
    refine ⟨fun a o hm h => ⟨hm, ?_⟩, fun a xs h => ?_, fun a o u h => ?_⟩
    · rw [upd_ne (fun z => hm (by rw [z]; exact m))]; exact h
    · rw [upd_ne (fun z => by rw [z, hh] at h; cases h)]; exact h
    · rw [upd_ne (fun z => by rw [z, hh] at h; cases h)]; exact h
  have hi : i < ρ.length := (List.getElem?_eq_some_iff.mp e).1
  have nown : ∀ {j : Nat} {w' : Bool} {ys : List D}, (ρ.set i (.dic ks'))[j]? = some (.own w' ys) → ρ[j]? = some (.own w' ys) := fun {j w' ys} h => by
    by_cases hj : i = j
    · subst hj
      rw [List.getElem?_set_self hi] at h; cases h
    · rw [List.getElem?_set_ne hj] at h; exact h
  have ndic : ∀ {j : Nat} {ys : List D}, (ρ.set i (.dic ks'))[j]? = some (.dic ys) → ∃ zs, ρ[j]? = some (.dic zs) := fun {j ys} h => by
    by_cases hj : i = j
    · subst hj; exact ⟨_, e⟩
    · rw [List.getElem?_set_ne hj] at h; exact ⟨_, h⟩
  refine ⟨⟨by rw [List.length_set]; exact A.len, fun j en o h1 h2 => ?_, fun j k p w1 w2 zs1 zs2 h1 h2 h3 h4 => A.inj j k p w1 w2 zs1 zs2 (nown h1) (nown h2) h3 h4, fun b hb => ?_, A.m0, fun b o h1 h2 => ?_, A.wm, fun b o h => ?_, fun j k b ys zs h1 h2 h3 h4 => ?_, A.tabs st fun P ps m' h => ⟨m', by rw [upd_ne (fun y => by rw [y, hh] at h; cases h)]; exact h⟩, A.far.set (fun _ _ => rfl) (fun _ _ _ => En.noConfusion) fun j w F P a hji h1 h3 => (show ¬ F a from A.far j i w F P (.dic ks) a hji h1 e h3)⟩, st⟩
  · by_cases hj : i = j
    · subst hj
      rw [List.getElem?_set_self hi] at h1
      cases h1
      rw [es] at h2; cases h2
      exact ⟨r, P', w', xs', rfl, m, upd_same, rr.step st, z, t⟩
    · rw [List.getElem?_set_ne hj] at h1
      have q := A.slot j en o h1 h2
      cases en with
      | un => trivial
      | d x => obtain ⟨v, e1, r1⟩ := q; exact ⟨v, e1, r1.step st⟩
      | own w' zs =>
        obtain ⟨b, ws, e1, m1, h3, r1, z1⟩ := q
        have ne : b ≠ r := fun y => by rw [y, hh] at h3; cases h3
        exact ⟨b, ws, e1, m1, by rw [upd_ne ne]; exact h3, r1.step st, z1⟩
      | dic zs =>
        obtain ⟨b, P2, w2, ws, e1, m1, h3, r1, z1⟩ := q
        have ne : b ≠ r := fun y => by
          subst y; subst e1
          exact hj (A.injd i j _ _ _ e h1 es h2)
        exact ⟨b, P2, w2, ws, e1, m1, by rw [upd_ne ne]; exact h3, r1.step st, z1⟩
      | obj w F P =>
        obtain ⟨b, e1, f, g, r1⟩ := q
        have nf : ¬ F r := A.far j i w F P (.dic ks) r (fun z => hj z.symm) h1 e es
        exact ⟨b, e1, f, g, g.1 _ _ _ _ _ st (fun c hc => upd_ne (show c ≠ r from fun y => nf (y ▸ hc))) r1⟩
  · by_cases y : b = r
    · rw [y]; exact ⟨_, upd_same, trivial⟩
    · obtain ⟨ws, q, mu⟩ := A.lst b hb
      exact ⟨ws, by rw [upd_ne y]; exact q, mu⟩
  · rw [upd_ne (fun y => by rw [y, z] at h1; cases h1)]
    exact A.keep b o h1 h2
  · refine ⟨(A.hold b o h).1, ?_⟩
    rw [upd_ne (fun y => by rw [y, t] at h; cases h)]
    exact (A.hold b o h).2
  · obtain ⟨_, g1⟩ := ndic h1
    obtain ⟨_, g2⟩ := ndic h2
    exact A.injd j k b _ _ g1 g2 h3 h4
/-- x = {} -/
def wDic0 (i : Nat) : WS := fun R ρ => R.nx (ρ.set i (.dic []))
theorem qs_dic0 {i : Nat} {x : Str} {pos' : Pos} {dp : Pos} (hN : X.N.Nodup) (hi : X.N[i]? = some x) (hx : Loc X.env.scope x) (hs : swapsWith (.Dict [] [] dp) (some (.Name x pos')) pos.line X.env = pure false := by rfl) (hf : X.fn x = true ∨ X.env.scope.names.lookup x = some .local := by first | exact .inl rfl | exact .inr rfl | assumption) :
    QS X Φ (.Assign [.Name x pos'] (.Dict [] [] dp) pos) (wDic0 i) := by
  refine ⟨fun ρ R R' h q => h.nx _ q, PSw (ps_set hN hi hx pe_dicNew hs hf) fun D σ H ⟨M, ρ, A, q⟩ => ?_⟩
  intro p hp
  obtain ⟨A2, S2⟩ := A.newDic (i := i) (P := X.prog) (w := X.w) hp
  exact q _ _ _ A2 S2
/-- d[k] = e -/
def wSetD (wa : WE) (i : Nat) (wk : WE) : WS := fun R ρ => wa ρ fun _ ρ0 => dicE ρ0[i]? fun _ => wk ρ0 fun k ρ1 => dicE ρ1[i]? fun ks => k.isKey = true ∧ ks.length ≤ sizeLine ∧
  ∀ ks', (∀ x, x ∈ ks' ↔ x ∈ ks ∨ x = k) → ks'.length ≤ ks.length + 1 → R.nx (ρ1.set i (.dic ks'))
theorem qs_setD {i : Nat} {x : Str} {p spos : Pos} {wk : WE} {ik : Expr} (hK : X.K = Φ.K) (hu : X.A.units + 64 < cLine) (hN : X.N[i]? = some x) (hv : Vis X.env.scope x) (ha : QE X Φ e wa) (hk : QE X Φ ik wk) (hd : (x == ("__debug__" : Str)) = false := by decide) (hcd : (x == ("__classdict__" : Str)) = false := by decide)
    (hsub : ∀ v, assign (.Subscript (.Name x p) ik spos) X.env v = (do
      let ov ← holding [v] (eval (.Name x p) X.env)
      let iv ← holding [v, ov] (eval ik X.env)
      standAt spos
      holding [v, ov, iv] (setItem ov iv v)
      release [v, ov, iv] []) := by intro _; rfl)
    (hs : swapsWithSole [.Subscript (.Name x p) ik spos] e pos.line X.env = pure false := by rfl) (hw : swappedStores [.Subscript (.Name x p) ik spos] e X.env = pure none := by rfl)
    (h1 : (assignEach [.Subscript (.Name x p) ik spos] X.env).map (·.2) = [assign (.Subscript (.Name x p) ik spos) X.env] := by rfl) : QS X Φ (.Assign [.Subscript (.Name x p) ik spos] e pos) (wSetD wa i wk) := by
  refine ⟨fun ρ R R' h q => ha.mono ρ _ _ (fun x ρ1 q1 => dicE_mono (fun ks p => hk.mono ρ1 _ _ (fun k ρ2 q2 => dicE_mono (fun ks p => ⟨p.1, p.2.1, fun ks' m l => h.nx _ (p.2.2 ks' m l)⟩) q2) p) q1) q,
    PSw (ps_asg ha.run (pg_sub (pe_var hN hv hd hcd) hk.run (set_dic hu) hsub) hs hw h1) fun D σ H ⟨M, ρ, A, q⟩ => ?_⟩
  refine ⟨M, ρ, A, ha.mono ρ _ _ (fun x ρ1 q1 => ?_) q⟩
  intro M1 v H1 A1 S1 r1
  obtain ⟨ks0, r, Pr, w, xs0, e0, es, m0, hh0, rr0, _, _, q1⟩ := dicE_rp A1 q1
  refine ⟨.ref r, es, M1, ρ1, A1, hk.mono ρ1 _ _ (fun k ρ2 q2 => ?_) q1⟩
  intro M2 iv H2 A2 S2 r2
  obtain ⟨ks, r', Pr', w', xs, e2, es2, m2, hh2, rr2, _, _, hk1, hk2, q3⟩ := dicE_rp A2 q2
  rw [es] at es2
  cases es2
  obtain ⟨_, _, _, xk, rk, ek⟩ := isKey_of hk1
  have hiv : ∃ b, iv = .ref b := by
    rw [ek] at r2
    cases r2; exact ⟨_, rfl⟩
  obtain ⟨b, rfl⟩ := hiv
  have hx : H2 r = some (DicO X.prog X.w r xs) := by rw [hh2, dicO_eq rr2.2.1]
  refine ⟨r, b, xs, ks.map AL.D.py, k.py, rfl, rfl, hx, by rw [hK]; exact keys_at rr2, by rw [hK]; exact key_at hk1 r2, ?_, fun u => ?_⟩
  · have := rr2.1.length
    rw [List.length_map] at this
    rw [this]; exact hk2
  · obtain ⟨ks', d1, d2, d3⟩ := dic_stored (u := u) rr2 hk1 r2
    obtain ⟨A3, S3⟩ := A2.writeDic (P' := X.prog) (w' := X.w) e2 es hh2 d1
    exact q3 ks' d2 d3 M2 σ _ A3 (S1.trans (S2.trans S3))
/-- sorted(d) -/
def wSortD (i : Nat) : WA := fun ρ Q => dicE ρ[i]? fun ks => ks.length ≤ sizeLine ∧ (∀ x ∈ ks, ∀ y ∈ ks, PySem.W.alike x.py y.py = true) ∧ ∀ zs, zs.Perm ks → Q zs ρ
theorem RpAll.perm {K : PySem.W.Frag} {H : Hp} {vs us : List V} (p : us.Perm vs) : ∀ {ds : List D}, RpAll K M H vs ds → ∃ es, es.Perm ds ∧ RpAll K M H us es := by
  induction p with
  | nil => intro ds r; exact ⟨ds, .refl _, r⟩
  | cons x _ ih =>
    intro ds r
    cases r with
    | cons h t =>
      obtain ⟨es, p1, r1⟩ := ih t
      exact ⟨_ :: es, p1.cons _, .cons h r1⟩
  | swap x y l =>
    intro ds r
    cases r with
    | cons h t =>
      cases t with
      | cons h2 t2 => exact ⟨_, .swap _ _ _, .cons h2 (.cons h t2)⟩
  | trans _ _ ih1 ih2 =>
    intro ds r
    obtain ⟨es, p1, r1⟩ := ih2 r
    obtain ⟨fs, p2, r2⟩ := ih1 r1
    exact ⟨fs, p2.trans p1, r2⟩
theorem qf_sortD {i : Nat} {x f : Str} {p p2 : Pos} (hK : X.K = Φ.K) (hcalm : X.calm = true) (hu : X.A.units + 64 < cLine) (hN : X.N[i]? = some x) (hv : Vis X.env.scope x) (hg : Gl X f) (hm : X.mg f = none) (hvb : bootBuiltins f = some (.builtin "sorted")) (hd : (x == ("__debug__" : Str)) = false := by decide) (hcd : (x == ("__classdict__" : Str)) = false := by decide)
    (hn : f ≠ "__name__" := by decide) (hdb : (f == ("__debug__" : Str)) = false := by decide)
    (he : starEach (.Name x p2 :: []) X.env = (false, eval (.Name x p2) X.env) :: starEach [] X.env := by rfl) (hpl : (backTo pos (starEach [] X.env)).any (·.1) = false := by rfl) : QF X Φ (.Call (.Name f p) [.Name x p2] [] pos) (wSortD i) := by
  refine ⟨fun ρ Q Q' h q => dicE_mono (fun ks p => ⟨p.1, p.2.1, fun zs z => h _ _ (p.2.2 zs z)⟩) q, PEw (pe_callB (call_sortedDic hcalm hu) hg hm hvb (pa_cons (pe_var hN hv hd hcd) pa_nil he) hn hdb he hpl) fun σ H Q ⟨M, ρ, A, q⟩ => ?_⟩
  obtain ⟨ks, r, Pr, w, xs, e0, es, m0, hh, rr, _, _, q1, q2, q3⟩ := dicE_rp A q
  refine ⟨.ref r, es, r, xs, ks.map AL.D.py, rfl, by rw [hh, dicO_eq rr.2.1], by rw [hK]; exact keys_at rr, ?_, ?_, ?_, ?_, fun ys p hp hn => ?_⟩
  · intro d hd d' hd'
    obtain ⟨x1, h1, rfl⟩ := List.mem_map.mp hd
    obtain ⟨x2, h2, rfl⟩ := List.mem_map.mp hd'
    exact q2 x1 h1 x2 h2
  · intro d hd
    obtain ⟨x1, h1, rfl⟩ := List.mem_map.mp hd
    obtain ⟨_, _, _, x, r, e⟩ := isKey_of (rr.2.2 x1 h1)
    rw [e]; exact ⟨x.py, D.pys r, rfl⟩
  · intro d hd
    obtain ⟨x1, h1, rfl⟩ := List.mem_map.mp hd
    obtain ⟨_, a2, a3, _⟩ := isKey_of (rr.2.2 x1 h1)
    rw [← depth_nk a2]; exact a3
  · have := rr.1.length
    rw [List.length_map] at this
    rw [this]; exact q1
  · obtain ⟨zs, p1, r1⟩ := RpAll.perm hp rr.1
    obtain ⟨A2, S2, N2⟩ := A.add hn r1
    exact q3 zs p1 _ _ _ _ A2 S2 N2
end
end AL
set_option Elab.async false
set_option linter.all false
set_option maxRecDepth 100000
namespace AL
open PySem PySem.Spec PyProof.Rows L2
section
variable {X : Cx} {Φ : Cl} [ok : ClOk Φ] {pos : Pos} {e a b c : Expr} {wa wb wc : WE} {M : Addr → Prop} {σ : L2.St} {H : Hp} {ρ : Ev}
theorem rpAll_rg {K : PySem.W.Frag} {j : Int} : RpAll K M H (rgV 0 j) (intsD 0 j.toNat) := by
  unfold rgV intsD
  rw [Int.sub_zero]
  generalize List.range j.toNat = l
  induction l with
  | nil => exact .nil
  | cons x r ih => exact .cons (.int _) ih
/-- range(n) as an argument -/
def kRg : K1 := fun x P => match x with
  | .int j => (0 ≤ j ∧ j ≤ 1000) ∧ P (.lst (intsD 0 j.toNat))
  | _ => False
def wTupRg (wa : WE) : WE := fun ρ Q => wa ρ fun x ρ1 => match x with
  | .int j => (0 ≤ j ∧ j ≤ 1000) ∧ Q (.tup (intsD 0 j.toNat)) ρ1
  | _ => False
def wLstRg (wa : WE) : WA := fun ρ Q => wa ρ fun x ρ1 => match x with
  | .int j => (0 ≤ j ∧ j ≤ 1000) ∧ Q (intsD 0 j.toNat) ρ1
  | _ => False
theorem qe_tupRg {p p2 pos2 : Pos} (hc : X.calm = true) (hg : Gl X "tuple") (hm : X.mg "tuple" = none) (hg2 : Gl X "range") (hm2 : X.mg "range" = none) (ha : QE X Φ a wa)
    (na : starEach [.Call (.Name "range" p2) [a] [] pos2] X.env = (false, eval (.Call (.Name "range" p2) [a] [] pos2) X.env) :: starEach [] X.env := by rfl) (nb : starEach [a] X.env = (false, eval a X.env) :: starEach [] X.env := by rfl) :
    QE X Φ (.Call (.Name "tuple" p) [.Call (.Name "range" p2) [a] [] pos2] [] pos) (wTupRg wa) := by
  refine ⟨fun ρ Q Q' h q => ha.mono ρ _ _ (fun x ρ1 q1 => ?_) q, PEw (pe_tupRg hc hg hm (prg_1 hg2 hm2 ha.run nb) na) fun σ H Q ⟨M, ρ, A, q⟩ => ?_⟩
  · cases x <;> first | exact q1.elim | exact ⟨q1.1, h _ _ q1.2⟩
  · refine ⟨M, ρ, A, ha.mono ρ _ _ (fun x ρ1 q1 => ?_) q⟩
    intro M1 v H1 A1 S1 r1
    cases x with
    | int j =>
      cases r1
      obtain ⟨hj, q2⟩ := q1
      refine ⟨j, rfl, RgOk.of_le (Int.le_refl _) (by omega) (by decide) hj.1, fun p hp => ?_⟩
      have s := same_upd (o := .tup (rgV 0 j)) hp
      exact q2 M1 _ _ (A1.same s) (S1.trans (step_same s)) (.tup upd_same (rpAll_rg))
    | _ => exact q1.elim
theorem qf_lstRg {p p2 pos2 : Pos} (hc : X.calm = true) (hg : Gl X "list") (hm : X.mg "list" = none) (hg2 : Gl X "range") (hm2 : X.mg "range" = none) (ha : QE X Φ a wa)
    (na : starEach [.Call (.Name "range" p2) [a] [] pos2] X.env = (false, eval (.Call (.Name "range" p2) [a] [] pos2) X.env) :: starEach [] X.env := by rfl) (nb : starEach [a] X.env = (false, eval a X.env) :: starEach [] X.env := by rfl) :
    QF X Φ (.Call (.Name "list" p) [.Call (.Name "range" p2) [a] [] pos2] [] pos) (wLstRg wa) := by
  refine ⟨fun ρ Q Q' h q => ha.mono ρ _ _ (fun x ρ1 q1 => ?_) q, PEw (pe_listRg hc hg hm (prg_1 hg2 hm2 ha.run nb) na) fun σ H Q ⟨M, ρ, A, q⟩ => ?_⟩
  · cases x <;> first | exact q1.elim | exact ⟨q1.1, h _ _ q1.2⟩
  · refine ⟨M, ρ, A, ha.mono ρ _ _ (fun x ρ1 q1 => ?_) q⟩
    intro M1 v H1 A1 S1 r1
    cases x with
    | int j =>
      cases r1
      obtain ⟨hj, q2⟩ := q1
      refine ⟨j, rfl, RgOk.of_le (Int.le_refl _) (by omega) (by decide) hj.1, fun p hp => ?_⟩
      obtain ⟨A2, S2, N2⟩ := A1.add hp rpAll_rg
      exact q2 _ p _ _ A2 (S1.trans S2) N2
    | _ => exact q1.elim
end
end AL
set_option Elab.async false
set_option linter.all false
set_option maxRecDepth 100000
namespace HT
open PySem PySem.Spec PyProof.Rows L2
theorem fm_congr {α β : Type} {f g : α → Option β} : ∀ {l : List α}, (∀ x ∈ l, f x = g x) → l.filterMap f = l.filterMap g
  | [], _ => rfl
  | a :: l, h => by
    rw [List.filterMap_cons, List.filterMap_cons, h a List.mem_cons_self, fm_congr fun x hx => h x (List.mem_cons_of_mem _ hx)]
section
variable {prog : Program} {w : World} {A : Around} {E : Value → Shared → Prop} {s : Shared}
theorem adjust_rev (n : Nat) : Builtin.Slice.sliceAdjust none none (-1) (n : Int) = ((n : Int) - 1, -1) := rfl
theorem places_rev (n : Nat) : Builtin.Slice.slicePlaces ((n : Int) - 1) (-1) (-1) = n := by
  unfold Builtin.Slice.slicePlaces
  rw [if_neg (by decide), show (-(-1) : Int) = 1 by decide, Int.ediv_one]
  split <;> omega
theorem pick_rev (xs : Array Value) : ((List.range xs.size).filterMap fun (m : Nat) => xs[((xs.size : Int) - 1 + (m : Int) * (-1)).toNat]?).toArray = xs.toList.reverse.toArray := by
  congr 1
  have e : ((List.range xs.size).filterMap fun (m : Nat) => xs[((xs.size : Int) - 1 + (m : Int) * (-1)).toNat]?) = (List.range xs.size).filterMap fun m => xs[xs.size - 1 - m]? := by
    refine fm_congr fun m hm => ?_
    have := List.mem_range.mp hm
    rw [show ((xs.size : Int) - 1 + (m : Int) * (-1)).toNat = xs.size - 1 - m by omega]
  rw [e]
  have e2 : (List.range xs.size).filterMap (fun m => xs[xs.size - 1 - m]?) = ((List.range xs.size).map fun k => xs.size - 1 - k).filterMap (xs[·]?) := by rw [List.filterMap_map]; rfl
  rw [e2, PySem.W.krv_range, List.filterMap_reverse, PySem.W.krv_all]
theorem getItem_tuple_rev {t sl : Addr} {items : Array Value} {vl vu vs : Value} {Q : Value → Shared → Prop} (ht : IsTup s.heap t items) (hs : s.heap.IsSliceOf sl vl vu vs) (pl : IsPart vl none) (pu : IsPart vu none) (ps : IsPart vs (some (-1)))
    (h : Q (.ref s.heap.objs.size) { s with heap := s.heap.push { cls := .type "tuple", data := .seq items.toList.reverse.toArray } })
    (hsz : items.size ≤ sizeLine) : wpAny (model prog w) A (getItem (.ref t) (.ref sl)) Q E s := by
  have htake : sizeOk (.seq items.toList.reverse.toArray) := by
    show items.toList.reverse.toArray.size ≤ sizeLine
    rw [List.size_toArray, List.length_reverse, Array.length_toList]
    exact hsz
  obtain ⟨os, hos, hcs, hds⟩ := id hs
  have hTs : s.TypeIs (.ref sl) "slice" := ⟨os, hos, hcs⟩
  unfold getItem
  try with_reducible refine wpAny_holding ?_
  first | refine wpAny_bind (wpAny_pure ?_) | skip
  refine wpAny_bind (wpAny_sequenceKey ht.typeIs (by decide) ?_)
  refine wpAny_bind (wpAny_callSpecial?_slot (name := Str.ofString "__getitem__") ht.typeIs PyProof.Rows.slot_tuple_getitem
    (wpAny_call_entry PyProof.Rows.slot_tuple_getitem ht.typeIs entry_tuple_getitem ?_ (args_tuple_getitem _ _)))
  show wpAny _ _ (Builtin.Tuple.tupleItemsOf (.ref t) >>= _) _ _ s
  refine wpAny_bind (tupleItemsOf_ ht ?_)
  refine wpAny_bind (wpAny_typeOf hTs ?_)
  rw [if_pos (by decide)]
  refine wpAny_bind ?_
  · unfold Builtin.Slice.sliceApplied Builtin.Slice.sliceFields
    refine wpAny_bind (wpAny_bind (wpAny_field hos hds (x := vl) rfl (wpAny_bind (wpAny_field hos hds (x := vu) rfl (wpAny_bind (wpAny_field hos hds (x := vs) rfl (wpAny_pure ?_)))))))
    refine wpAny_bind (slicePart_ ps ?_)
    show wpAny _ _ (if ((-1 : Int) == 0) = true then _ else _) _ _ s
    rw [if_neg (by decide)]
    refine wpAny_bind (slicePart_ pl (wpAny_bind (slicePart_ pu (wpAny_bind (wpAny_pure ?_)))))
    show wpAny _ _ (match Builtin.Slice.sliceAdjust none none (-1) (items.size : Int) with | (lo, hi) => pure (lo, (-1 : Int), Builtin.Slice.slicePlaces lo hi (-1))) _ _ s
    rw [adjust_rev items.size]
    show wpAny _ _ (pure ((items.size : Int) - 1, (-1 : Int), Builtin.Slice.slicePlaces ((items.size : Int) - 1) (-1) (-1))) _ _ s
    rw [places_rev]
    refine wpAny_pure ?_
    have hno : ¬ (((((items.size : Int) - 1) == 0 && (-1 : Int) == 1) && items.size == items.size) = true) := by
      rw [show ((-1 : Int) == 1) = false from rfl, Bool.and_false, Bool.false_and]
      exact Bool.false_ne_true
    show wpAny _ _ (if ((((items.size : Int) - 1) == 0 && (-1 : Int) == 1) && items.size == items.size) = true then _ else _) _ _ s
    rw [if_neg hno, pick_rev]
    first
      | exact wpAny_bind (m := Builtin.Tuple.tupleExact _) (wpAny_newObj_type (wpAny_pure ⟨_, rfl, wpAny_pure h⟩) htake)
      | exact wpAny_bind (m := Builtin.Tuple.tupleExact _) (wpAny_newObj_type (wpAny_bind (wpAny_pure (wpAny_pure ⟨_, rfl, wpAny_pure h⟩))) htake)
      | exact wpAny_bind (wpAny_bind (m := Builtin.Tuple.tupleExact _) (wpAny_newObj_type (wpAny_pure (wpAny_pure ⟨_, rfl, wpAny_pure h⟩)) htake))
      | exact wpAny_bind (wpAny_bind (m := Builtin.Tuple.tupleExact _) (wpAny_newObj_type (wpAny_pure ⟨_, rfl, wpAny_pure h⟩) htake))
end
end HT
namespace L2
open PySem PySem.Spec PyProof.Rows
def tRevT (K : PySem.W.Frag) (te : TE) : TE := fun σ H Q => te σ H fun x H1 => ∃ a xs, x = .ref a ∧ SqT K H1 a xs ∧ ∀ p, H1 p = none → Q (.ref p) (upd H1 p (.tup xs.reverse))
theorem pe_revT {X : Cx} {e : Expr} {te : TE} {k : Nat} {p1 p2 p3 pos : Pos} (he : PE X e te) : PE X (.Subscript e (.Slice none none (some (.UnaryOp .USub (.Constant (.int 1) k p1) p2)) p3) pos) (tRevT X.K te) := by
  refine ⟨fun pins s σ H Q I h => ?_⟩
  refine Subscript_ (thn (he.run pins s σ H _ I h) fun v s1 ⟨x, H1, I1, r1, q1⟩ => ?_)
  obtain ⟨a, xs, ex, hx, q⟩ := q1
  subst ex
  cases r1
  have hst : PO X (some (.UnaryOp .USub (.Constant (.int 1) k p1) p2)) (tPart (tUn (rU fun i => .int (-i)) (tC (.int 1)))) := po_some (pe_un un_neg pe_int)
  refine wpAny_Slice (thn (po_none.run pins s1 σ H1 (fun o H2 => o = none ∧ H2 = H1) I1 ⟨rfl, rfl⟩) fun vl s2 ⟨l, H2, I2, pl, el, e2⟩ => ?_)
  subst el e2
  refine thn (po_none.run pins s2 σ H2 (fun o H3 => o = none ∧ H3 = H2) I2 ⟨rfl, rfl⟩) fun vu s3 ⟨u, H3, I3, pu, eu, e3⟩ => ?_
  subst eu e3
  refine thn (hst.run pins s3 σ H3 (fun o H4 => o = some (-1) ∧ H4 = H3) I3 ⟨1, rfl, -1, rfl, rfl, rfl⟩) fun vs s4 ⟨o, H4, I4, ps, eo, e4⟩ => ?_
  subst eo e4
  have I5 : Inv X pins σ H4 { s4 with heap := s4.heap.push { cls := .type "slice", data := .fields #[vl, vu, vs] } } := I4.kept (t' := s4.toks) fun b ob q => Heap.get?_push_of_some _ q
  obtain ⟨its, r, ht, hz⟩ := I5.tuple hx
  have hlen := r.length
  show wpAny (model X.prog X.w) X.A (subscriptTail e (.Slice none none (some (.UnaryOp .USub (.Constant (.int 1) k p1) p2)) p3) (.ref a) (.ref s4.heap.objs.size)) (EP X pins σ Q) X.xe { s4 with heap := s4.heap.push { cls := .type "slice", data := .fields #[vl, vu, vs] } }
  refine tail_any (ops := [.ref a, .ref s4.heap.objs.size]) ht.typeIs (PyProof.Rows.slot_tuple_getitem.lookup) ?_ (by with_unfolding_all rfl)
  refine HT.getItem_tuple_rev ht (Heap.IsSliceOf.new _ vl vu vs) pl pu ps ?_ (by rw [List.size_toArray]; omega)
  refine ⟨.ref _, _, I5.laid (t' := s4.toks) (o := .tup xs.reverse) (fun b ob q => Heap.get?_push_of_some _ q) (Nat.le_refl _) ?_, rfl, q _ (I5.hok.fresh (Nat.le_refl _))⟩
  exact ⟨by rw [List.length_reverse]; exact hz, _, r.reverse, IsTup.new _ _⟩
end L2
namespace AL
open PySem PySem.Spec PyProof.Rows L2
section
variable {X : Cx} {Φ : Cl} [ok : ClOk Φ] {pos : Pos} {e a b c : Expr} {wa wb wc : WE} {M : Addr → Prop} {σ : L2.St} {H : Hp} {ρ : Ev}
def revD (n : Nat) : List D := (List.range n).map fun i => .int ((n : Int) - 1 - (i : Nat))
theorem gives_rev {M : Addr → Prop} {H : Hp} {n : Nat} : Gives Φ.K M H (Itc ((n : Int) - 1) (-1) n) (revD n) := by
  refine ⟨fun _ => True, YFn fun i => .int ((n : Int) - 1 + (i : Nat) * (-1)), ?_, fun M' H' S => trivial, fun i M' H' H2 v S y => ?_⟩
  · have e : (revD n).length = n := by unfold revD; rw [List.length_map, List.length_range]
    rw [e]; exact walk_rangeC
  · obtain ⟨e, y⟩ := y
    subst e; subst y
    refine ⟨Same.refl _, fun x hx => ?_⟩
    unfold revD at hx
    rw [List.getElem?_map] at hx
    cases h : (List.range n)[i]? with
    | none => rw [h] at hx; cases hx
    | some j =>
      rw [h] at hx
      have e1 := List.getElem?_eq_some_iff.mp h
      obtain ⟨h1, h2⟩ := e1
      rw [List.getElem_range] at h2
      subst h2
      cases hx
      show Rp Φ.K M' H2 (V.int ((n : Int) - 1 + ((i : Nat) : Int) * (-1))) (D.int ((n : Int) - 1 - (i : Nat)))
      rw [show ((n : Int) - 1 + ((i : Nat) : Int) * (-1)) = (n : Int) - 1 - (i : Nat) by omega]
      exact .int _
/-- reversed(range(n)) -/
def wRevRg (wa : WE) : WI := fun ρ Q => wa ρ fun x ρ' => match x with
  | .int j => (0 ≤ j ∧ j ≤ 1000) ∧ Q (revD j.toNat) ρ'
  | _ => False
theorem qi_revRg {tg : Expr} {p p2 pos2 : Pos} (hg : Gl X "reversed") (hm : X.mg "reversed" = none) (hg2 : Gl X "range") (hm2 : X.mg "range" = none) (ha : QE X Φ a wa)
    (na : starEach [.Call (.Name "range" p2) [a] [] pos2] X.env = (false, eval (.Call (.Name "range" p2) [a] [] pos2) X.env) :: starEach [] X.env := by rfl) (nb : starEach [a] X.env = (false, eval a X.env) :: starEach [] X.env := by rfl) :
    QI X Φ tg (.Call (.Name "reversed" p) [.Call (.Name "range" p2) [a] [] pos2] [] pos) (wRevRg wa) := by
  refine ⟨fun ρ Q Q' h q => ha.mono ρ _ _ (fun x ρ' q' => ?_) q, PIw (pi_revR hg hm (prg_1 hg2 hm2 ha.run nb) na) fun σ H R ⟨M, ρ, A, q⟩ => ?_⟩
  · cases x <;> first | exact q'.elim | exact ⟨q'.1, h _ _ q'.2⟩
  · refine ⟨M, ρ, A, ha.mono ρ _ _ (fun x ρ' q' => ?_) q⟩
    intro M' v H' A' S' r'
    cases x with
    | int j =>
      cases r'
      obtain ⟨hj, q2⟩ := q'
      have g := q2 M' H' (Itc (((j.toNat : Nat) : Int) - 1) (-1) j.toNat) A' S' gives_rev
      have e1 : (j - 0).toNat = j.toNat := by rw [Int.sub_zero]
      refine ⟨j, rfl, by decide, by decide, by omega, by omega, ?_⟩
      rw [e1, show (0 : Int) + ((j.toNat : Nat) : Int) - 1 = ((j.toNat : Nat) : Int) - 1 by omega]
      exact g
    | _ => exact q'.elim
/-- t[::-1] -/
def wRevT (wa : WE) : WE := fun ρ Q => wa ρ fun x ρ' => match x with
  | .tup xs => Q (.tup xs.reverse) ρ'
  | _ => False
theorem qe_revT {k : Nat} {p1 p2 p3 : Pos} (ha : QE X Φ a wa) : QE X Φ (.Subscript a (.Slice none none (some (.UnaryOp .USub (.Constant (.int 1) k p1) p2)) p3) pos) (wRevT wa) := by
  refine ⟨fun ρ Q Q' h q => ha.mono ρ _ _ (fun x ρ1 q1 => ?_) q, PEw (pe_revT ha.run) fun σ H Q ⟨M, ρ, A, q⟩ => ?_⟩
  · cases x <;> first | exact q1.elim | exact h _ _ q1
  · refine ⟨M, ρ, A, ha.mono ρ _ _ (fun x ρ1 q1 => ?_) q⟩
    intro M1 v H1 A1 S1 r1
    cases x with
    | tup xs =>
      obtain ⟨a, vs, rfl, hh, r⟩ := RpB.tup (.inl r1)
      refine ⟨a, vs, rfl, ?_, fun p hp => ?_⟩
      · exact SqT.of hh
      · have s := same_upd (o := .tup vs.reverse) hp
        exact q1 M1 _ _ (A1.same s) (S1.trans (step_same s)) (.tup upd_same (r.step (step_same s)).reverse)
    | _ => exact q1.elim
/-- x += e, of numbers -/
def wAugI (g : Int → Int → Int) (i : Nat) (wa : WE) : WS := fun R ρ => valE ρ[i]? fun x => match x with
  | .int a => wa ρ fun y ρ2 => match y with
    | .int b => R.nx (ρ2.set i (.d (.int (g a b))))
    | _ => False
  | _ => False
theorem qs_augI {i : Nat} {x : Str} {op : Operator} {g : Int → Int → Int} {pos' : Pos} (hN : X.N.Nodup) (hi : X.N[i]? = some x) (hx : Loc X.env.scope x) (ho : PIp X op (ipI g)) (he : QE X Φ e wa) (hf : X.fn x = true ∨ X.env.scope.names.lookup x = some .local := by first | exact .inl rfl | exact .inr rfl | assumption) :
    QS X Φ (.AugAssign (.Name x pos') op e pos) (wAugI g i wa) := by
  refine ⟨fun ρ R R' h q => valE_mono (fun x q => ?_) q, PSw (ps_aug hN hi hx he.run ho hf) fun D σ H ⟨M, ρ, A, q⟩ => ?_⟩
  · cases x with
    | int a =>
      refine he.mono ρ _ _ (fun y ρ2 q2 => ?_) q
      cases y <;> first | exact q2.elim | exact h.nx _ q2
    | _ => exact q.elim
  · obtain ⟨v, x, ev, rb, q⟩ := valE_rp A q
    cases x with
    | int a =>
      have e1 := rb.int
      subst e1
      refine ⟨.int a, ev, M, ρ, A, he.mono ρ _ _ (fun y ρ' q' => ?_) q⟩
      intro M' v' H' A' S' r'
      cases y with
      | int b =>
        cases r'
        exact ⟨a, b, rfl, rfl, q' M' _ H' (A'.store (.int _)) S'⟩
      | _ => exact q'.elim
    | _ => exact q.elim
end
end AL
set_option Elab.async false
set_option linter.all false
set_option maxRecDepth 100000
namespace AL
open PySem PySem.Spec PyProof.Rows L2
section
variable {X : Cx} {Φ : Cl} [ok : ClOk Φ] {pos : Pos} {e a b c : Expr} {wa wb wc : WE} {M : Addr → Prop} {σ : L2.St} {H : Hp} {ρ : Ev}
/-- xs[::-1] -/
def wRevL (wa : WE) : WA := fun ρ Q => wa ρ fun x ρ' => match x with
  | .lst xs => Q xs.reverse ρ'
  | _ => False
theorem qf_revL {k : Nat} {p1 p2 p3 : Pos} (ha : QE X Φ a wa) : QF X Φ (.Subscript a (.Slice none none (some (.UnaryOp .USub (.Constant (.int 1) k p1) p2)) p3) pos) (wRevL wa) := by
  refine ⟨fun ρ Q Q' h q => ha.mono ρ _ _ (fun x ρ1 q1 => ?_) q, PEw (pe_revL ha.run) fun σ H Q ⟨M, ρ, A, q⟩ => ?_⟩
  · cases x <;> first | exact q1.elim | exact h _ _ q1
  · refine ⟨M, ρ, A, ha.mono ρ _ _ (fun x ρ1 q1 => ?_) q⟩
    intro M1 v H1 A1 S1 r1
    cases x with
    | lst xs =>
      obtain ⟨a, vs, rfl, hh, r⟩ := RpB.lst (.inl r1)
      refine ⟨a, vs, rfl, SqL.of hh, fun p hp => ?_⟩
      obtain ⟨A2, S2, N2⟩ := A1.add hp r.reverse
      exact q1 _ p _ _ A2 (S1.trans S2) N2
    | _ => exact q1.elim
end
end AL
set_option Elab.async false
set_option linter.all false
set_option maxRecDepth 100000
set_option maxHeartbeats 4000000
/-! combinations(range(n), r) -/
namespace CMB
open PySem PySem.Spec PyProof.Rows L2
theorem slot_next : Slot "itertools.combinations" "__next__" "itertools.combinations.__next__" :=
  .of (owner := "itertools.combinations") (n := "__next__") (by rw [typeLookup_type, builtinLookup_eq_fast]; kernel_rfl) (by decide +kernel) (by decide +kernel) (by decide +kernel)
    (by first | exact .inl (by decide +kernel) | exact .inr (by decide +kernel)) (by rw [isSubtype_type]; kernel_rfl)
theorem slot_iter : Slot "itertools.combinations" "__iter__" "itertools.combinations.__iter__" :=
  .of (owner := "itertools.combinations") (n := "__iter__") (by rw [typeLookup_type, builtinLookup_eq_fast]; kernel_rfl) (by decide +kernel) (by decide +kernel) (by decide +kernel)
    (by first | exact .inl (by decide +kernel) | exact .inr (by decide +kernel)) (by rw [isSubtype_type]; kernel_rfl)
theorem slot_init : Slot "itertools.combinations" "__init__" "object.__init__" :=
  .of (owner := "object") (n := "__init__") (by rw [typeLookup_type, builtinLookup_eq_fast]; kernel_rfl) (by decide +kernel) (by decide +kernel) (by decide +kernel)
    (by first | exact .inl (by decide +kernel) | exact .inr (by decide +kernel)) (by rw [isSubtype_type]; kernel_rfl)
theorem owner_ : Manifest.owners.lookup (String.ofList ['s', 'n', 'o', 'i', 't', 'a', 'n', 'i', 'b', 'm', 'o', 'c', '.', 's', 'l', 'o', 'o', 't', 'r', 'e', 't', 'i'].reverse) = (Manifest.owners.lookup "itertools.combinations") := by kernel_rfl
theorem entry_next : entryFor table "itertools.combinations.__next__" = some Builtin.«itertools.combinations.__next__» := entryFor_of_tree (by kernel_rfl)
theorem entry_new : entryFor table "itertools.combinations.__new__" = some Builtin.«itertools.combinations.__new__» := entryFor_of_tree (by kernel_rfl)
theorem args_next (a : Value) : argsOk "itertools.combinations.__next__" ⟨[a], []⟩ := by
  unfold argsOk; kernel_rfl
theorem args_iter (a : Value) : argsOk "itertools.combinations.__iter__" ⟨[a], []⟩ := by
  unfold argsOk; kernel_rfl
theorem entry_iter : entryFor table "itertools.combinations.__iter__" = some Builtin.«dict_keyiterator.__iter__» :=
  entryFor_alias (id' := "dict_keyiterator.__iter__") (by kernel_rfl) (by first | rfl | decide +kernel | (unfold String.splitOn; simp +decide [String.splitOnAux])) (by decide +kernel) (by kernel_rfl)
theorem mro_ : mroOf (.type "itertools.combinations") = pure [.type "itertools.combinations", .type "object"] := by rw [mroOf_type]; kernel_rfl
theorem lookup_new : typeLookup (.type "itertools.combinations") "__new__" = pure (some (.builtin "itertools.combinations.__new__")) := by rw [typeLookup_type, builtinLookup_eq_fast]; kernel_rfl
theorem made_ : Bind.madeBy (.type "itertools.combinations") = pure (some "itertools.combinations.__new__") := madeBy_type mro_ lookup_new (by decide +kernel)
theorem typeCall_2 (a b : Value) : checkTypeCall "itertools.combinations" ⟨[a, b], []⟩ = pure () := by kernel_rfl
theorem newCall_2 (a b : Value) : checkBuiltinCall "itertools.combinations.__new__" ⟨[.type "itertools.combinations", a, b], []⟩ = pure () := by kernel_rfl
theorem plain_new : plainId "itertools.combinations.__new__" = true := by decide +kernel
theorem create_ : ((Manifest.find? "itertools.combinations").bind (·.mro.findSome? fun t => (Manifest.find? t).bind fun b => if b.noNew then some true else if b.attrs.any (·.1 == "__new__") then some false else none)).getD false = false := by decide +kernel
theorem sub_self : isSubtype (.type "itertools.combinations") (.type "itertools.combinations") = pure true := by rw [isSubtype_type]; kernel_rfl
theorem called_ : TypeCalled "itertools.combinations" "itertools.combinations.__new__" "object.__init__" := ⟨by decide +kernel, create_, ⟨_, _, mro_⟩, made_, plain_new, sub_self, slot_init⟩
end CMB
set_option Elab.async false
set_option linter.all false
set_option maxRecDepth 100000
set_option maxHeartbeats 4000000
namespace CMB
open PySem PySem.Spec PyProof.Rows L2
def cmbObj (t : Addr) (ph : Int) (last : Value) (ix : List Nat) : Obj := { cls := .type "itertools.combinations", data := .fields ([.ref t, rawInt ph, last] ++ ix.map fun (i : Nat) => rawInt i).toArray }
theorem new_meets {r : Addr} {n k : Nat} {t u v tk : Tok} (hn : n ≤ 1000) (hk : k ≤ 1000) (hsm : Builtin.Range.small 0 n 1 = true) (hrs : Builtin.Range.rangeSize 0 n 1 = n) :
    Meets (Builtin.«itertools.combinations.__new__» ⟨[.type "itertools.combinations", .ref r, .int (k : Int) tk], []⟩) (fun A R s => A.handled = none ∧ IsRange s.heap r 0 n 1 t u v ∧
      ∀ (h' : Heap) (tk' : Nat) (acc : Array Value), (∀ b o, s.heap.get? b = some o → h'.get? b = some o) → ItemsOf (fun i v => ∃ t, v = .int (0 + i * 1) t) acc n →
        R (.ok (.ret (.ref (h'.objs.size + 1)))) { s with heap := (h'.push { cls := .type "tuple", data := .seq acc.toList.toArray }).push (cmbObj h'.objs.size (if k > n then 2 else 0) .none (List.range k)), toks := tk' }) := by
  refine .of_wp fun prog w A R s hyp => ?_
  obtain ⟨hh, hr, hyp⟩ := hyp
  unfold Builtin.«itertools.combinations.__new__»
  refine wpAny_bind ?_
  wp_delta
  have hsub := sub_self
  wp_walk
  refine wpAny_of_eq (a := true) sub_self ?_
  dsimp only [Bool.not_true, Bool.false_eq_true, if_false]
  refine wpAny_pure ?_
  dsimp only
  refine wpAny_bind (wpAny_of_eq (a := [some (Value.ref r), some (Value.int (k : Int) tk)]) (by first | rfl | kernel_rfl) ?_)
  dsimp only
  wp_walk
  rw [if_neg (by rw [decide_eq_false (show ¬ (k : Int) < -2 ^ 63 by omega), decide_eq_false (show ¬ (k : Int) ≥ 2 ^ 63 by omega)]; exact Bool.false_ne_true)]
  refine wpAny_pure ?_
  refine wpAny_bind (collect_range hh hr hsm hrs (Nat.le_trans hn (by decide)) fun h' tk' acc kp it => ?_)
  have htm : ¬ (Builtin.Itertools.itTooMany (k : Int) = true) := by
    unfold Builtin.Itertools.itTooMany
    rw [decide_eq_false (show ¬ (k : Int) > 2 ^ 20 by omega)]
    exact Bool.false_ne_true
  rw [if_neg (show ¬ (k : Int) < 0 by omega), if_neg htm]
  have hl : acc.toList.length = n := by rw [Array.length_toList]; exact it.1
  have fin := hyp h' tk' acc kp it
  refine wpAny_bind ?_
  unfold newTuple
  refine wpAny_newObj_type ?_ (by show acc.toList.toArray.size ≤ sizeLine; rw [List.size_toArray, hl, sizeLine_eq]; omega)
  refine wpAny_pure ?_
  dsimp only
  refine wpAny_bind ?_
  rw [hl, Int.toNat_natCast]
  unfold Builtin.Itertools.itNewRecord
  have htd : (!typeHasDict (Value.type "itertools.combinations")) = true := by kernel_rfl
  rw [if_pos htd]
  refine wpAny_newObj_type ?_ (by
    show ([Value.ref h'.objs.size, rawInt (if k > n then 2 else 0), Value.none] ++ List.map (fun (i : Nat) => rawInt i) (List.range k)).toArray.size ≤ sizeLine + 2
    rw [List.size_toArray, List.length_append, List.length_map, List.length_range, sizeLine_eq]
    show 3 + k ≤ _
    omega)
  unfold cmbObj at fin
  exact wpAny_pure ⟨_, rfl, by
    rw [show (h'.push { cls := Value.type "tuple", data := Data.seq acc.toList.toArray }).objs.size = h'.objs.size + 1 from Heap.size_push ..]
    exact fin⟩
theorem call_new {prog : Program} {w : World} {A : Around} {E : Value → Shared → Prop} {s : Shared} {Q : Value → Shared → Prop} {r : Addr} {n k : Nat} {t u v tk : Tok} (hn : n ≤ 1000) (hk : k ≤ 1000) (hsm : Builtin.Range.small 0 n 1 = true) (hrs : Builtin.Range.rangeSize 0 n 1 = n)
    (hh : A.in1.handled = none) (hr : IsRange s.heap r 0 n 1 t u v)
    (go : ∀ (h' : Heap) (tk' : Nat) (acc : Array Value), (∀ b o, s.heap.get? b = some o → h'.get? b = some o) → ItemsOf (fun i v => ∃ t, v = .int (0 + i * 1) t) acc n →
      Q (.ref (h'.objs.size + 1)) { s with heap := (h'.push { cls := .type "tuple", data := .seq acc.toList.toArray }).push (cmbObj h'.objs.size (if k > n then 2 else 0) .none (List.range k)), toks := tk' }) :
    wpAny (model prog w) A (call (.type "itertools.combinations") [.ref r, .int (k : Int) tk]) Q E s := by
  refine callType_new called_ (by decide) (typeCall_2 _ _) (newCall_2 _ _) (fun obj => by unfold argsOk; kernel_rfl) entry_new (new_meets hn hk hsm hrs) ⟨hh, hr, fun h' tk' acc kp it => ?_⟩
  have hz : (h'.push { cls := .type "tuple", data := .seq acc.toList.toArray }).objs.size = h'.objs.size + 1 := Heap.size_push ..
  refine ⟨⟨cmbObj h'.objs.size (if k > n then 2 else 0) .none (List.range k), ?_, rfl⟩, go h' tk' acc kp it⟩
  rw [← hz]
  exact Heap.get?_push_size _ rfl
end CMB
set_option Elab.async false
set_option linter.all false
set_option maxRecDepth 100000
set_option maxHeartbeats 4000000
namespace CMB
open PySem PySem.Spec PyProof.Rows L2
/-- the numbers that come next -/
def nextC (m : Nat) (js : List Nat) : Option (List Nat) :=
  match List.find? (fun q => bne (js.getD q 0) (q + m - js.length)) (List.range js.length).reverse with
  | none => none
  | some q => some (List.take q js ++ List.map (fun z => js.getD q 0 + 1 + z) (List.range (js.length - q)))
def cmbData (t : Addr) (ph : Int) (last : Value) (ix : List Nat) : Data := .fields ([.ref t, rawInt ph, last] ++ ix.map fun (i : Nat) => rawInt i).toArray
/-- combinations of t's items, how it stands -/
def IsCmb (h : Heap) (a t : Addr) (ph : Int) (last : Value) (ix : List Nat) : Prop := ∃ o, h.get? a = some o ∧ o.cls = .type "itertools.combinations" ∧ o.data = cmbData t ph last ix
section
variable {prog : Program} {w : World} {A : Around} {E : Value → Shared → Prop} {s : Shared}
theorem IsCmb.typeIs {a t : Addr} {ph : Int} {last : Value} {ix : List Nat} (x : IsCmb s.heap a t ph last ix) : s.TypeIs (.ref a) "itertools.combinations" := let ⟨o, ho, hc, _⟩ := x; ⟨o, ho, hc⟩
theorem ints_back (ix : List Nat) : (ix.map fun (i : Nat) => rawInt i).map (fun | .int n _ => n.toNat | _ => 0) = ix := by
  rw [List.map_map]
  conv => rhs; rw [← List.map_id ix]
  refine List.map_congr_left fun i _ => ?_
  show ((i : Nat) : Int).toNat = i
  exact Int.toNat_natCast i
theorem numbers_ {a : Addr} {o : Obj} {x y z : Value} {ix : List Nat} {Q : List Nat → Shared → Prop} (ho : s.heap.get? a = some o) (hd : o.data = .fields ([x, y, z] ++ ix.map fun (i : Nat) => rawInt i).toArray) (h : Q ix s) :
    wpAny (model prog w) A (Builtin.Itertools.itNumbersFrom (.ref a) 3) Q E s := by
  unfold Builtin.Itertools.itNumbersFrom
  dsimp only
  refine wpAny_bind (wpAny_load ho ?_)
  rw [hd]
  refine wpAny_pure ?_
  have e : (([x, y, z] ++ ix.map fun (i : Nat) => rawInt i).toArray.toList.drop 3) = ix.map fun (i : Nat) => rawInt i := rfl
  rw [e]
  rw [← ints_back ix] at h
  exact h
theorem pool_ {t : Addr} {items : Array Value} {Q : Array Value → Shared → Prop} (ht : IsTup s.heap t items) (h : Q items s) : wpAny (model prog w) A (Builtin.Itertools.itPoolItems (.ref t)) Q E s := by
  obtain ⟨o, ho, hc, n, hd⟩ := ht
  unfold Builtin.Itertools.itPoolItems
  refine wpAny_bind (wpAny_seqItems ho hd ?_)
  exact wpAny_pure h
theorem hand_ {it t : Addr} {ph : Int} {last : Value} {ix jx : List Nat} {items : Array Value} {o : Obj} {Qf : Fin → Shared → Prop} (ho : s.heap.get? it = some o) (hc : o.cls = .type "itertools.combinations") (hd : o.data = cmbData t ph last ix) (ht : IsTup s.heap t items) (hsz : jx.length ≤ 1000)
    (h : ∀ h', IsCmb h' it t ph (.ref s.heap.objs.size) ix → IsTup h' s.heap.objs.size (jx.map fun i => items.getD i .none).toArray → (∀ b ob, b ≠ it → s.heap.get? b = some ob → h'.get? b = some ob) → Qf (.done (.ret (.ref s.heap.objs.size))) { s with heap := h' }) :
    wpAny (model prog w) A (Builtin.Itertools.itPoolItems (.ref t) >>= fun items => newTuple (jx.map fun i => items.getD i .none)) (fun a s' => wpAny (model prog w) A (field (.ref it) 2 >>= fun before => setField (.ref it) 2 a >>= fun _ => letGo [before] [a] >>= fun _ => ret a) Qf E s') E s := by
  unfold cmbData at hd
  refine wpAny_bind (pool_ ht ?_)
  unfold newTuple
  refine wpAny_newObj_type ?_ (by show (jx.map fun i => items.getD i .none).toArray.size ≤ sizeLine; rw [List.size_toArray, List.length_map, sizeLine_eq]; omega)
  have hlt : it < s.heap.objs.size := Heap.lt_size ho
  have ho1 := Heap.get?_push_of_some (o := { cls := .type "tuple", data := .seq (jx.map fun i => items.getD i .none).toArray }) ho
  refine wpAny_bind (wpAny_field ho1 hd (x := last) rfl ?_)
  refine wpAny_bind (wpAny_setField ho1 hd (by simp) ?_)
  refine wpAny_bind (wpAny_letGo ?_)
  refine wpAny_pure (h _ ⟨_, Heap.get?_update_self _ ho1 (Obj.isFreed_of_fields (Obj.data_mapFields hd _)), (Obj.cls_mapFields ..).trans hc, ?_⟩ ?_ fun b ob hb e => ?_)
  · rw [Obj.data_mapFields hd]; unfold cmbData; simp
  · exact ⟨_, (Heap.get?_update_other _ _ (Nat.ne_of_gt hlt).symm).trans (Heap.get?_push_size _ rfl), rfl, _, rfl⟩
  · exact (Heap.get?_update_other _ _ (Ne.symm hb)).trans (Heap.get?_push_of_some _ e)
theorem next_first {it t : Addr} {last : Value} {ix : List Nat} {items : Array Value} {Q : Option Value → Shared → Prop} (hit : IsCmb s.heap it t 0 last ix) (ht : IsTup s.heap t items) (hsz : ix.length ≤ 1000)
    (hQ : ∀ h', IsCmb h' it t 1 (.ref s.heap.objs.size) ix → IsTup h' s.heap.objs.size (ix.map fun i => items.getD i .none).toArray → (∀ b o, b ≠ it → s.heap.get? b = some o → h'.get? b = some o) → Q (some (.ref s.heap.objs.size)) { s with heap := h' }) :
    wpAny (model prog w) A (pyNext (.ref it)) Q E s := by
  obtain ⟨o, ho, hc, hd⟩ := id hit
  unfold cmbData at hd
  unfold pyNext
  refine wpAny_bind (wpAny_attempt (wpAny_callSpecial?_slot (name := Str.ofString "__next__") hit.typeIs slot_next (wpAny_call_entry slot_next hit.typeIs entry_next ?_ (args_next _))))
  unfold Builtin.«itertools.combinations.__next__»
  wp_delta
  refine wpAny_bind (wpAny_of_eq (a := (Value.ref it, [])) rfl ?_)
  try dsimp only
  refine wpAny_bind (wpAny_field ho hd (x := .ref t) rfl ?_)
  try dsimp only
  refine wpAny_bind (numbers_ ho hd ?_)
  unfold Builtin.Itertools.itIntField
  refine wpAny_bind (wpAny_bind (wpAny_field ho hd (x := rawInt 0) rfl ?_))
  try dsimp only
  refine wpAny_pure ?_
  try dsimp only
  show wpAny _ _ (setField (Value.ref it) 1 (rawInt 1) >>= _) _ _ s
  refine wpAny_bind (wpAny_setField ho hd (by simp) ?_)
  have hd2 : (Obj.mapFields (·.setIfInBounds 1 (rawInt 1)) o).data = cmbData t 1 last ix := by
    rw [Obj.data_mapFields hd]; unfold cmbData; simp
  have ho2 := Heap.get?_update_self (Obj.mapFields (·.setIfInBounds 1 (rawInt 1))) ho (Obj.isFreed_of_fields (Obj.data_mapFields hd _))
  have hlt : t ≠ it := fun e => by
    obtain ⟨ot, hot, hct, _⟩ := ht
    rw [e, ho] at hot
    cases hot
    rw [hc] at hct
    exact absurd hct (by decide)
  have ht2 : IsTup (s.heap.update it (Obj.mapFields (·.setIfInBounds 1 (rawInt 1)))) t items := by
    obtain ⟨ot, hot, r⟩ := ht
    exact ⟨ot, (Heap.get?_update_other _ _ (Ne.symm hlt)).trans hot, r⟩
  have hsize : (s.heap.update it (Obj.mapFields (·.setIfInBounds 1 (rawInt 1)))).objs.size = s.heap.objs.size := Heap.size_update ..
  refine wpAny_bind ?_
  wp_delta
  refine hand_ (s := { s with heap := s.heap.update it (Obj.mapFields (·.setIfInBounds 1 (rawInt 1))) }) ho2 ((Obj.cls_mapFields ..).trans hc) hd2 ht2 hsz fun h' g1 g2 g3 => ⟨_, rfl, wpAny_pure ?_⟩
  have fin := hQ h' (by rw [← hsize]; exact g1) (by rw [← hsize]; exact g2) fun b ob hb e => g3 b ob hb ((Heap.get?_update_other _ _ (Ne.symm hb)).trans e)
  rw [← hsize] at fin
  exact fin
theorem set_numbers {it : Addr} {x y z : Value} {ix jx : List Nat} {o : Obj} {Q : Unit → Shared → Prop} (hj : jx.length ≤ 1000) (ho : s.heap.get? it = some o) (hd : o.data = .fields ([x, y, z] ++ ix.map fun (i : Nat) => rawInt i).toArray)
    (h : ∀ h' o', h'.get? it = some o' → o'.cls = o.cls → o'.data = .fields ([x, y, z] ++ jx.map fun (i : Nat) => rawInt i).toArray → h'.objs.size = s.heap.objs.size → (∀ b ob, b ≠ it → s.heap.get? b = some ob → h'.get? b = some ob) → Q () { s with heap := h' }) :
    wpAny (model prog w) A (Builtin.Itertools.itSetNumbersFrom (.ref it) 3 jx) Q E s := by
  unfold Builtin.Itertools.itSetNumbersFrom
  dsimp only
  have he : (([x, y, z] ++ ix.map fun (i : Nat) => rawInt i).toArray.extract 0 3 ++ (jx.map fun (n : Nat) => rawInt n).toArray) = ([x, y, z] ++ jx.map fun (i : Nat) => rawInt i).toArray := by simp
  refine wpAny_updateFields ho hd ?_ (by rw [he, List.size_toArray, List.length_append, List.length_map, sizeLine_eq]; show 3 + jx.length ≤ _; omega)
  refine h _ _ (Heap.get?_update_self _ ho (Obj.isFreed_of_fields (Obj.data_mapFields hd _))) (Obj.cls_mapFields ..) ?_ (Heap.size_update ..) fun b ob hb e => (Heap.get?_update_other _ _ (Ne.symm hb)).trans e
  rw [Obj.data_mapFields hd]
  exact congrArg Data.fields he
theorem next_more {it t : Addr} {last : Value} {ix jx : List Nat} {items : Array Value} {Q : Option Value → Shared → Prop} (hit : IsCmb s.heap it t 1 last ix) (ht : IsTup s.heap t items) (hn : nextC items.size ix = some jx) (hsz : jx.length ≤ 1000)
    (hQ : ∀ h', IsCmb h' it t 1 (.ref s.heap.objs.size) jx → IsTup h' s.heap.objs.size (jx.map fun i => items.getD i .none).toArray → (∀ b o, b ≠ it → s.heap.get? b = some o → h'.get? b = some o) → Q (some (.ref s.heap.objs.size)) { s with heap := h' }) :
    wpAny (model prog w) A (pyNext (.ref it)) Q E s := by
  obtain ⟨o, ho, hc, hd⟩ := id hit
  have hd0 := hd
  unfold cmbData at hd
  have hlt : t ≠ it := fun e => by
    obtain ⟨ot, hot, hct, _⟩ := ht
    rw [e, ho] at hot
    cases hot
    rw [hc] at hct
    exact absurd hct (by decide)
  unfold pyNext
  refine wpAny_bind (wpAny_attempt (wpAny_callSpecial?_slot (name := Str.ofString "__next__") hit.typeIs slot_next (wpAny_call_entry slot_next hit.typeIs entry_next ?_ (args_next _))))
  unfold Builtin.«itertools.combinations.__next__»
  wp_delta
  refine wpAny_bind (wpAny_of_eq (a := (Value.ref it, [])) rfl ?_)
  try dsimp only
  refine wpAny_bind (wpAny_field ho hd (x := .ref t) rfl ?_)
  try dsimp only
  refine wpAny_bind (numbers_ ho hd ?_)
  unfold Builtin.Itertools.itIntField
  refine wpAny_bind (wpAny_bind (wpAny_field ho hd (x := rawInt 1) rfl ?_))
  try dsimp only
  refine wpAny_pure ?_
  try dsimp only
  show wpAny _ _ (Builtin.Itertools.itPoolItems (Value.ref t) >>= _) _ _ s
  refine wpAny_bind (pool_ ht ?_)
  show wpAny _ _ (match nextC items.size ix with | some next => _ | none => _) _ _ s
  rw [hn]
  refine wpAny_bind (set_numbers hsz ho hd fun h1 o1 ho1 hc1 hd1 hs1 k1 => ?_)
  have ht2 : IsTup h1 t items := by
    obtain ⟨ot, hot, r⟩ := ht
    exact ⟨ot, k1 t ot hlt hot, r⟩
  refine wpAny_bind ?_
  wp_delta
  refine hand_ (s := { s with heap := h1 }) (ph := 1) (last := last) (ix := jx) ho1 (hc1.trans hc) hd1 ht2 hsz fun h' g1 g2 g3 => ⟨_, rfl, wpAny_pure ?_⟩
  have fin := hQ h' (by rw [← hs1]; exact g1) (by rw [← hs1]; exact g2) fun b ob hb e => g3 b ob hb (k1 b ob hb e)
  rw [← hs1] at fin
  exact fin
theorem stop_ {it : Addr} {Q : Option Value → Shared → Prop} {Qf : Fin → Shared → Prop} (hh : A.in1.handled = none) (hQ : ∀ h', Heap.ExtBut it s.heap h' → Q none { s with heap := h' }) :
    wpAny (model prog w) A.in1 (Builtin.Itertools.itStop) Qf (fun e s' => wpAny (model prog w) A (isInstance e (Value.type "StopIteration") >>= fun b => if b = true then pure none else throw e) Q E s') s := by
  unfold Builtin.Itertools.itStop
  refine wpAny_bind ?_
  simp only [newExc, newTuple]
  refine wpAny_bind (wpAny_newObj_type ?_ (by size_fits))
  refine wpAny_bind (m := firstArgMember _ _) (wpAny_of_eq (a := Value.none) (by first | rfl | (simp only [firstArgMember]; rfl)) ?_)
  refine wpAny_newObj_type ?_ (by size_fits)
  simp only [raiseNew]
  refine wpAny_bind (wpAny_handled ?_)
  rw [hh]
  refine wpAny_bind (wpAny_pure (wpAny_throw ?_))
  refine wpAny_bind (wpAny_isInstance (T := "StopIteration") (b := true) ⟨_, Heap.get?_push_size _ rfl, rfl⟩ isSubtype_stop ?_)
  refine wpAny_pure (hQ _ ?_)
  have e0 : Heap.ExtBut it s.heap s.heap := fun b ob _ e => e
  exact (e0.push _).push _
theorem next_end {it t : Addr} {ph : Int} {last : Value} {ix : List Nat} {items : Array Value} {Q : Option Value → Shared → Prop} (hh : A.in1.handled = none) (hit : IsCmb s.heap it t ph last ix) (ht : IsTup s.heap t items) (hn : (ph = 1 ∧ nextC items.size ix = none) ∨ ph = 2)
    (hQ : ∀ h', Heap.ExtBut it s.heap h' → Q none { s with heap := h' }) : wpAny (model prog w) A (pyNext (.ref it)) Q E s := by
  obtain ⟨o, ho, hc, hd⟩ := id hit
  unfold cmbData at hd
  unfold pyNext
  refine wpAny_bind (wpAny_attempt (wpAny_callSpecial?_slot (name := Str.ofString "__next__") hit.typeIs slot_next (wpAny_call_entry slot_next hit.typeIs entry_next ?_ (args_next _))))
  unfold Builtin.«itertools.combinations.__next__»
  wp_delta
  refine wpAny_bind (wpAny_of_eq (a := (Value.ref it, [])) rfl ?_)
  try dsimp only
  refine wpAny_bind (wpAny_field ho hd (x := .ref t) rfl ?_)
  try dsimp only
  refine wpAny_bind (numbers_ ho hd ?_)
  unfold Builtin.Itertools.itIntField
  rcases hn with ⟨rfl, hn⟩ | rfl
  · refine wpAny_bind (wpAny_bind (wpAny_field ho hd (x := rawInt 1) rfl ?_))
    try dsimp only
    refine wpAny_pure ?_
    try dsimp only
    show wpAny _ _ (Builtin.Itertools.itPoolItems (Value.ref t) >>= _) _ _ s
    refine wpAny_bind (pool_ ht ?_)
    show wpAny _ _ (match nextC items.size ix with | some next => _ | none => _) _ _ s
    rw [hn]
    refine wpAny_bind (wpAny_setField ho hd (by simp) ?_)
    refine stop_ (s := { s with heap := s.heap.update it (Obj.mapFields (·.setIfInBounds 1 (rawInt 2))) }) hh fun h' eb => hQ h' fun b ob hb e => eb b ob hb ((Heap.get?_update_other _ _ (Ne.symm hb)).trans e)
  · refine wpAny_bind (wpAny_bind (wpAny_field ho hd (x := rawInt 2) rfl ?_))
    try dsimp only
    refine wpAny_pure ?_
    try dsimp only
    show wpAny _ _ (rule _ >>= _) _ _ s
    refine wpAny_bind (wpAny_rule ?_)
    exact stop_ hh hQ
end
end CMB
set_option Elab.async false
set_option linter.all false
set_option maxRecDepth 100000
set_option maxHeartbeats 4000000
namespace CMB
open PySem PySem.Spec PyProof.Rows L2
/-- the numbers of the i-th -/
def seqC (n k : Nat) : Nat → Option (List Nat)
  | 0 => if k > n then none else some (List.range k)
  | i + 1 => (seqC n k i).bind (nextC n)
def ItC (n k : Nat) : It where
  go := fun i H => ∃ ix, seqC n k i = some ix ∧ ix.length ≤ 1000 ∧ ∀ x ∈ ix, x < n
  yld := fun i H v H' => ∃ T ix, v = .ref T ∧ H T = none ∧ H' = upd H T (.tup (ix.map fun (x : Nat) => V.int x)) ∧ seqC n k i = some ix
  stop := fun i H => seqC n k i = none
def PoolOk (h : Heap) (t : Addr) (n : Nat) : Prop := ∃ items : Array Value, IsTup h t items ∧ items.size = n ∧ ∀ j, j < n → ∃ tk, items[j]? = some (.int (j : Int) tk)
def CTn (n k : Nat) (it t : Addr) : Nat → Heap → Prop
  | 0, h => PoolOk h t n ∧ t ≠ it ∧ ((∃ ix last, seqC n k 0 = some ix ∧ IsCmb h it t 0 last ix) ∨ (seqC n k 0 = none ∧ ∃ ix last, IsCmb h it t 2 last ix))
  | i + 1, h => PoolOk h t n ∧ t ≠ it ∧ ∃ ix last, seqC n k i = some ix ∧ IsCmb h it t 1 last ix
theorem IsCmb.at {h h' : Heap} {a t : Addr} {ph : Int} {last : Value} {ix : List Nat} (x : IsCmb h a t ph last ix) (e : ∀ o, h.get? a = some o → h'.get? a = some o) : IsCmb h' a t ph last ix := let ⟨o, ho, r⟩ := x; ⟨o, e _ ho, r⟩
theorem PoolOk.at {h h' : Heap} {t : Addr} {n : Nat} (x : PoolOk h t n) (e : ∀ o, h.get? t = some o → h'.get? t = some o) : PoolOk h' t n := let ⟨its, ⟨o, ho, r⟩, q⟩ := x; ⟨its, ⟨o, e _ ho, r⟩, q⟩
theorem CTn.pool {n k : Nat} {it t : Addr} : ∀ {i : Nat} {h : Heap}, CTn n k it t i h → PoolOk h t n ∧ t ≠ it ∧ ∃ ph last ix, IsCmb h it t ph last ix
  | 0, h, ⟨a, b, c⟩ => ⟨a, b, c.elim (fun ⟨ix, last, _, z⟩ => ⟨_, _, _, z⟩) fun ⟨_, ix, last, z⟩ => ⟨_, _, _, z⟩⟩
  | _ + 1, h, ⟨a, b, ix, last, _, z⟩ => ⟨a, b, _, _, _, z⟩
theorem vals_pick {n : Nat} {items : Array Value} (hi : ∀ j, j < n → ∃ tk, items[j]? = some (.int (j : Int) tk)) : ∀ (ix : List Nat), (∀ x ∈ ix, x < n) → Vals (ix.map fun (x : Nat) => V.int x) (ix.map fun i => items.getD i .none)
  | [], _ => .nil
  | x :: r, h => by
    obtain ⟨tk, e⟩ := hi x (h x List.mem_cons_self)
    have e2 : items.getD x .none = .int (x : Int) tk := by
      rw [Array.getD_eq_getD_getElem?, e]; rfl
    rw [List.map_cons, List.map_cons, e2]
    exact .cons ⟨tk, rfl⟩ (vals_pick hi r fun y hy => h y (List.mem_cons_of_mem _ hy))
theorem iter_ {A : Around} {prog : Program} {w : World} {E : Value → Shared → Prop} {s : Shared} {it t : Addr} {ph : Int} {last : Value} {ix : List Nat} {Q : Value → Shared → Prop} (hit : IsCmb s.heap it t ph last ix) (h : Q (.ref it) s) : wpAny (model prog w) A (pyIter (.ref it)) Q E s := by
  refine wpAny_pyIter_slot hit.typeIs slot_iter (wpAny_call_entry slot_iter hit.typeIs entry_iter ?_ (args_iter _))
  show wpAny _ _ (ret (.ref it)) _ _ s
  exact wpAny_pure ⟨_, rfl, "itertools.combinations", _, hit.typeIs, slot_next.lookup, h⟩
theorem turn_comb {P : Program} {w : World} {K : PySem.W.Frag} {tg : Expr} (n k : Nat) (it t : Addr) : Turn P w K tg (ItC n k) [it, t] it (CTn n k it t) where
  mem := by simp
  obj := fun i h st b hb => by
    obtain ⟨⟨items, ⟨ot, hot, hct, nn, hdt⟩, _⟩, hne, ph, last, ix, o, ho, hc, hd⟩ := st.pool
    rcases (show b = it ∨ b = t by simpa using hb) with rfl | rfl
    · exact ⟨o, ho, fun v q => by rw [hd] at q; cases q⟩
    · exact ⟨ot, hot, fun v q => by rw [hdt] at q; cases q⟩
  keep := fun i h h' st kp => by
    have k1 : ∀ o, h.get? it = some o → h'.get? it = some o := fun o => kp it (by simp) o
    have k2 : ∀ o, h.get? t = some o → h'.get? t = some o := fun o => kp t (by simp) o
    cases i with
    | zero =>
      obtain ⟨a, b, c⟩ := st
      exact ⟨a.at k2, b, c.elim (fun ⟨ix, last, e, z⟩ => .inl ⟨ix, last, e, z.at k1⟩) fun ⟨e, ix, last, z⟩ => .inr ⟨e, ix, last, z.at k1⟩⟩
    | succ i =>
      obtain ⟨a, b, ix, last, e, z⟩ := st
      exact ⟨a.at k2, b, ix, last, e, z.at k1⟩
  item := by
    intro X hP hw hK hc i pins s σ H E I hf st hg
    subst hP hw hK
    obtain ⟨ix, hix, hlen, hlt⟩ := hg
    obtain ⟨po, hne, _⟩ := st.pool
    have po' := po
    obtain ⟨items, tp, hsz, hi⟩ := po
    have fin : ∀ h', IsCmb h' it t 1 (.ref s.heap.objs.size) ix → IsTup h' s.heap.objs.size (ix.map fun i => items.getD i .none).toArray → (∀ b o, b ≠ it → s.heap.get? b = some o → h'.get? b = some o) →
        ∃ u, some (Value.ref s.heap.objs.size) = some u ∧ wpAny (model X.prog X.w) X.A (letOwnedTupleGo tg (.ref it) u) (fun _ s2 => ∃ x H', Inv X pins σ H' s2 ∧ RelV x u ∧ (ItC n k).yld i H x H' ∧ CTn n k it t (i + 1) s2.heap ∧ ∀ b ∈ [it, t], H' b = none) E { s with heap := h' } := by
      intro h' g1 g2 g3
      obtain ⟨o', ho', hc', hd'⟩ := id g1
      refine ⟨_, rfl, go_of ho' hc' hd' (by decide) ?_⟩
      have new : ObjOk X.prog X.w (upd H s.heap.objs.size (.tup (ix.map fun (x : Nat) => V.int x))) h' s.heap.objs.size (.tup (ix.map fun (x : Nat) => V.int x)) := by
        refine ⟨by rw [List.length_map, sizeLine_eq]; omega, _, vals_pick hi ix hlt, ?_⟩
        exact g2
      have I1 := I.turnedNew (h' := h') (t' := s.toks) (ch := [it, t]) (fun b ob hb q => g3 b ob (fun z => hb (by simp [z])) q) hf (Nat.le_refl _) new
      have hil : it < s.heap.objs.size := by
        obtain ⟨_, _, _, _, _, o, ho, _⟩ := st.pool
        exact Heap.lt_size ho
      have htl : t < s.heap.objs.size := let ⟨_, ho, _⟩ := tp; Heap.lt_size ho
      refine ⟨.ref s.heap.objs.size, _, I1, rfl, ⟨_, ix, rfl, I.hok.fresh (Nat.le_refl _), rfl, hix⟩, ⟨po'.at fun o q => g3 t o hne q, hne, ix, _, hix, g1⟩, fun b hb => ?_⟩
      have hb' : b < s.heap.objs.size := by
        rcases (show b = it ∨ b = t by simpa using hb) with rfl | rfl
        · exact hil
        · exact htl
      rw [upd_ne (Nat.ne_of_lt hb')]
      exact (hf b hb).1
    cases i with
    | zero =>
      obtain ⟨_, _, c⟩ := st
      rcases c with ⟨jx, last, e, z⟩ | ⟨e, _⟩
      · rw [hix] at e
        cases e
        exact next_first z tp hlen fin
      · rw [hix] at e; cases e
    | succ i =>
      obtain ⟨_, _, jx, last, e, z⟩ := st
      have hn : nextC items.size jx = some ix := by
        have : (seqC n k i).bind (nextC n) = some ix := hix
        rw [e] at this
        rw [hsz]; exact this
      exact next_more z tp hn hlen fin
  done := by
    intro X hP hw hK hc i pins s σ H E I hf st hg
    subst hP hw hK
    obtain ⟨⟨items, tp, hsz, hi⟩, hne, _⟩ := st.pool
    obtain ⟨f0, f1, f2, f3, f4, f5⟩ := hf it (by simp)
    have hh : X.A.in1.handled = none := I.ok.hd hc
    have fin : ∀ h', Heap.ExtBut it s.heap h' → (none : Option Value) = none ∧ Inv X pins σ H { s with heap := h' } := fun h' eb => ⟨rfl, I.turned (t' := s.toks) (fun b o hb q => eb b o hb q) f0 f1 f3 f4 f5⟩
    cases i with
    | zero =>
      obtain ⟨_, _, c⟩ := st
      rcases c with ⟨jx, last, e, z⟩ | ⟨e, jx, last, z⟩
      · have : seqC n k 0 = none := hg
        rw [e] at this; cases this
      · exact next_end hh z tp (.inr rfl) fin
    | succ i =>
      obtain ⟨_, _, jx, last, e, z⟩ := st
      have hn : nextC items.size jx = none := by
        have : (seqC n k i).bind (nextC n) = none := hg
        rw [e] at this
        rw [hsz]; exact this
      exact next_end hh z tp (.inl ⟨rfl, hn⟩) fin
  self := fun A i s Q E st h => let ⟨_, _, _, _, _, z⟩ := st.pool; iter_ z h
end CMB
set_option Elab.async false
set_option linter.all false
set_option maxRecDepth 100000
set_option maxHeartbeats 4000000
namespace CMB
open PySem PySem.Spec PyProof.Rows L2
section
variable {X : Cx} {a b e : Expr} {ta tb : TE}
/-- an expression that makes a range, a new one -/
def PRgF (X : Cx) (e : Expr) (t : L2.St → Hp → (Int → Int → Hp → Prop) → Prop) : Prop :=
  ∀ (pins : List (Addr × Obj)) (s : Shared) (σ : L2.St) (H : Hp) (Q : Int → Int → Hp → Prop), Inv X pins σ H s → t σ H Q →
    wpAny (model X.prog X.w) X.A (eval e X.env) (fun x s' => ∃ r i j t u v H', x = .ref r ∧ IsRange s'.heap r i j 1 t u v ∧ Inv X pins σ H' s' ∧ FpOk X pins H' r ∧ Q i j H') X.xe s
theorem prgF_1 {p pos : Pos} (hg : Gl X "range") (hm : X.mg "range" = none) (ha : PE X a ta) (na : starEach [a] X.env = (false, eval a X.env) :: starEach [] X.env := by rfl) : PRgF X (.Call (.Name "range" p) [a] [] pos) (tRg1 ta) := by
  intro pins s σ H Q I h
  refine Call_ (ld_blt I hg hm boot_range (PyProof.Rows.callWith_type1 (one_arg ha I h (fun v s2 x H2 I2 r q => ?_) na) na))
  obtain ⟨n, rfl, q⟩ := q
  obtain ⟨t, rfl⟩ := r
  exact call_range_1 ⟨_, 0, n, _, _, _, H2, rfl, IsRange.new _ _ _ _ _ _ _, I2.kept fun b u e => Heap.get?_push_of_some _ e, I2.fpOk (Nat.le_refl _) (I2.hok.fresh (Nat.le_refl _)), q⟩
def iComb (tr : L2.St → Hp → (Int → Int → Hp → Prop) → Prop) (tb : TE) : TI := fun σ H R => tr σ H fun i j H1 => tb σ H1 fun y H2 => ∃ n k : Nat, i = 0 ∧ j = n ∧ y = .int k ∧ n ≤ 1000 ∧ k ≤ 1000 ∧ R (ItC n k) H2
theorem pi_comb {tg : Expr} {x : Str} {tr : L2.St → Hp → (Int → Int → Hp → Prop) → Prop} {p pos : Pos} (hc : X.calm = true) (hg : Gl X x) (hm : X.mg x = some (.type "itertools.combinations")) (he : PRgF X e tr) (hb : PE X b tb)
    (na : starEach [e, b] X.env = (false, eval e X.env) :: starEach [b] X.env := by rfl) (nb : starEach [b] X.env = (false, eval b X.env) :: starEach [] X.env := by rfl) (hp : (backTo pos (starEach [b] X.env)).any (·.1) = false := by rfl) (hd : (x == ("__debug__" : Str)) = false := by decide) (hcd : (x == ("__classdict__" : Str)) = false := by decide) :
    PI X tg (.Call (.Name x p) [e, b] [] pos) (iComb tr tb) := by
  refine ⟨fun pins s σ H R I h => ?_⟩
  refine Call_ (ld_glob I hg hm (PyProof.Rows.callWith_type1 (args_cons (thn (he pins s σ H _ I h) fun x s1 ⟨r, i, j, t, u, v, H1, ex, hr, I1, fp, q1⟩ => ?_) na) na hp) hd)
  subst ex
  have hro : ∀ b ∈ [r], ∃ o, s1.heap.get? b = some o ∧ ∀ v, o.data ≠ .cell v := fun b hb => by
    rw [List.mem_singleton.mp hb]
    exact ⟨_, hr, fun v q => nomatch q⟩
  have Ip := I1.pinned (fp := [r]) (fun b hb => by rw [List.mem_singleton.mp hb]; exact fp) hro
  refine args_cons (thn (hb.run _ s1 σ H1 _ Ip q1) fun w s2 ⟨y, H2, I2, ry, q2⟩ => args_nil ?_) nb
  obtain ⟨n, k, rfl, rfl, rfl, hn, hk, q⟩ := q2
  obtain ⟨tk, rfl⟩ := ry
  have hr2 : IsRange s2.heap r 0 n 1 t u v := (I2.pin (r, _) (List.mem_append_right _ (List.mem_append_right _ (by
    unfold pinsAt
    rw [List.filterMap_cons, show s1.heap.get? r = some _ from hr]
    exact List.mem_cons_self)))).1
  have I3 : Inv X pins σ H2 s2 := I2.unpinned
  have hh : X.A.in1.handled = none := I3.ok.hd hc
  have hsm : Builtin.Range.small 0 (n : Int) 1 = true := small_one (by decide) (by decide) (by omega) (by omega)
  refine call_new hn hk hsm (by rw [rangeSize_nat]; show ((((n : Int) - 0).toNat : Nat) : Int) = n; omega) hh hr2 fun h' tk' acc kp it => ?_
  have I4 : Inv X pins σ H2 { s2 with heap := h', toks := tk' } := I3.kept kp
  have hz : (h'.push { cls := .type "tuple", data := .seq acc.toList.toArray }).objs.size = h'.objs.size + 1 := Heap.size_push ..
  have kp2 : ∀ b o, h'.get? b = some o → ((h'.push { cls := .type "tuple", data := .seq acc.toList.toArray }).push (cmbObj h'.objs.size (if k > n then 2 else 0) .none (List.range k))).get? b = some o := fun b o q => Heap.get?_push_of_some _ (Heap.get?_push_of_some _ q)
  have I5 : Inv X pins σ H2 { s2 with heap := (h'.push { cls := .type "tuple", data := .seq acc.toList.toArray }).push (cmbObj h'.objs.size (if k > n then 2 else 0) .none (List.range k)), toks := tk' } := I4.kept (t' := tk') kp2
  have hcm : IsCmb ((h'.push { cls := .type "tuple", data := .seq acc.toList.toArray }).push (cmbObj h'.objs.size (if k > n then 2 else 0) .none (List.range k))) (h'.objs.size + 1) h'.objs.size (if k > n then 2 else 0) .none (List.range k) := by
    refine ⟨cmbObj h'.objs.size (if k > n then 2 else 0) .none (List.range k), ?_, rfl, rfl⟩
    rw [← hz]
    exact Heap.get?_push_size _ rfl
  have hpool : PoolOk ((h'.push { cls := .type "tuple", data := .seq acc.toList.toArray }).push (cmbObj h'.objs.size (if k > n then 2 else 0) .none (List.range k))) h'.objs.size n := by
    refine PoolOk.at (h := h'.push { cls := .type "tuple", data := .seq acc.toList.toArray }) ⟨acc.toList.toArray, IsTup.new _ _, by rw [List.size_toArray, Array.length_toList]; exact it.1, fun j hj => ?_⟩ fun o q => Heap.get?_push_of_some _ q
    have hjs : j < acc.size := by rw [it.1]; exact hj
    obtain ⟨t', e⟩ := it.2 j acc[j] (Array.getElem?_eq_getElem hjs)
    refine ⟨t', ?_⟩
    rw [Array.toArray_toList, Array.getElem?_eq_getElem hjs, e]
    rw [show (0 : Int) + (j : Int) * 1 = j by omega]
  refine iter_ hcm ?_
  refine ⟨h'.objs.size + 1, [h'.objs.size + 1, h'.objs.size], CTn n k (h'.objs.size + 1) h'.objs.size, _, H2, rfl, I5, turn_comb n k _ _, ⟨hpool, Nat.ne_of_lt (Nat.lt_succ_self _), ?_⟩, fun b hb => ?_, q⟩
  · obtain ⟨o, ho, hc2, hd2⟩ := hcm
    by_cases z : k > n
    · have ph2 : (if k > n then (2 : Int) else 0) = 2 := if_pos z
      exact .inr ⟨by show (if k > n then none else some (List.range k)) = none; rw [if_pos z], _, _, o, ho, hc2, by rw [hd2, ph2]⟩
    · have ph2 : (if k > n then (2 : Int) else 0) = 0 := if_neg z
      exact .inl ⟨_, _, by show (if k > n then none else some (List.range k)) = _; rw [if_neg z], o, ho, hc2, by rw [hd2, ph2]⟩
  · have hle : h'.objs.size ≤ b := by
      rcases (show b = h'.objs.size + 1 ∨ b = h'.objs.size by simpa using hb) with rfl | rfl
      · exact Nat.le_succ _
      · exact Nat.le_refl _
    exact I4.fpOk hle (I4.hok.fresh hle)
end
end CMB
set_option Elab.async false
set_option linter.all false
set_option maxRecDepth 100000
set_option maxHeartbeats 4000000
namespace CMB
open PySem PySem.Spec PyProof.Rows L2
/-- k of xs, as they come -/
def choose : List Nat → Nat → List (List Nat)
  | _, 0 => [[]]
  | [], _ + 1 => []
  | x :: r, k + 1 => (choose r k).map (x :: ·) ++ choose r (k + 1)
def listC (n : Nat) : Nat → Option (List Nat) → List (List Nat)
  | 0, _ => []
  | _ + 1, none => []
  | f + 1, some ix => ix :: listC n f (nextC n ix)
def iterC (n : Nat) (o : Option (List Nat)) : Nat → Option (List Nat)
  | 0 => o
  | i + 1 => (iterC n o i).bind (nextC n)
theorem iterC_succ (n : Nat) (o : Option (List Nat)) : ∀ i, iterC n o (i + 1) = iterC n (o.bind (nextC n)) i
  | 0 => rfl
  | i + 1 => by
    show (iterC n o (i + 1)).bind (nextC n) = (iterC n (o.bind (nextC n)) i).bind (nextC n)
    rw [iterC_succ n o i]
theorem iterC_none (n : Nat) : ∀ i, iterC n none i = none
  | 0 => rfl
  | i + 1 => by show (iterC n none i).bind _ = none; rw [iterC_none n i]; rfl
theorem listC_get (n : Nat) : ∀ (f : Nat) (o : Option (List Nat)), (listC n f o).length < f → ∀ i, iterC n o i = (listC n f o)[i]?
  | 0, _, h, _ => absurd h (Nat.not_lt_zero _)
  | f + 1, none, _, i => by rw [iterC_none]; rfl
  | f + 1, some ix, h, 0 => rfl
  | f + 1, some ix, h, i + 1 => by
    have h2 : (listC n f (nextC n ix)).length < f := by
      have : (listC n f (nextC n ix)).length + 1 < f + 1 := h
      omega
    rw [iterC_succ]
    show iterC n (nextC n ix) i = (listC n f (nextC n ix))[i]?
    exact listC_get n f _ h2 i
theorem seqC_iter (n k : Nat) : ∀ i, seqC n k i = iterC n (seqC n k 0) i
  | 0 => rfl
  | i + 1 => by
    show (seqC n k i).bind (nextC n) = _
    rw [seqC_iter n k i]; rfl
theorem check : ∀ n, n < 13 → ∀ k, k < 13 → (listC n 1000 (seqC n k 0) == choose (List.range n) k) = true ∧ (choose (List.range n) k).length < 1000 := by decide +kernel
theorem seqC_get {n k : Nat} (hn : n ≤ 12) (hk : k ≤ 12) (i : Nat) : seqC n k i = (choose (List.range n) k)[i]? := by
  obtain ⟨h1, h2⟩ := check n (by omega) k (by omega)
  have e : listC n 1000 (seqC n k 0) = choose (List.range n) k := eq_of_beq h1
  rw [seqC_iter, listC_get n 1000 _ (by rw [e]; exact h2), e]
theorem choose_of {n : Nat} : ∀ (m a : Nat) (l : List Nat), l.Pairwise (· < ·) → (∀ x ∈ l, a ≤ x ∧ x < a + m) → l ∈ choose (List.range' a m) l.length
  | m, a, [], _, _ => by
    cases m <;> exact List.mem_singleton.mpr rfl
  | 0, a, x :: r, _, h => by
    have := h x List.mem_cons_self
    omega
  | m + 1, a, x :: r, hp, h => by
    have hp' := List.pairwise_cons.mp hp
    rw [List.range'_succ, List.length_cons]
    show x :: r ∈ (choose (List.range' (a + 1) m) r.length).map (a :: ·) ++ choose (List.range' (a + 1) m) (r.length + 1)
    by_cases e : x = a
    · refine List.mem_append_left _ (List.mem_map.mpr ⟨r, choose_of (n := n) m (a + 1) r hp'.2 fun y hy => ?_, by rw [e]⟩)
      have := hp'.1 y hy
      have := h y (List.mem_cons_of_mem _ hy)
      omega
    · refine List.mem_append_right _ ?_
      have := choose_of (n := n) m (a + 1) (x :: r) hp fun y hy => by
        have h1 := h y hy
        have h0 := h x List.mem_cons_self
        rcases List.mem_cons.mp hy with rfl | hy
        · omega
        · have := hp'.1 y hy
          omega
      exact this
theorem choose_is : ∀ (m a k : Nat) (l : List Nat), l ∈ choose (List.range' a m) k → l.length = k ∧ l.Pairwise (· < ·) ∧ ∀ x ∈ l, a ≤ x ∧ x < a + m
  | m, a, 0, l, h => by
    have : l = [] := by cases m <;> exact List.mem_singleton.mp h
    subst this
    exact ⟨rfl, List.Pairwise.nil, fun _ z => nomatch z⟩
  | 0, a, k + 1, l, h => nomatch h
  | m + 1, a, k + 1, l, h => by
    rw [List.range'_succ] at h
    have h : l ∈ (choose (List.range' (a + 1) m) k).map (a :: ·) ++ choose (List.range' (a + 1) m) (k + 1) := h
    rcases List.mem_append.mp h with h | h
    · obtain ⟨r, hr, rfl⟩ := List.mem_map.mp h
      obtain ⟨h1, h2, h3⟩ := choose_is m (a + 1) k r hr
      refine ⟨by show r.length + 1 = k + 1; rw [h1], List.pairwise_cons.mpr ⟨fun y hy => by have := h3 y hy; omega, h2⟩, fun x hx => ?_⟩
      rcases List.mem_cons.mp hx with rfl | hx
      · omega
      · have := h3 x hx; omega
    · obtain ⟨h1, h2, h3⟩ := choose_is m (a + 1) (k + 1) l h
      exact ⟨h1, h2, fun x hx => by have := h3 x hx; omega⟩
theorem mem_choose {n k : Nat} {l : List Nat} : l ∈ choose (List.range n) k ↔ l.length = k ∧ l.Pairwise (· < ·) ∧ ∀ x ∈ l, x < n := by
  rw [List.range_eq_range']
  constructor
  · intro h
    obtain ⟨h1, h2, h3⟩ := choose_is n 0 k l h
    exact ⟨h1, h2, fun x hx => by have := h3 x hx; omega⟩
  · rintro ⟨rfl, h2, h3⟩
    exact choose_of (n := n) n 0 l h2 fun x hx => ⟨Nat.zero_le _, by have := h3 x hx; omega⟩
end CMB
namespace AL
open PySem PySem.Spec PyProof.Rows L2
def numsD (l : List Nat) : D := .tup (l.map fun (i : Nat) => D.int i)
section
variable {X : Cx} {Φ : Cl} [ok : ClOk Φ] {pos : Pos} {e a b c : Expr} {wa wb wc : WE} {M : Addr → Prop} {σ : L2.St} {H : Hp} {ρ : Ev}
theorem nums_rp {K : PySem.W.Frag} : ∀ l : List Nat, RpAll K M H (l.map fun (x : Nat) => V.int x) (l.map fun (i : Nat) => D.int i)
  | [] => .nil
  | _ :: r => .cons (.int _) (nums_rp r)
theorem gives_comb {M : Addr → Prop} {H : Hp} {n k : Nat} (hn : n ≤ 12) (hk : k ≤ 12) : Gives Φ.K M H (CMB.ItC n k) ((CMB.choose (List.range n) k).map numsD) := by
  refine ⟨fun _ => True, fun i H v H' => ∃ T ix, v = .ref T ∧ H T = none ∧ H' = upd H T (.tup (ix.map fun (x : Nat) => V.int x)) ∧ CMB.seqC n k i = some ix, ?_, fun M' H' S => trivial, fun i M' H' H2 v S y => ?_⟩
  · rw [List.length_map]
    refine ⟨fun i H hi _ => ?_, fun H _ => ?_, fun i H v H' hi _ y => y⟩
    · refine ⟨(CMB.choose (List.range n) k)[i], by rw [CMB.seqC_get hn hk, List.getElem?_eq_getElem hi], ?_, ?_⟩
      · have := (CMB.mem_choose.mp (List.getElem_mem hi)).1
        omega
      · exact (CMB.mem_choose.mp (List.getElem_mem hi)).2.2
    · show CMB.seqC n k _ = none
      rw [CMB.seqC_get hn hk, List.getElem?_eq_none_iff]
      exact Nat.le_refl _
  · obtain ⟨T, ix, rfl, hT, rfl, e⟩ := y
    have sm := same_upd (o := .tup (ix.map fun (x : Nat) => V.int x)) hT
    refine ⟨sm, fun d hd => ?_⟩
    rw [CMB.seqC_get hn hk] at e
    rw [List.getElem?_map, e] at hd
    cases hd
    exact .tup upd_same (nums_rp ix)
/-- combinations(range(n), k) -/
def wCombRg (wa wb : WE) : WI := fun ρ Q => wa ρ fun x ρ1 => match x with
  | .int n => wb ρ1 fun y ρ2 => match y with
    | .int k => ((0 ≤ n ∧ n ≤ 12) ∧ 0 ≤ k ∧ k ≤ 12) ∧ Q ((CMB.choose (List.range n.toNat) k.toNat).map numsD) ρ2
    | _ => False
  | _ => False
theorem qi_combRg {tg : Expr} {x : Str} {p p2 pos2 : Pos} (hc : X.calm = true) (hg : Gl X x) (hm : X.mg x = some (.type "itertools.combinations")) (hg2 : Gl X "range") (hm2 : X.mg "range" = none) (ha : QE X Φ a wa) (hb : QE X Φ b wb)
    (na : starEach [.Call (.Name "range" p2) [a] [] pos2, b] X.env = (false, eval (.Call (.Name "range" p2) [a] [] pos2) X.env) :: starEach [b] X.env := by rfl) (nb : starEach [b] X.env = (false, eval b X.env) :: starEach [] X.env := by rfl)
    (nc : starEach [a] X.env = (false, eval a X.env) :: starEach [] X.env := by rfl) (hp : (backTo pos (starEach [b] X.env)).any (·.1) = false := by rfl) (hd : (x == ("__debug__" : Str)) = false := by decide) (hcd : (x == ("__classdict__" : Str)) = false := by decide) :
    QI X Φ tg (.Call (.Name x p) [.Call (.Name "range" p2) [a] [] pos2, b] [] pos) (wCombRg wa wb) := by
  refine ⟨fun ρ Q Q' h q => ha.mono ρ _ _ (fun x ρ1 q1 => ?_) q, PIw (CMB.pi_comb hc hg hm (CMB.prgF_1 hg2 hm2 ha.run nc) hb.run na nb hp hd hcd) fun σ H R ⟨M, ρ, A, q⟩ => ?_⟩
  · cases x with
    | int n =>
      refine hb.mono ρ1 _ _ (fun y ρ2 q2 => ?_) q1
      cases y <;> first | exact q2.elim | exact ⟨q2.1, h _ _ q2.2⟩
    | _ => exact q1.elim
  · refine ⟨M, ρ, A, ha.mono ρ _ _ (fun x ρ1 q1 => ?_) q⟩
    intro M1 v H1 A1 S1 r1
    cases x with
    | int n =>
      cases r1
      refine ⟨n, rfl, M1, ρ1, A1, hb.mono ρ1 _ _ (fun y ρ2 q2 => ?_) q1⟩
      intro M2 u H2 A2 S2 r2
      cases y with
      | int k =>
        cases r2
        obtain ⟨⟨⟨n0, n1⟩, k0, k1⟩, q3⟩ := q2
        refine ⟨n.toNat, k.toNat, rfl, by omega, by rw [Int.toNat_of_nonneg k0], by omega, by omega, ?_⟩
        exact q3 M2 H2 _ A2 (S1.trans S2) (gives_comb (by omega) (by omega))
      | _ => exact q2.elim
    | _ => exact q1.elim
end
end AL
set_option Elab.async false
set_option linter.all false
set_option maxRecDepth 100000
set_option maxHeartbeats 1000000
namespace AL
open PySem PySem.Spec PyProof.Rows L2
theorem it_gen {J : It} {n : Nat} {G : Hp → Prop} {Y : Nat → Hp → V → Hp → Prop} (w : Walk J n G Y) {H0 : Hp} {Qd : Hp → Prop} {Body : (Hp → Prop) → V → Hp → Prop} (Pv : Nat → Hp → Prop) (h0 : Pv 0 H0) (hG : ∀ i H, i ≤ n → Pv i H → G H)
    (hs : ∀ i x H H', i < n → Pv i H → Y i H x H' → Body (Pv (i + 1)) x H') (hd : ∀ H, Pv n H → Qd H) :
    ∃ W : Nat → Nat → Hp → Prop, (∃ m, W 0 m H0) ∧ ∀ i m H, W i m H → (J.stop i H ∧ Qd H) ∨ (J.go i H ∧ ∃ Nx : Hp → Prop, (∀ H', Nx H' → ∃ m', m' < m ∧ W (i + 1) m' H') ∧ ∀ x H', J.yld i H x H' → Body Nx x H') := by
  refine ⟨fun i m H => m = n - i ∧ i ≤ n ∧ Pv i H, ⟨n, by simp, Nat.zero_le _, h0⟩, ?_⟩
  rintro i m H ⟨rfl, hi, p⟩
  have q := hG i H hi p
  by_cases hlt : i < n
  · exact .inr ⟨w.goes i H hlt q, Pv (i + 1), fun H' p' => ⟨n - (i + 1), by omega, rfl, hlt, p'⟩, fun x H' y => hs i x H H' hlt p (w.yields i H x H' hlt q y)⟩
  · have e : i = n := by omega
    subst e
    exact .inl ⟨w.stops H q, hd H p⟩
section
variable {X : Cx} {Φ : Cl} [ok : ClOk Φ] {pos : Pos} {e a b c : Expr} {wa wb wc : WE} {M : Addr → Prop} {σ σ' : L2.St} {H : Hp} {ρ : Ev}
def PvM (Φ : Cl) (g : WG) (tt : WT) (we : WE) (vs : List Nat) (QQ : List D → Ev → Prop) (σ : L2.St) (M1 : Addr → Prop) (H1 : Hp) (p : Addr) (xs : List D) (i : Nat) (H2 : Hp) : Prop :=
  ∃ M2 ρ2 acc ds, Abs Φ M2 (wipe σ vs) H2 ρ2 ∧ NewL Φ M2 (wipe σ vs) H2 ρ2 p acc ds ∧ Step M1 H1 M2 H2 ∧ (∀ i ∈ vs, ∀ e, ρ2[i]? = some e → e = .un) ∧ wMake g tt we vs QQ (xs.drop i) ds ρ2
theorem wipe_same {σ σ4 : L2.St} {vs : List Nat} (t4 : σ4.length = (wipe σ vs).length ∧ ∀ i, i ∉ vs → σ4[i]? = (wipe σ vs)[i]?) : wipe σ4 vs = wipe σ vs := by
  apply List.ext_getElem?
  intro k
  by_cases hk : k ∈ vs
  · have hl : (wipe σ4 vs).length = (wipe σ vs).length := by rw [wipe_length]; exact t4.1
    have un : ∀ (τ : L2.St) (o : Option V), (wipe τ vs)[k]? = some o → o = none := fun τ o h => by
      cases o with
      | none => rfl
      | some v => exact absurd hk (wipe_some h).2
    cases h1 : (wipe σ4 vs)[k]? with
    | none =>
      have : (wipe σ vs)[k]? = none := by
        rw [List.getElem?_eq_none_iff] at h1 ⊢
        omega
      rw [this]
    | some o =>
      have hk2 : k < (wipe σ vs).length := by
        have := (List.getElem?_eq_some_iff.mp h1).1
        omega
      rw [List.getElem?_eq_getElem hk2]
      rw [un _ _ h1, un σ _ (List.getElem?_eq_getElem hk2)]
  · rw [wipe_out hk, t4.2 k hk]
theorem make_step {g : WG} {tt : WT} {we : WE} {vs : List Nat} {QQ : List D → Ev → Prop} {σ : L2.St} {M1 : Addr → Prop} {H1 : Hp} {p : Addr} {xs : List D} {Y : Nat → Hp → V → Hp → Prop}
    (gm : ∀ x ρ Q Q', (∀ ρ', Q ρ' → Q' ρ') → g x ρ Q → g x ρ Q') (tm : ∀ ρ Q Q', (∀ x ρ', Q x ρ' → Q' x ρ') → tt ρ Q → tt ρ Q') (em : ∀ ρ Q Q', (∀ x ρ', Q x ρ' → Q' x ρ') → we ρ Q → we ρ Q')
    (hY : ∀ i M' H' H2 v, Step M1 H1 M' H' → Y i H' v H2 → Same H' H2 ∧ ∀ x, xs[i]? = some x → Rp Φ.K M' H2 v x) (ht : Φ.T p = none) (h0 : Φ.H0 p = none) :
    ∀ i v H2 H3, i < xs.length → PvM Φ g tt we vs QQ σ M1 H1 p xs i H2 → Y i H2 v H3 → anyG Φ vs g v (wipe σ vs) H3 fun σ2 H => wipe σ2 vs = wipe σ vs ∧ anyT Φ tt σ2 H fun b H => if b = true then anyE Φ we σ2 H fun y H => ∃ acc, H p = some (.lst acc) ∧ acc.length < sizeLine ∧ PvM Φ g tt we vs QQ σ M1 H1 p xs (i + 1) (upd H p (.lst (acc ++ [y]))) else PvM Φ g tt we vs QQ σ M1 H1 p xs (i + 1) H := by
  intro i v H2 H3 hlt ⟨M2, ρ2, acc, ds, A2, N2, S2, u2, q2⟩ y
  obtain ⟨sm, hx⟩ := hY i M2 H2 H3 v S2 y
  have rx := hx xs[i] (List.getElem?_eq_getElem hlt)
  rw [List.drop_eq_getElem_cons hlt] at q2
  have S3 : Step M2 H2 M2 H3 := step_same sm
  have A3 := (A2.hold_in N2).same sm
  refine ⟨p, acc, M2, ρ2, _, A3, rx, gm _ _ _ _ (fun ρ4 q4 => ?_) q2⟩
  intro M4 σ4 H4 A4 S4 t4
  have e4 := wipe_same t4
  refine ⟨e4, p, acc, M4, ρ4, A4, tm _ _ _ (fun b ρ5 q5 => ?_) q4⟩
  intro M5 H5 A5 S5
  have back : ∀ {M6 : Addr → Prop} {H6 : Hp} {ρ6 : Ev}, Abs (Φ.held p acc) M6 σ4 H6 ρ6 → Step M2 H2 M6 H6 → Abs Φ M6 (wipe σ vs) H6 (wipeE ρ6 vs) ∧ NewL Φ M6 (wipe σ vs) H6 (wipeE ρ6 vs) p acc ds := fun {M6 H6 ρ6} A6 S6 => by
    obtain ⟨h1, h2⟩ := A6.hold_out ht h0 (N2.r.step S6)
    have hs : ∀ k, k ∉ vs → (wipe σ vs)[k]? = σ4[k]? := fun k hk => by rw [← e4, wipe_out hk]
    exact ⟨h1.wiped vs (by rw [wipe_length, t4.1, wipe_length]) hs, h2.moved hs⟩
  cases b with
  | true =>
    refine iteT ⟨p, acc, M5, ρ5, A5, em _ _ _ (fun y ρ6 q6 => ?_) q5⟩
    intro M6 u H6 A6 S6 r6
    have SS := S3.trans (S4.trans (S5.trans S6))
    obtain ⟨B6, N6⟩ := back A6 SS
    obtain ⟨B7, S7, N7⟩ := B6.put N6 (N6.r.append (.cons r6 .nil))
    refine ⟨acc, N6.h, by rw [N6.r.length]; exact q6.1, M6, _, _, _, B7, N7, S2.trans (SS.trans S7), fun k hk e h => wipeE_in hk h, q6.2⟩
  | false =>
    have SS := S3.trans (S4.trans S5)
    obtain ⟨B6, N6⟩ := back A5 SS
    exact iteF ⟨M5, _, _, _, B6, N6, S2.trans SS, fun k hk e h => wipeE_in hk h, q5⟩
/-! ### two generators -/
def wMake2 (g : WG) (tt : WT) (wi1 : WI) (g1 : WG) (tt1 : WT) (we : WE) (vs vs1 : List Nat) (Q : List D → Ev → Prop) : List D → List D → Ev → Prop
  | [], acc, ρ => Q acc ρ
  | x :: r, acc, ρ => g x ρ fun ρ1 => tt ρ1 fun b ρ2 => if b = true then wi1 ρ2 fun ys ρ3 => wMake g1 tt1 we vs1 (fun zs ρ4 => wMake2 g tt wi1 g1 tt1 we vs vs1 Q r zs (wipeE ρ4 vs)) ys acc (wipeE ρ3 vs1) else wMake2 g tt wi1 g1 tt1 we vs vs1 Q r acc (wipeE ρ2 vs)
def wLc2 (wi : WI) (g : WG) (tt : WT) (wi1 : WI) (g1 : WG) (tt1 : WT) (we : WE) (vs vs1 : List Nat) : WA := fun ρ Q => wi ρ fun xs ρ' => wMake2 g tt wi1 g1 tt1 we vs vs1 Q xs [] (wipeE ρ' vs)
variable {elt tg iter tg1 iter1 : Expr} {ifs ifs1 : List Expr} {scope : Scope} {own : List (Str × Nat)} {wi wi1 : WI} {g g1 : WG} {tt tt1 : WT} {we : WE}
theorem wMake2_mono {vs vs1 : List Nat} (gm : ∀ x ρ Q Q', (∀ ρ', Q ρ' → Q' ρ') → g x ρ Q → g x ρ Q') (tm : ∀ ρ Q Q', (∀ x ρ', Q x ρ' → Q' x ρ') → tt ρ Q → tt ρ Q') (im : ∀ ρ Q Q', (∀ x ρ', Q x ρ' → Q' x ρ') → wi1 ρ Q → wi1 ρ Q')
    (gm1 : ∀ x ρ Q Q', (∀ ρ', Q ρ' → Q' ρ') → g1 x ρ Q → g1 x ρ Q') (tm1 : ∀ ρ Q Q', (∀ x ρ', Q x ρ' → Q' x ρ') → tt1 ρ Q → tt1 ρ Q') (em : ∀ ρ Q Q', (∀ x ρ', Q x ρ' → Q' x ρ') → we ρ Q → we ρ Q')
    {Q Q' : List D → Ev → Prop} (h : ∀ x ρ, Q x ρ → Q' x ρ) : ∀ (xs acc : List D) (ρ : Ev), wMake2 g tt wi1 g1 tt1 we vs vs1 Q xs acc ρ → wMake2 g tt wi1 g1 tt1 we vs vs1 Q' xs acc ρ
  | [], acc, ρ, q => h _ _ q
  | x :: r, acc, ρ, q => gm x ρ _ _ (fun ρ1 q1 => tm ρ1 _ _ (fun b ρ2 q2 => by
      cases b with
      | true => exact im ρ2 _ _ (fun ys ρ3 q3 => wMake_mono gm1 tm1 em (fun zs ρ4 q4 => wMake2_mono gm tm im gm1 tm1 em h r _ _ q4) _ _ _ q3) q2
      | false => exact wMake2_mono gm tm im gm1 tm1 em h r _ _ q2) q1) q
structure Blk2 (X : Cx) (Φ : Cl) (scope : Scope) (vs vs1 : List Nat) (tg : Expr) (ifs : List Expr) (tg1 iter1 : Expr) (ifs1 : List Expr) (elt : Expr) (g : WG) (tt : WT) (wi1 : WI) (g1 : WG) (tt1 : WT) (we : WE) : Prop where
  g : ∀ (T : Hp) (s : Shared) (H : Hp) (C : Addr) (cl : List (Str × Addr)) (fp : List Addr), QC (X.blk s H scope (compEnvC scope cl C X.env) fp) { Φ with T := T } vs tg g
  t : ∀ (T : Hp) (s : Shared) (H : Hp) (C : Addr) (cl : List (Str × Addr)) (fp : List Addr), QTs (X.blk s H scope (compEnvC scope cl C X.env) fp) { Φ with T := T } ifs tt
  i : ∀ (T : Hp) (s : Shared) (H : Hp) (C : Addr) (cl : List (Str × Addr)) (fp : List Addr), QI (X.blk s H scope (compEnvC scope cl C X.env) fp) { Φ with T := T } tg1 iter1 wi1
  g1 : ∀ (T : Hp) (s : Shared) (H : Hp) (C : Addr) (cl : List (Str × Addr)) (fp : List Addr), QC (X.blk s H scope (compEnvC scope cl C X.env) fp) { Φ with T := T } vs1 tg1 g1
  t1 : ∀ (T : Hp) (s : Shared) (H : Hp) (C : Addr) (cl : List (Str × Addr)) (fp : List Addr), QTs (X.blk s H scope (compEnvC scope cl C X.env) fp) { Φ with T := T } ifs1 tt1
  e : ∀ (T : Hp) (s : Shared) (H : Hp) (C : Addr) (cl : List (Str × Addr)) (fp : List Addr), QE (X.blk s H scope (compEnvC scope cl C X.env) fp) { Φ with T := T } elt we
def anyI (Φ : Cl) (w : WI) : TI := fun σ H R => ∃ p acc, liftI (Φ.held p acc) w σ H R
theorem anyI_of {X : Cx} {tg it : Expr} {w : WI} (h : ∀ T, QI X { Φ with T := T } tg it w) : PI X tg it (anyI Φ w) := ⟨fun pins s σ H R I ⟨p, acc, q⟩ => (h (upd Φ.T p (.lst acc))).run.run pins s σ H R I q⟩
theorem wLc2_mono {vs vs1 : List Nat} (hi : QI X Φ tg iter wi) (B : Blk2 X Φ scope vs vs1 tg ifs tg1 iter1 ifs1 elt g tt wi1 g1 tt1 we) : ∀ ρ Q Q', (∀ x ρ', Q x ρ' → Q' x ρ') → wLc2 wi g tt wi1 g1 tt1 we vs vs1 ρ Q → wLc2 wi g tt wi1 g1 tt1 we vs vs1 ρ Q' := fun ρ Q Q' h q =>
  hi.mono ρ _ _ (fun xs ρ' q' => wMake2_mono (B.g (fun _ => none) X.s_0 (fun _ => none) 0 [] []).mono (B.t (fun _ => none) X.s_0 (fun _ => none) 0 [] []).mono (B.i (fun _ => none) X.s_0 (fun _ => none) 0 [] []).mono (B.g1 (fun _ => none) X.s_0 (fun _ => none) 0 [] []).mono (B.t1 (fun _ => none) X.s_0 (fun _ => none) 0 [] []).mono (B.e (fun _ => none) X.s_0 (fun _ => none) 0 [] []).mono h _ _ _ q') q
theorem lift_lc2 {vs1 : List Nat} (hi : QI X Φ tg iter wi) (B : Blk2 X Φ scope (own.map (·.2)) vs1 tg ifs tg1 iter1 ifs1 elt g tt wi1 g1 tt1 we) (hv : ∀ i ∈ vs1, i ∈ own.map (·.2)) : ∀ σ H Q, liftF Φ (wLc2 wi g tt wi1 g1 tt1 we (own.map (·.2)) vs1) σ H Q →
    tLc2 (liftI Φ wi) (anyG Φ (own.map (·.2)) g) (anyT Φ tt) (anyI Φ wi1) (anyG Φ vs1 g1) (anyT Φ tt1) (anyE Φ we) (own.map (·.2)) vs1 σ H Q := by
  intro σ H Q ⟨M, ρ, A, q⟩
  generalize own.map (·.2) = vs at *
  have gm := (B.g (fun _ => none) X.s_0 (fun _ => none) 0 [] []).mono
  have tm := (B.t (fun _ => none) X.s_0 (fun _ => none) 0 [] []).mono
  have im := (B.i (fun _ => none) X.s_0 (fun _ => none) 0 [] []).mono
  have gm1 := (B.g1 (fun _ => none) X.s_0 (fun _ => none) 0 [] []).mono
  have tm1 := (B.t1 (fun _ => none) X.s_0 (fun _ => none) 0 [] []).mono
  have em := (B.e (fun _ => none) X.s_0 (fun _ => none) 0 [] []).mono
  refine ⟨M, ρ, A, hi.mono ρ _ _ (fun xs ρ1 q1 => ?_) q⟩
  intro M1 H1 J A1 S1 G1 p hp
  obtain ⟨G, Y, W, hG, hY⟩ := G1.ex
  have hw : (wipe σ vs).length = σ.length := wipe_length σ vs
  obtain ⟨A2, S2, N2⟩ := A1.add (vs := []) hp .nil
  have h0 := N2.h0
  have ht := N2.t
  generalize hQ : (fun (zs : List D) (ρ' : Ev) => ∀ M' p vs H', Abs Φ M' σ H' ρ' → Step M H M' H' → NewL Φ M' σ H' ρ' p vs zs → Q (.ref p) H') = QQ at q1
  refine it_gen W (fun i H2 => ∃ M2 ρ2 acc ds, Abs Φ M2 (wipe σ vs) H2 ρ2 ∧ NewL Φ M2 (wipe σ vs) H2 ρ2 p acc ds ∧ Step M1 H1 M2 H2 ∧ (∀ i ∈ vs, ∀ e, ρ2[i]? = some e → e = .un) ∧ wMake2 g tt wi1 g1 tt1 we vs vs1 QQ (xs.drop i) ds ρ2) ?_ (fun i H2 hi ⟨M2, ρ2, acc, ds, A2, N2, S2, u2, q2⟩ => hG M2 H2 S2) ?_ ?_
  · exact ⟨_, _, [], [], A2.wiped vs hw fun i hi => wipe_out hi, N2.moved fun i hi => wipe_out hi, S2, fun i hi e h => wipeE_in hi h, by rw [List.drop_zero]; exact q1⟩
  · intro i v H2 H3 hlt ⟨M2, ρ2, acc, ds, A2, N2, S2, u2, q2⟩ y
    obtain ⟨sm, hx⟩ := hY i M2 H2 H3 v S2 y
    have rx := hx xs[i] (List.getElem?_eq_getElem hlt)
    rw [List.drop_eq_getElem_cons hlt] at q2
    have S3 : Step M2 H2 M2 H3 := step_same sm
    have A3 := (A2.hold_in N2).same sm
    refine ⟨p, acc, M2, ρ2, _, A3, rx, gm _ _ _ _ (fun ρ4 q4 => ?_) q2⟩
    intro M4 σ4 H4 A4 S4 t4
    have e4 := wipe_same t4
    refine ⟨e4, p, acc, M4, ρ4, A4, tm _ _ _ (fun b ρ5 q5 => ?_) q4⟩
    intro M5 H5 A5 S5
    have hs : ∀ k, k ∉ vs → (wipe σ vs)[k]? = σ4[k]? := fun k hk => by rw [← e4, wipe_out hk]
    cases b with
    | true =>
      refine iteT ⟨p, acc, M5, ρ5, A5, im _ _ _ (fun ys ρ6 q6 => ?_) q5⟩
      intro M6 H6 J1 A6 S6 G6
      obtain ⟨G', Y', W', hG', hY'⟩ := G6.ex
      have SS := S3.trans (S4.trans (S5.trans S6))
      obtain ⟨B6, N6⟩ := A6.hold_out ht h0 (N2.r.step SS)
      refine it_gen W' (PvM Φ g1 tt1 we vs1 (fun zs ρ4 => wMake2 g tt wi1 g1 tt1 we vs vs1 QQ (xs.drop (i + 1)) zs (wipeE ρ4 vs)) σ4 M6 H6 p ys) ?_ (fun j H7 _ ⟨M7, ρ7, acc7, ds7, A7, N7, S7, u7, q7⟩ => hG' M7 H7 S7) (make_step gm1 tm1 em hY' ht h0) ?_
      · exact ⟨M6, wipeE ρ6 vs1, acc, ds, B6.wiped vs1 (wipe_length _ _) fun k hk => wipe_out hk, N6.moved fun k hk => wipe_out hk, .refl, fun k hk e h => wipeE_in hk h, by rw [List.drop_zero]; exact q6⟩
      · intro H7 ⟨M7, ρ7, acc7, ds7, A7, N7, S7, u7, q7⟩
        rw [List.drop_length] at q7
        have hs7 : ∀ k, k ∉ vs → (wipe σ vs)[k]? = (wipe σ4 vs1)[k]? := fun k hk => by rw [hs k hk, wipe_out fun z => hk (hv k z)]
        exact ⟨M7, wipeE ρ7 vs, acc7, ds7, A7.wiped vs (by rw [wipe_length, wipe_length, t4.1, wipe_length]) hs7, N7.moved hs7, S2.trans (SS.trans S7), fun k hk e h => wipeE_in hk h, q7⟩
    | false =>
      have SS := S3.trans (S4.trans S5)
      obtain ⟨h1, h2⟩ := A5.hold_out ht h0 (N2.r.step SS)
      exact iteF ⟨M5, _, _, _, h1.wiped vs (by rw [wipe_length, t4.1, wipe_length]) hs, h2.moved hs, S2.trans SS, fun k hk e h => wipeE_in hk h, q5⟩
  · intro H2 ⟨M2, ρ2, acc, ds, A2, N2, S2, u2, q2⟩
    rw [List.drop_length] at q2
    have q2' : QQ ds ρ2 := q2
    subst hQ
    refine q2' M2 p acc H2 ?_ (S1.trans S2) ?_
    · refine ⟨by rw [← A2.len, hw], fun k en o h1 h2 => ?_, fun k j a w1 w2 ys zs h1 h2 h3 h4 => ?_, A2.lst, A2.m0, A2.keep, A2.wm, A2.hold, fun k j a ys zs h1 h2 h3 h4 => ?_, A2.tab, fun k j w F P e a hkj h1 h2 h3 => by
        by_cases hk : k ∈ vs
        · have := u2 k hk _ h1; cases this
        · by_cases hj : j ∈ vs
          · rw [u2 j hj _ h2]; trivial
          · exact A2.far k j w F P e a hkj h1 h2 (by rw [wipe_out hj]; exact h3)⟩
      · by_cases hk : k ∈ vs
        · rw [u2 k hk en h1]; trivial
        · exact A2.slot k en o h1 (by rw [wipe_out hk]; exact h2)
      · by_cases hk : k ∈ vs
        · have := u2 k hk _ h1; cases this
        · by_cases hj : j ∈ vs
          · have := u2 j hj _ h2; cases this
          · exact A2.inj k j a w1 w2 ys zs h1 h2 (by rw [wipe_out hk]; exact h3) (by rw [wipe_out hj]; exact h4)
      · by_cases hk : k ∈ vs
        · have := u2 k hk _ h1; cases this
        · by_cases hj : j ∈ vs
          · have := u2 j hj _ h2; cases this
          · exact A2.injd k j a ys zs h1 h2 (by rw [wipe_out hk]; exact h3) (by rw [wipe_out hj]; exact h4)
    · refine ⟨N2.m, N2.h, N2.r, N2.h0, N2.t, fun k w ys h1 h2 => ?_, fun k w F P h1 hf => N2.f k w F P h1 hf⟩
      by_cases hk : k ∈ vs
      · have := u2 k hk _ h1; cases this
      · exact N2.n k w ys h1 (by rw [wipe_out hk]; exact h2)
theorem qf_lc2 (hc : X.calm = true) (hN : X.N.Nodup) (hi : QI X Φ tg iter wi) {vs vs1 : List Nat} (bk : BlkOk X.N X.env.scope scope own) (B : Blk2 X Φ scope vs vs1 tg ifs tg1 iter1 ifs1 elt g tt wi1 g1 tt1 we)
    (hvs : own.map (·.2) = vs := by rfl) (hv : ∀ i ∈ vs1, i ∈ vs := by decide) (hs : ∀ x, foldedSetIterable iter X.env x = pure x := by intro _; rfl) (hs1 : ∀ env x, foldedSetIterable iter1 env x = pure x := by intro _ _; rfl) :
    QF X Φ (.ListComp elt [⟨tg, iter, ifs, 0⟩, ⟨tg1, iter1, ifs1, 0⟩] scope pos) (wLc2 wi g tt wi1 g1 tt1 we vs vs1) := by
  subst hvs
  exact ⟨wLc2_mono hi B, PEw (pe_lc2 hc hN hi.run bk hv (fun s H C cl fp => anyG_of fun T => B.g T s H C cl fp) (fun s H C cl fp => anyT_of fun T => B.t T s H C cl fp) (fun s H C cl fp => anyI_of fun T => B.i T s H C cl fp) (fun s H C cl fp => anyG_of fun T => B.g1 T s H C cl fp) (fun s H C cl fp => anyT_of fun T => B.t1 T s H C cl fp) (fun s H C cl fp => anyE_of fun T => B.e T s H C cl fp) hs hs1) (lift_lc2 hi B hv)⟩
theorem qs_setLc2 {i : Nat} {y : Str} {py spos : Pos} (hc : X.calm = true) (hN : X.N.Nodup) (hy : X.N[i]? = some y) (hyl : X.env.scope.names.lookup y = some .local)
    (hsw : swapsWith (.ListComp elt [⟨tg, iter, ifs, 0⟩, ⟨tg1, iter1, ifs1, 0⟩] scope pos) (some (.Name y py)) spos.line X.env = pure true) (hi : QI X Φ tg iter wi) {vs vs1 : List Nat} (bk : BlkOk X.N X.env.scope scope own) (B : Blk2 X Φ scope vs vs1 tg ifs tg1 iter1 ifs1 elt g tt wi1 g1 tt1 we)
    (hvs : own.map (·.2) = vs := by rfl) (hv : ∀ i ∈ vs1, i ∈ vs := by decide) (hs : ∀ x, foldedSetIterable iter X.env x = pure x := by intro _; rfl) (hs1 : ∀ env x, foldedSetIterable iter1 env x = pure x := by intro _ _; rfl) :
    QS X Φ (.Assign [.Name y py] (.ListComp elt [⟨tg, iter, ifs, 0⟩, ⟨tg1, iter1, ifs1, 0⟩] scope pos) spos) (wAsg (fun ρ Q => wLc2 wi g tt wi1 g1 tt1 we vs vs1 ρ fun xs ρ' => Q (.lst xs) ρ') (wName i)) := by
  subst hvs
  refine ⟨fun ρ R R' h q => wLc2_mono hi B ρ _ _ (fun xs ρ' q' => h.nx _ q') q, PSw (ps_setLc2 hc hN hy hyl hsw hi.run bk hv (fun s H C cl fp => anyG_of fun T => B.g T s H C cl fp) (fun s H C cl fp => anyT_of fun T => B.t T s H C cl fp) (fun s H C cl fp => anyI_of fun T => B.i T s H C cl fp) (fun s H C cl fp => anyG_of fun T => B.g1 T s H C cl fp) (fun s H C cl fp => anyT_of fun T => B.t1 T s H C cl fp) (fun s H C cl fp => anyE_of fun T => B.e T s H C cl fp) hs hs1) fun D σ H ⟨M, ρ, A, q⟩ => ?_⟩
  refine lift_lc2 hi B hv σ H _ ⟨M, ρ, A, wLc2_mono hi B ρ _ _ (fun xs ρ' q' => ?_) q⟩
  intro M' p vs H' A' S' N'
  obtain ⟨A2, S2, r2⟩ := A'.drop N'
  exact q' _ _ H' (A2.store r2) (S'.trans S2)
end
end AL
set_option Elab.async false
set_option linter.all false
set_option maxRecDepth 100000
set_option maxHeartbeats 1000000
namespace AL
open PySem PySem.Spec PyProof.Rows L2
/-! ### min of data -/
theorem lt_trans {a b c : PyData} (h1 : PySem.W.dataLt a b = true) (h2 : PySem.W.dataLt b c = true) : PySem.W.dataLt a c = true := PyProof.Rows.lex_trans _ _ _ h1 h2
theorem lt_irr (a : PyData) : PySem.W.dataLt a a = false := PyProof.Rows.lex_irrefl _
theorem minD_least : ∀ (xs : List PyData) (x : PyData), (∀ e ∈ x :: xs, PySem.W.dataLt e (PySem.W.minD x xs) = false) ∧ (PySem.W.minD x xs ∈ x :: xs)
  | [], x => ⟨fun e he => by rw [List.mem_singleton.mp he]; exact lt_irr x, List.mem_cons_self⟩
  | y :: xs, x => by
    have e1 : PySem.W.minD x (y :: xs) = PySem.W.minD (if PySem.W.dataLt y x then y else x) xs := rfl
    obtain ⟨h1, h2⟩ := minD_least xs (if PySem.W.dataLt y x then y else x)
    rw [e1]
    generalize PySem.W.minD (if PySem.W.dataLt y x then y else x) xs = m at *
    cases hyx : PySem.W.dataLt y x with
    | true =>
      rw [hyx] at h1 h2
      have hy := h1 y (by rw [if_pos rfl]; exact List.mem_cons_self)
      refine ⟨fun e he => ?_, ?_⟩
      · rcases List.mem_cons.mp he with rfl | he
        · cases hem : PySem.W.dataLt e m with
          | false => rfl
          | true => rw [lt_trans hyx hem] at hy; cases hy
        · rcases List.mem_cons.mp he with rfl | he
          · exact hy
          · exact h1 e (List.mem_cons_of_mem _ he)
      · rw [if_pos rfl] at h2
        exact List.mem_cons_of_mem _ h2
    | false =>
      rw [hyx] at h1 h2
      have hx := h1 x (by rw [if_neg Bool.false_ne_true]; exact List.mem_cons_self)
      refine ⟨fun e he => ?_, ?_⟩
      · rcases List.mem_cons.mp he with rfl | he
        · exact hx
        · rcases List.mem_cons.mp he with rfl | he
          · cases hem : PySem.W.dataLt e m with
            | false => rfl
            | true =>
              -- m is x or lies behind; x is not above m, e is not below x
              rw [if_neg Bool.false_ne_true] at h2
              have key : PySem.W.dataLt e x = true ∨ PySem.W.dataLt x m = true := PyProof.Rows.lex_negTrans _ _ _ hem
              rcases key with k | k
              · rw [k] at hyx; cases hyx
              · rw [k] at hx; cases hx
          · exact h1 e (List.mem_cons_of_mem _ he)
      · rw [if_neg Bool.false_ne_true] at h2
        rcases List.mem_cons.mp h2 with z | z
        · rw [z]; exact List.mem_cons_self
        · exact List.mem_cons_of_mem _ (List.mem_cons_of_mem _ z)
theorem dps_get {K : PySem.W.Frag} {H : Hp} : ∀ {vs : List V} {ds : List PyData}, DpAll K H vs ds → vs.length = ds.length
  | _, _, .nil => rfl
  | _, _, .cons _ t => by rw [List.length_cons, List.length_cons, dps_get t]
def rMinDat (K : PySem.W.Frag) : List V → Hp → VK → Prop := fun vs H Q => ∃ (a : Addr) (ys : List V) (ds : List PyData), vs = [V.ref a] ∧ SqL K H a ys ∧ DpAll K H ys ds ∧ PySem.W.AlikeAll ds ∧ PyData.depthAll ds ≤ 60 ∧ ds ≠ [] ∧
  ∀ (i : Nat) (v : V) (d : PyData), ys[i]? = some v → ds[i]? = some d → (∀ e ∈ ds, PySem.W.dataLt e d = false) → Q v H
def rMinDef (K : PySem.W.Frag) : List V → List V → Hp → VK → Prop := fun vs zs H Q => ∃ (a : Addr) (ys : List V) (ds : List PyData) (z : V), vs = [V.ref a] ∧ zs = [z] ∧ SqL K H a ys ∧ DpAll K H ys ds ∧ PySem.W.AlikeAll ds ∧ PyData.depthAll ds ≤ 60 ∧ (ds = [] → Q z H) ∧
  ∀ (i : Nat) (v : V) (d : PyData), ys[i]? = some v → ds[i]? = some d → (∀ e ∈ ds, PySem.W.dataLt e d = false) → Q v H
section
variable {X : Cx}
theorem min_fin {pins : List (Addr × Obj)} {σ : L2.St} {H : Hp} {s : Shared} {ys : List V} {its : List Value} {y : PyData} {yr : List PyData} {as : List Addr} {Q : VK} (I : Inv X pins σ H s) (rv : Vals ys its) (hr : ReadsAll s.heap its (y :: yr) as)
    (q : ∀ (i : Nat) (v : V) (d : PyData), ys[i]? = some v → (y :: yr)[i]? = some d → (∀ e ∈ y :: yr, PySem.W.dataLt e d = false) → Q v H)
    (i : Nat) (v : Value) (h' : Heap) (tk : Nat) (bs : List Addr) (hv : its.toArray[i]? = some v) (hm : Reads h' v (PySem.W.minD y yr) bs) (kp : ∀ b o, s.heap.get? b = some o → h'.get? b = some o) : EP X pins σ Q v { s with heap := h', toks := tk } := by
  have hv2 : its[i]? = some v := by rw [← hv, List.getElem?_toArray]
  obtain ⟨cs, r, hlt, _, _⟩ := PySem.W.readsAll_at hr i v hv2
  have e1 : (y :: yr).getD i .none = PySem.W.minD y yr := ((PySem.Reads.unique (PySem.W.reads_keeps kp r)) _ _ hm).1
  have hd : (y :: yr)[i]? = some (PySem.W.minD y yr) := by
    rw [List.getElem?_eq_getElem hlt]
    rw [List.getD_eq_getElem?_getD, List.getElem?_eq_getElem hlt] at e1
    exact congrArg some e1
  have hyl : i < ys.length := by
    rw [rv.length]
    exact (List.getElem?_eq_some_iff.mp hv2).1
  obtain ⟨u, hu, ru⟩ := rv.get (List.getElem?_eq_getElem hyl)
  rw [hv2] at hu
  cases hu
  exact ⟨ys[i], H, I.kept (t' := tk) kp, ru, q i _ _ (List.getElem?_eq_getElem hyl) hd (minD_least yr y).1⟩
theorem cr_minDat (hc : X.calm = true) (hu : X.A.units + 64 < cLine) : CallR X (.builtin "min") (rMinDat X.K) := by
  intro pins s σ H vs us Q I r h
  obtain ⟨a, ys, ds, rfl, hs, hd, hal, hdp, hne, q⟩ := h
  obtain ⟨its, rv, hl, hz⟩ := I.list hs
  rw [Vals.ref1 r]
  obtain ⟨as, hr⟩ := Dp.readsAll I ds ys its hd rv
  cases ds with
  | nil => exact absurd rfl hne
  | cons y yr => exact PySem.W.min_list_data (I.ok.hd hc) hl.isList (by rw [List.toList_toArray]; exact hr) hal (by omega) (fun i v h' tk bs hv hm kp => min_fin I rv hr q i v h' tk bs hv hm kp)
theorem cr_minDef (hc : X.calm = true) (hu : X.A.units + 64 < cLine) : CallRK X (.builtin "min") [Str.ofString "default"] (rMinDef X.K) := by
  intro pins s σ H vs zs us ws Q I r rz h
  obtain ⟨a, ys, ds, z, rfl, rfl, hs, hd, hal, hdp, q0, q⟩ := h
  obtain ⟨its, rv, hl, hz⟩ := I.list hs
  obtain rfl := Vals.ref1 r
  obtain ⟨w1, rfl, e1⟩ := vals1 rz
  obtain ⟨as, hr⟩ := Dp.readsAll I ds ys its hd rv
  refine PySem.W.min_list_default (xs := ds) (I.ok.hd hc) hl.isList (by rw [List.toList_toArray]; exact hr) hal (by omega) (fun e h' tk kp => ⟨z, H, I.kept (t' := tk) kp, e1, q0 e⟩) fun y yr i v h' tk bs e hv hm kp => ?_
  subst e
  exact min_fin I rv hr q i v h' tk bs hv hm kp
end
theorem pys_map (ds : List D) : D.pys ds = ds.map D.py := by
  induction ds with
  | nil => rfl
  | cons d r ih => show d.py :: D.pys r = _; rw [ih]; rfl
structure OkMin (ds : List D) : Prop where
  pl : D.plains ds = true
  al : ∀ x ∈ ds, ∀ y ∈ ds, PySem.W.alike x.py y.py = true
  nn : ∀ x ∈ ds, x.py ≠ .none
  dp : PyData.depthAll (D.pys ds) ≤ 60
theorem OkMin.all {ds : List D} (h : OkMin ds) : PySem.W.AlikeAll (D.pys ds) := by
  rw [pys_map]
  refine ⟨fun x hx y hy => ?_, fun x hx => ?_⟩
  · obtain ⟨a, ha, rfl⟩ := List.mem_map.mp hx
    obtain ⟨b, hb, rfl⟩ := List.mem_map.mp hy
    exact h.al a ha b hb
  · obtain ⟨a, ha, rfl⟩ := List.mem_map.mp hx
    exact h.nn a ha
def least (ds : List D) (d : D) : Prop := d ∈ ds ∧ ∀ e ∈ ds, PySem.W.dataLt e.py d.py = false
def kMinD : K1 := fun x P => ∃ ds, x = .lst ds ∧ ds ≠ [] ∧ OkMin ds ∧ ∀ d, least ds d → P d
theorem kMinD_mono : Mono1 kMinD := fun x P P' h ⟨ds, e, a, b, q⟩ => ⟨ds, e, a, b, fun d hd => h _ (q d hd)⟩
theorem least_of {K : PySem.W.Frag} {M : Addr → Prop} {H : Hp} {vs : List V} {ds : List D} (r : RpAll K M H vs ds) {i : Nat} {v : V} {d : PyData} (h1 : vs[i]? = some v) (h2 : (D.pys ds)[i]? = some d) (h3 : ∀ e ∈ D.pys ds, PySem.W.dataLt e d = false) : ∃ x, least ds x ∧ Rp K M H v x := by
  obtain ⟨x, hx, rx⟩ := r.getV h1
  rw [pys_map, List.getElem?_map, hx] at h2
  cases h2
  refine ⟨x, ⟨List.mem_of_getElem? hx, fun e he => h3 _ ?_⟩, rx⟩
  rw [pys_map]
  exact List.mem_map.mpr ⟨e, he, rfl⟩
theorem kMinD_op {K : PySem.W.Frag} : Op1L K (rMinDat K) kMinD := fun M H v x P Q r _ q fin => by
  obtain ⟨ds, rfl, hne, ok, q⟩ := q
  obtain ⟨a, vs, rfl, ha, ra⟩ := r.lst
  refine ⟨a, vs, D.pys ds, rfl, .of ha, RpAll.dp ok.pl ra, ok.all, ok.dp, fun e => hne (by rw [pys_map] at e; exact List.map_eq_nil_iff.mp e), fun i v d h1 h2 h3 => ?_⟩
  obtain ⟨x, lx, rx⟩ := least_of ra h1 h2 h3
  exact fin _ _ H (q x lx) (Same.refl H) rx
section
variable {X : Cx} {Φ : Cl} [ok : ClOk Φ] {pos : Pos} {e a b c : Expr} {wa wb wc : WE} {M : Addr → Prop} {σ : L2.St} {H : Hp} {ρ : Ev}
/-- min(xs, default=d) -/
def wMinDef (wl : WA) (wz : WE) : WE := fun ρ Q => wl ρ fun ds ρ1 => wz ρ1 fun z ρ2 => OkMin ds ∧ (ds = [] → Q z ρ2) ∧ ∀ d, least ds d → Q d ρ2
theorem qe_minDef {x : Str} {p : Pos} {wl : WA} {kpos : Pos} (hK : X.K = Φ.K) (hc : X.calm = true) (hu : X.A.units + 64 < cLine) (hg : Gl X x) (hm : X.mg x = none) (hv : bootBuiltins x = some (.builtin "min")) (ha : QF X Φ a wl) (hb : QE X Φ b wb) (hn : x ≠ "__name__" := by decide) (hdb : (x == ("__debug__" : Str)) = false := by decide)
    (na : starEach (a :: []) X.env = (false, eval a X.env) :: starEach [] X.env := by rfl)
    (he : backTo pos (starEach [a] X.env) = (false, eval a X.env) :: backTo pos (starEach [] X.env) := by rfl) (hpl : (backTo pos (starEach [a] X.env)).any (·.1) = false := by rfl)
    (hall : (backToKw pos (keywordEach [⟨some (Str.ofString "default"), b, kpos⟩] X.env)).all (·.1.isSome) = true := by rfl) (hnone : (backToKw pos (keywordEach [⟨some (Str.ofString "default"), b, kpos⟩] X.env)).any (·.1.isNone) = false := by rfl) (hks : (backToKw pos (keywordEach [⟨some (Str.ofString "default"), b, kpos⟩] X.env)).filterMap (·.1) = [Str.ofString "default"] := by rfl) :
    QE X Φ (.Call (.Name x p) [a] [⟨some (Str.ofString "default"), b, kpos⟩] pos) (wMinDef wl wb) := by
  refine ⟨fun ρ Q Q' h q => ha.mono ρ _ _ (fun ds ρ1 q1 => hb.mono ρ1 _ _ (fun z ρ2 q2 => ⟨q2.1, fun e => h _ _ (q2.2.1 e), fun d hd => h _ _ (q2.2.2 d hd)⟩) q1) q, PEw (pe_callBK (cr_minDef hc hu) hg hm hv (pa_cons (QF.qe ha).run pa_nil na) (pk_cons hb.run pk_nil) hn hdb he hpl hall hnone hks) fun σ H Q ⟨M, ρ, A, q⟩ => ?_⟩
  refine ⟨M, ρ, A, ha.mono ρ _ _ (fun ds ρ1 q1 => ?_) q⟩
  intro M1 v H1 A1 S1 r1
  refine ⟨M1, ρ1, A1, hb.mono ρ1 _ _ (fun z ρ2 q2 => ?_) q1⟩
  intro M2 u H2 A2 S2 r2
  obtain ⟨ok, q0, q3⟩ := q2
  obtain ⟨a, vs, rfl, hh, ra⟩ := RpB.lst (.inl (r1.step S2))
  rw [hK]
  refine ⟨a, vs, D.pys ds, u, rfl, rfl, .of hh, RpAll.dp ok.pl ra, ok.all, ok.dp, fun e => ?_, fun i v d h1 h2 h3 => ?_⟩
  · exact q0 (by rw [pys_map] at e; exact List.map_eq_nil_iff.mp e) M2 _ _ A2 (S1.trans S2) r2
  · obtain ⟨x, lx, rx⟩ := least_of ra h1 h2 h3
    exact q3 x lx M2 _ _ A2 (S1.trans S2) rx
end
end AL
set_option Elab.async false
set_option linter.all false
set_option maxRecDepth 100000
set_option maxHeartbeats 1000000
namespace AL
open PySem PySem.Spec PyProof.Rows L2
theorem room65 {k : Nat} {A : Around} (r : Room k A) : A.units + 65 < cLine := by have := r.un; omega
/-- x in xs, x not in xs: by their data -/
def kInD (neg : Bool) : K2 := fun x y P => match y with
  | .lst xs => okD x = true ∧ okD (.lst xs) = true ∧ P (.bl (if neg then !xs.any fun z => eqD z x else xs.any fun z => eqD z x))
  | _ => False
theorem kInD_mono {neg : Bool} : Mono2 (kInD neg) := fun x y P P' h q => by
  cases y <;> first | exact q.elim | exact ⟨q.1, q.2.1, h _ q.2.2⟩
theorem okD_split {d : D} (h : okD d = true) : d.plain = true ∧ SeqAt.shaped d.py = true := Bool.and_eq_true_iff.mp h
theorem any_py (xs : List D) (x : D) : ((D.pys xs).any fun z => PyData.eqv z x.py) = xs.any fun z => eqD z x := by
  rw [pys_map, List.any_map]; rfl
theorem kIn_opD {K : PySem.W.Frag} : Op2 K (rInD K) (kInD false) := fun M H v u x y P Q r1 r2 hM q fin => by
  cases y with
  | lst xs =>
    obtain ⟨o1, o2, q⟩ := q
    obtain ⟨p1, s1⟩ := okD_split o1
    obtain ⟨p2, s2⟩ := okD_split o2
    refine ⟨x.py, D.pys xs, r1.dp p1, r2.dp p2, s1, s2, ?_⟩
    rw [any_py]
    exact fin _ _ H q (Same.refl H) (.bl _)
  | _ => exact q.elim
theorem kNotIn_opD {K : PySem.W.Frag} : Op2 K (rNotInD K) (kInD true) := fun M H v u x y P Q r1 r2 hM q fin => by
  cases y with
  | lst xs =>
    obtain ⟨o1, o2, q⟩ := q
    obtain ⟨p1, s1⟩ := okD_split o1
    obtain ⟨p2, s2⟩ := okD_split o2
    refine ⟨x.py, D.pys xs, r1.dp p1, r2.dp p2, s1, s2, ?_⟩
    rw [any_py]
    exact fin _ _ H q (Same.refl H) (.bl _)
  | _ => exact q.elim
section
variable {X : Cx} {Φ : Cl} [ok : ClOk Φ] {pos : Pos} {e a b c : Expr} {wa wb wc : WE} {M : Addr → Prop} {σ : L2.St} {H : Hp} {ρ : Ev}
/-- xs.index(x) -/
def isIdx (l x : D) (P : D → Prop) : Prop := match l with
  | .lst xs => okD (.lst xs) = true ∧ okD x = true ∧ ∃ (j : Nat) (z : D), xs[j]? = some z ∧ eqD z x = true ∧ (∀ (m : Nat) (z' : D), m < j → xs[m]? = some z' → eqD z' x = false) ∧ P (.int (j : Nat))
  | _ => False
theorem isIdx_mono {l x : D} {P P' : D → Prop} (h : ∀ z, P z → P' z) (q : isIdx l x P) : isIdx l x P' := by
  cases l <;> first | exact q.elim | exact (let ⟨a, b, j, z, c, d, e, p⟩ := q; ⟨a, b, j, z, c, d, e, h _ p⟩)
def wIdx (i : Nat) (wa : WE) : WE := fun ρ Q => valE ρ[i]? fun l0 => (∃ xs, l0 = .lst xs) ∧ wa ρ fun x ρ1 => valE ρ1[i]? fun l => isIdx l x fun z => Q z ρ1
theorem qe_index {i : Nat} {x : Str} {p : Pos} (hK : X.K = Φ.K) (hN : X.N[i]? = some x) (hv : Vis X.env.scope x) (ha : QE X Φ e wa) (hd : (x == ("__debug__" : Str)) = false := by decide) (hcd : (x == ("__classdict__" : Str)) = false := by decide)
    (mk : ∀ ta tb, PE X (.Name x p) ta → PA X [e] tb → PE X c (tBM X.K "list" (rIndexD X.K) ta tb)) (hs : starEach (e :: []) X.env = (false, eval e X.env) :: starEach [] X.env := by rfl) : QE X Φ c (wIdx i wa) := by
  refine ⟨fun ρ Q Q' h q => valE_mono (fun l p => ⟨p.1, ha.mono ρ _ _ (fun x ρ1 q1 => valE_mono (fun l p => isIdx_mono (fun z p => h _ _ p) p) q1) p.2⟩) q, PEw (mk _ _ (pe_var hN hv hd hcd) (pa_cons ha.run pa_nil hs)) fun σ H Q ⟨M, ρ, A, q⟩ => ?_⟩
  obtain ⟨v, l0, es, r0, ⟨xs0, rfl⟩, q⟩ := valE_rp A q
  obtain ⟨a0, vs0, rfl, hh0, rr0⟩ := r0.lst
  refine ⟨.ref a0, es, .inl ⟨rfl, _, SqL.of hh0⟩, M, ρ, A, ha.mono ρ _ _ (fun x ρ1 q1 => ?_) q⟩
  intro M1 u H1 A1 S1 r1
  obtain ⟨v1, l1, es1, r2, q2⟩ := valE_rp A1 q1
  rw [es] at es1; cases es1
  cases l1 with
  | lst xs =>
    obtain ⟨o1, o2, j, z, hz, hj, hno, p⟩ := q2
    obtain ⟨p1, s1⟩ := okD_split o1
    obtain ⟨p2, s2⟩ := okD_split o2
    obtain ⟨a1, vs1, e1, hh1, rr1⟩ := r2.lst
    cases e1
    rw [hK]
    refine ⟨a0, u, x.py, D.pys xs, j, z.py, rfl, rfl, r2.dp p1, RpB.dp p2 (.inl r1), s1, s2, by rw [pys_map, List.getElem?_map, hz]; rfl, hj, fun m z' hm hz' => ?_, p M1 _ _ A1 S1 (.int _)⟩
    rw [pys_map, List.getElem?_map] at hz'
    cases h : xs[m]? with
    | none => rw [h] at hz'; cases hz'
    | some w =>
      rw [h] at hz'
      cases hz'
      exact hno m w hm h
  | _ => exact q2.elim
end
end AL
set_option Elab.async false
set_option linter.all false
set_option maxRecDepth 100000
set_option maxHeartbeats 4000000
/-! sorted(xs), xs tuples of numbers, the first of them empty: the same in some order -/
namespace SRT
open PySem PySem.Spec PyProof.Rows L2
def IsNums (h : Heap) (v : Value) (ns : List Int) : Prop := ∃ a items, v = .ref a ∧ IsTup h a items ∧ IntsAre items.toList ns
theorem IsNums.keeps {h h' : Heap} {v : Value} {ns : List Int} (p : IsNums h v ns) (k : ∀ b o, h.get? b = some o → o.cls = .type "tuple" → h'.get? b = some o) : IsNums h' v ns := by
  obtain ⟨a, items, e, ⟨o, ho, hc, r⟩, hi⟩ := p
  exact ⟨a, items, e, ⟨o, k _ _ ho hc, hc, r⟩, hi⟩
section
variable {prog : Program} {w : World} {A : Around} {E : Value → Shared → Prop} {s : Shared}
theorem first_ {v : Value} {ns : List Int} {Q : Option Value → Shared → Prop} (p : IsNums s.heap v ns) (h : ∀ o : Option Value, (ns = [] → o = none) → Q o s) : wpAny (model prog w) A (firstOfTuple' v) Q E s := by
  obtain ⟨a, items, rfl, ⟨o, ho, hc, n, hd⟩, hi⟩ := p
  rw [PySem.W.kas_first_eq]
  refine wpAny_bind (PySem.W.Looks.here (show PySem.W.Looks (model prog w) s.heap (typeOf (.ref a)) o.cls from (PySem.W.Looks.ld ho).andThen .now) ?_)
  rw [hc, if_neg (by first | decide | simp)]
  refine wpAny_bind (listItems_at ho hd (wpAny_pure (h _ fun e => ?_)))
  subst e
  cases hi' : items with
  | mk l =>
    rw [hi'] at hi
    cases hi
    rfl
theorem firsts_ : ∀ (vs : List Value) {Q : List (Option Value) → Shared → Prop}, (∀ v ∈ vs, ∃ ns, IsNums s.heap v ns) → (∀ os : List (Option Value), os.length = vs.length → Q os s) → wpAny (model prog w) A (vs.mapM firstOfTuple') Q E s
  | [], Q, _, h => by rw [List.mapM_nil]; exact wpAny_pure (h [] rfl)
  | v :: vs, Q, hp, h => by
    obtain ⟨ns, p⟩ := hp v List.mem_cons_self
    rw [List.mapM_cons]
    refine wpAny_bind (first_ p fun o _ => ?_)
    exact wpAny_bind (firsts_ vs (Q := fun bs s' => wpAny (model prog w) A (pure (o :: bs)) Q E s') (fun u hu => hp u (List.mem_cons_of_mem _ hu)) fun os ho => wpAny_pure (h _ (by rw [List.length_cons, List.length_cons, ho])))
theorem kind_ {v : Value} {vs : List Value} {Q : SortKind → Shared → Prop} (p0 : IsNums s.heap v []) (hp : ∀ u ∈ v :: vs, ∃ ns, IsNums s.heap u ns) (h : Q oneType' s) : wpAny (model prog w) A (keyKind' (v :: vs).toArray) Q E s := by
  rw [keyKind'_eq, List.mapM_toArray, map_eq_pure_bind, List.mapM_cons]
  refine wpAny_bind (wpAny_bind (wpAny_bind (first_ p0 fun o ho => ?_)))
  have ho := ho rfl
  subst ho
  refine wpAny_bind (firsts_ vs (fun u hu => hp u (List.mem_cons_of_mem _ hu)) fun os hos => wpAny_pure (wpAny_pure ?_))
  have h1 : ¬ ((none :: os).toArray.all fun (x : Option Value) => x.isSome) = true := by simp
  have h2 : ¬ (((none :: os).toArray[0]?.bind id : Option Value).isSome = true) := by simp
  rw [if_neg h1, if_neg h2, oneTypeOnly'_eq, List.mapM_toArray, map_eq_pure_bind]
  refine wpAny_bind (wpAny_bind (wpAny_bind (PySem.W.kas_mapM (r := Value.type "tuple") _ (fun u hu Q' hq => ?_) (wpAny_pure ?_))))
  · obtain ⟨ns, a, items, rfl, ⟨o, ho, hc, r⟩, hi⟩ := hp u hu
    refine PySem.W.Looks.here (show PySem.W.Looks (model prog w) s.heap (typeOf (.ref a)) o.cls from (PySem.W.Looks.ld ho).andThen .now) ?_
    rw [hc]
    exact hq
  have hall : ((List.map (fun _ => Value.type "tuple") (v :: vs)).toArray.all fun x => x == Value.type "tuple") = true := by
    simp only [List.all_toArray, List.all_map, List.all_eq_true]
    intro _ _
    rfl
  have h0 : (List.map (fun _ => Value.type "tuple") (v :: vs)).toArray[0]? = some (Value.type "tuple") := by simp
  rw [h0]
  simp only [hall, if_true]
  exact wpAny_pure (wpAny_pure h)
theorem one_ {v u : Value} {ns ms : List Int} {Q : Bool → Shared → Prop} (hu : A.units < cLine) (p : IsNums s.heap v ns) (q : IsNums s.heap u ms) (h : Q (HT.lexLt ns ms) s) : wpAny (model prog w) A (oneLt' true v u) Q E s := by
  obtain ⟨a, items, rfl, h1, hi⟩ := p
  obtain ⟨b, items2, rfl, h2, hj⟩ := q
  obtain ⟨⟨cls, dd, data, sl⟩, ho, hc, n, hd⟩ := id h1
  obtain ⟨⟨cls2, dd2, data2, sl2⟩, ho2, hc2, n2, hd2⟩ := id h2
  simp only at hc hd hc2 hd2
  subst hc hd hc2 hd2
  rw [oneLt'_eq]
  simp only [if_true]
  refine wpAny_bind (wpAny_cRoomFor hu ?_)
  refine wpAny_bind (wpAny_callSpecialIfBound?_slot ⟨_, ho, rfl⟩ PySem.F.slot_tuple_lt (call_meets PySem.F.slot_tuple_lt ⟨_, ho, rfl⟩ PySem.F.entry_tuple_lt (PySem.F.args_tuple_lt_2 _ _) (HT.tuple_lt_ints a b items items2 n n2 dd dd2 sl sl2 ns ms hi hj) ⟨ho, ho2, ?_⟩))
  exact wpAny_truthy_bool h
end
section
variable {prog : Program} {w : World} {A : Around} {s : Shared}
theorem tot_ {vs : List Value} (hu : A.units < cLine) (hp : ∀ v ∈ vs, ∃ ns, IsNums s.heap v ns) : Srt.Tot prog w A s oneType' (fun p => p.1 ∈ vs) := by
  intro p q hm hm'
  obtain ⟨ns, h1⟩ := hp _ hm
  obtain ⟨ms, h2⟩ := hp _ hm'
  exact ⟨HT.lexLt ns ms, one_ hu h1 h2 ⟨rfl, rfl⟩⟩
end
end SRT
set_option Elab.async false
set_option linter.all false
set_option maxRecDepth 100000
set_option maxHeartbeats 4000000
/-! sorted(xs) of tuples of numbers, the first of them empty: as a rule of the layer, with its order -/
namespace SRT
open PySem PySem.Spec PyProof.Rows L2
section
variable {prog : Program} {w : World} {A : Around} {s : Shared}
theorem cmp_ {vs : List Value} {k : Value → List Int} (hu : A.units < cLine) (hp : ∀ v ∈ vs, IsNums s.heap v (k v)) : SrtO.Cmp prog w A s oneType' (fun p => p.1 ∈ vs) (SrtO.lt2 fun v u => HT.lexLt (k v) (k u)) := by
  intro p q hm hm'
  show wpAny (model prog w) A (keyLt' oneType' p.1 q.1) (fun r s' => s' = s ∧ r = HT.lexLt (k p.1) (k q.1)) (fun _ _ => False) s
  rw [keyLt'_oneType]
  exact one_ hu (hp _ hm) (hp _ hm') ⟨rfl, rfl⟩
theorem sortable_ {a : Addr} {v : Value} {vs : List Value} {k : Value → List Int} (hu : A.units < cLine) (h0 : k v = []) (hp : ∀ u ∈ v :: vs, IsNums s.heap u (k u)) (ha : ∀ o, s.heap.get? a = some o → o.cls ≠ .type "tuple") : SrtO.SortableO prog w A s a (v :: vs) fun v u => HT.lexLt (k v) (k u) := by
  intro h' keep
  have hp' : ∀ u ∈ v :: vs, IsNums h' u (k u) := fun u hm => (hp u hm).keeps fun b o e c => keep b o (fun z => by subst z; exact ha o e c) e
  refine ⟨oneType', fun Q E hq => ?_, cmp_ (s := { s with heap := h' }) hu hp'⟩
  refine kind_ (s := { s with heap := h' }) ?_ (fun u hm => ⟨_, hp' u hm⟩) hq
  have := hp' v List.mem_cons_self
  rwa [h0] at this
end
end SRT
namespace L2
open PySem PySem.Spec PyProof.Rows
abbrev ltN (k : V → List Int) (x y : V) : Bool := HT.lexLt (k x) (k y)
/-- sorted(xs): tuples of numbers, the first of them empty -/
def rSortedN (K : PySem.W.Frag) : List V → Hp → VK → Prop := fun vs H Q => ∃ (a : Addr) (x : V) (xs : List V) (k : V → List Int), vs = [V.ref a] ∧ SqL K H a (x :: xs) ∧ k x = [] ∧ (∀ y ∈ x :: xs, ∃ t, y = V.ref t ∧ H t = some (.tup ((k y).map .int))) ∧
  ∀ ys p, SrtO.Srtd (ltN k) ys → ys.Perm (x :: xs) → H p = none → Q (.ref p) (upd H p (.lst ys))
section
variable {X : Cx}
theorem cr_sortedN (hu : X.A.units + 64 < cLine) : CallR X (.builtin "sorted") (rSortedN X.K) := by
  intro pins s σ H vs us Q I r h
  obtain ⟨a, x, xs, k, rfl, hs, h0, hx, q⟩ := h
  obtain ⟨its, rv, hl, hz⟩ := I.list hs
  obtain ⟨u, rfl, ru⟩ := vals1 r
  obtain rfl : u = Value.ref a := ru
  obtain ⟨e1, e2⟩ := refs_back rv fun y m => by
    obtain ⟨t, e, _⟩ := hx y m
    exact ⟨t, e⟩
  have hp : ∀ v ∈ its, SRT.IsNums s.heap v (k (backV v)) := fun v hv => by
    obtain ⟨t, rfl⟩ := e2 v hv
    have hm : V.ref t ∈ x :: xs := by rw [e1]; exact List.mem_map.mpr ⟨_, hv, rfl⟩
    obtain ⟨t', e, ht⟩ := hx _ hm
    cases e
    obtain ⟨_, its2, r2, o, ho, hc, n, hd⟩ := I.hok _ _ ht
    exact ⟨t, its2.toArray, rfl, ⟨o, ho, hc, n, hd⟩, by rw [List.toList_toArray]; exact Vals.ints r2⟩
  cases its with
  | nil => cases rv
  | cons v vs =>
    have hk0 : k (backV v) = [] := by rw [List.map_cons] at e1; rw [← (List.cons.inj e1).1]; exact h0
    refine SrtO.sorted_ord (ltv := fun v u => HT.lexLt (k (backV v)) (k (backV u))) (NtL.swo_lexL fun v => k (backV v)) hl.isList (by rw [← rv.length]; exact hz) (fun h2 h₁ a' ha' kk => ?_) fun out h1 h2 => ?_
    · refine SRT.sortable_ (s := { s with heap := h₁ }) (k := fun v => k (backV v)) (Nat.lt_of_le_of_lt (by show X.A.units + 1 + 1 ≤ X.A.units + 64; omega) hu) hk0 (fun u hm => (hp u hm).keeps fun b o e _ => (kk b o e).2) fun o e => ?_
      have e' : some o = some (seqObj "list" (v :: vs).toArray 0) := e.symm.trans ha'
      cases e'
      intro c
      exact absurd (Value.type.inj c) (by decide)
    · have h3 : ∀ u ∈ out, ∃ a, u = Value.ref a := fun u hu => e2 u (h2.perm.mem_iff.mp hu)
      obtain ⟨ep, he'⟩ := PyProof.Rows.sortedAll_at s.heap (v :: vs) out.toArray
      have hb : (out.map backV).Perm (x :: xs) := by
        rw [e1]
        exact h2.perm.map backV
      refine ⟨.ref _, upd H (s.heap.objs.size + 1) (.lst (out.map backV)), I.laid (t' := s.toks) (fun _ _ => PyProof.Rows.sortedAll_old) (Nat.le_succ _) ⟨?_, out, ep, vals_back h3, he'⟩, rfl, q _ _ (SrtO.srtd_map (lt := ltN k) (f := backV) h1) hb (I.hok.fresh (Nat.le_succ _))⟩
      rw [hb.length_eq]
      exact hz
end
end L2
namespace AL
open PySem PySem.Spec PyProof.Rows L2
def intsT (ns : List Int) : D := .tup (ns.map D.int)
def lexL (p q : List Int) : Prop := HT.lexLt q p = false
/-- sorted(tuples of numbers, the first empty): a new list, in order -/
def kSortT : KF := fun x P => ∃ nss : List (List Int), x = .lst (([] :: nss).map intsT) ∧ ∀ mss : List (List Int), mss.Perm ([] :: nss) → mss.Pairwise lexL → P (mss.map intsT)
theorem kSortT_mono : MonoF kSortT := fun x P P' h ⟨ns, e, q⟩ => ⟨ns, e, fun m a b => h _ (q m a b)⟩
/-- the numbers that stand at an address -/
noncomputable def numsAt (H : Hp) : V → List Int
  | .ref a => match H a with
    | some (.tup vs) => vs.map fun v => match v with
      | .int i => i
      | _ => 0
    | _ => []
  | _ => []
theorem numss_rp {K : PySem.W.Frag} {M : Addr → Prop} {H : Hp} : ∀ {ps : List (List Int)} {vs : List V}, RpAll K M H vs (ps.map intsT) → ps = vs.map (numsAt H) ∧ ∀ x ∈ vs, ∃ t, x = V.ref t ∧ H t = some (.tup ((numsAt H x).map .int))
  | [], _, .nil => ⟨rfl, fun _ h => nomatch h⟩
  | ns :: ps, _, .cons (v := v) r t => by
    obtain ⟨e, h⟩ := numss_rp t
    have hv : ∃ a, v = .ref a ∧ H a = some (.tup (ns.map .int)) := by
      have r' : Rp K M H v (.tup (ns.map D.int)) := r
      cases r' with
      | tup hh rr => rw [rp_ints rr] at hh; exact ⟨_, rfl, hh⟩
    obtain ⟨a, rfl, ha⟩ := hv
    have pa : numsAt H (.ref a) = ns := by
      unfold numsAt
      simp only [ha, List.map_map]
      exact (List.map_congr_left fun _ _ => rfl).trans (List.map_id ns)
    refine ⟨by rw [List.map_cons, pa, ← e], fun x hx => ?_⟩
    rcases List.mem_cons.mp hx with rfl | hx
    · exact ⟨a, rfl, by rw [pa]; exact ha⟩
    · exact h x hx
theorem rp_numss {K : PySem.W.Frag} {M : Addr → Prop} {H : Hp} : ∀ {vs : List V}, (∀ x ∈ vs, ∃ t, x = V.ref t ∧ H t = some (.tup ((numsAt H x).map .int))) → RpAll K M H vs ((vs.map (numsAt H)).map intsT)
  | [], _ => .nil
  | v :: vs, h => by
    obtain ⟨t, e, ht⟩ := h v List.mem_cons_self
    refine .cons ?_ (rp_numss fun x hx => h x (List.mem_cons_of_mem _ hx))
    have g : H t = some (.tup ((numsAt H v).map .int)) := ht
    rw [e] at g ⊢
    exact .tup g (ints_rp _)
theorem kSortT_op {K : PySem.W.Frag} : OpF K (rSortedN K) kSortT := fun M H v x P Q r q fin => by
  obtain ⟨nss, rfl, q⟩ := q
  obtain ⟨a, vs, rfl, ha, ra⟩ := r.lst
  obtain ⟨e, hx⟩ := numss_rp ra
  cases vs with
  | nil => cases ra
  | cons v vs =>
    refine ⟨a, v, vs, numsAt H, rfl, .of ha, ?_, hx, fun ys p hs hb hp => ?_⟩
    · rw [List.map_cons] at e; exact ((List.cons.inj e).1).symm
    · refine fin _ ys p (q (ys.map (numsAt H)) (by rw [e]; exact hb.map _) (List.pairwise_map.mpr (hs.imp fun {x y} h => h))) hp (rp_numss fun x hx' => hx x (hb.mem_iff.mp hx'))
/-! ### a <= b of tuples of numbers -/
def lexLe' (ns ms : List Int) : Bool := Ob.lexAt (fun j => decide (ns.getD j 0 = ms.getD j 0)) (fun j => decide (ns.getD j 0 ≤ ms.getD j 0)) (decide (ns.length ≤ ms.length)) 0 (min ns.length ms.length)
theorem lexAt_step (e r : Nat → Bool) (z : Bool) : ∀ (k i : Nat), Ob.lexAt e r z (i + 1) k = Ob.lexAt (fun j => e (j + 1)) (fun j => r (j + 1)) z i k
  | 0, i => rfl
  | k + 1, i => by rw [Ob.lexAt_succ, Ob.lexAt_succ, lexAt_step e r z k (i + 1)]
theorem lexLe_nil (ms : List Int) : lexLe' [] ms = true := by unfold lexLe'; rw [List.length_nil, Nat.zero_min, Ob.lexAt_zero]; rfl
theorem lexLe_cons_nil (n : Int) (ns : List Int) : lexLe' (n :: ns) [] = false := by unfold lexLe'; rw [List.length_nil, Nat.min_zero, Ob.lexAt_zero]; rfl
theorem lexLe_cons (n m : Int) (ns ms : List Int) : lexLe' (n :: ns) (m :: ms) = if n = m then lexLe' ns ms else decide (n ≤ m) := by
  unfold lexLe'
  rw [List.length_cons, List.length_cons, Nat.succ_min_succ, Ob.lexAt_succ, lexAt_step]
  by_cases h : n = m
  · rw [if_pos h, if_pos (by exact decide_eq_true h)]
    have : decide (ns.length + 1 ≤ ms.length + 1) = decide (ns.length ≤ ms.length) := by
      by_cases q : ns.length ≤ ms.length
      · rw [decide_eq_true q, decide_eq_true (by omega)]
      · rw [decide_eq_false q, decide_eq_false (by omega)]
    rw [this]
    rfl
  · rw [if_neg h, if_neg (by rw [show (decide ((n :: ns).getD 0 0 = (m :: ms).getD 0 0)) = false from decide_eq_false h]; decide)]
    rfl
theorem lexLe_lt : ∀ ns ms : List Int, lexLe' ns ms = !HT.lexLt ms ns
  | [], ms => by rw [lexLe_nil]; cases ms <;> rfl
  | n :: ns, [] => by rw [lexLe_cons_nil]; rfl
  | n :: ns, m :: ms => by
    rw [lexLe_cons, HT.lexLt_cons]
    by_cases h : n = m
    · rw [if_pos h, if_pos h.symm]; exact lexLe_lt ns ms
    · rw [if_neg h, if_neg (fun e => h e.symm)]
      by_cases q : n ≤ m
      · rw [decide_eq_true q, decide_eq_false (by omega)]; rfl
      · rw [decide_eq_false q, decide_eq_true (by omega)]; rfl
def kLeT : K2 := fun x y P => ∃ ns ms : List Int, x = intsT ns ∧ y = intsT ms ∧ P (.bl (!HT.lexLt ms ns))
theorem kLeT_mono : Mono2 kLeT := fun x y P P' h ⟨ns, ms, e, f, q⟩ => ⟨ns, ms, e, f, h _ q⟩
end AL
set_option Elab.async false
set_option linter.all false
set_option maxRecDepth 100000
set_option maxHeartbeats 4000000
namespace AL
open PySem PySem.Spec PyProof.Rows L2
theorem kLeT_op {K : PySem.W.Frag} : Op2 K (rLeT K) kLeT := fun M H v u x y P Q r1 r2 hM q fin => by
  obtain ⟨ns, ms, rfl, rfl, q⟩ := q
  obtain ⟨a, vs, rfl, ha, ra⟩ := r1.tup
  obtain ⟨b, us, rfl, hb, rb⟩ := r2.tup
  have e1 := rp_ints ra
  have e2 := rp_ints rb
  subst e1 e2
  refine ⟨a, b, ns, ms, rfl, rfl, .of ha, .of hb, ?_⟩
  have e : Ob.lexAt (fun j => decide (ns.getD j 0 = ms.getD j 0)) (fun j => decide (ns.getD j 0 ≤ ms.getD j 0)) (decide (ns.length ≤ ms.length)) 0 (min ns.length ms.length) = !HT.lexLt ms ns := lexLe_lt ns ms
  rw [e]
  exact fin _ _ H q (Same.refl H) (.bl _)
section
variable {X : Cx} {Φ : Cl} [ok : ClOk Φ] {pos : Pos} {e a b c : Expr} {wa wb wc : WE} {M : Addr → Prop} {σ : L2.St} {H : Hp} {ρ : Ev}
/-- min(xs, default=None), xs a name -/
def wMinDefB (wl : WE) : WE := fun ρ Q => wl ρ fun x ρ1 => ∃ ds, x = .lst ds ∧ OkMin ds ∧ (ds = [] → Q .non ρ1) ∧ ∀ d, least ds d → Q d ρ1
theorem qe_minDefB {x : Str} {p npos : Pos} {wl : WE} {kpos : Pos} {j} (hK : X.K = Φ.K) (hc : X.calm = true) (hu : X.A.units + 64 < cLine) (hg : Gl X x) (hm : X.mg x = none) (hv : bootBuiltins x = some (.builtin "min")) (ha : QB X Φ a wl) (hn : x ≠ "__name__" := by decide) (hdb : (x == ("__debug__" : Str)) = false := by decide)
    (na : starEach (a :: []) X.env = (false, eval a X.env) :: starEach [] X.env := by rfl)
    (he : backTo pos (starEach [a] X.env) = (false, eval a X.env) :: backTo pos (starEach [] X.env) := by rfl) (hpl : (backTo pos (starEach [a] X.env)).any (·.1) = false := by rfl)
    (hall : (backToKw pos (keywordEach [⟨some (Str.ofString "default"), .Constant .none j npos, kpos⟩] X.env)).all (·.1.isSome) = true := by rfl) (hnone : (backToKw pos (keywordEach [⟨some (Str.ofString "default"), .Constant .none j npos, kpos⟩] X.env)).any (·.1.isNone) = false := by rfl) (hks : (backToKw pos (keywordEach [⟨some (Str.ofString "default"), .Constant .none j npos, kpos⟩] X.env)).filterMap (·.1) = [Str.ofString "default"] := by rfl) :
    QE X Φ (.Call (.Name x p) [a] [⟨some (Str.ofString "default"), .Constant .none j npos, kpos⟩] pos) (wMinDefB wl) := by
  refine ⟨fun ρ Q Q' h q => ha.mono ρ _ _ (fun x ρ1 ⟨ds, e, o, q1, q2⟩ => ⟨ds, e, o, fun z => h _ _ (q1 z), fun d hd => h _ _ (q2 d hd)⟩) q, PEw (pe_callBK (cr_minDef hc hu) hg hm hv (pa_cons ha.run pa_nil na) (pk_cons pe_non pk_nil) hn hdb he hpl hall hnone hks) fun σ H Q ⟨M, ρ, A, q⟩ => ?_⟩
  refine ⟨M, ρ, A, ha.mono ρ _ _ (fun x ρ1 q1 => ?_) q⟩
  intro M1 v H1 A1 S1 r1
  obtain ⟨ds, rfl, ok, q0, q3⟩ := q1
  obtain ⟨a, vs, rfl, hh, ra⟩ := r1.lst
  show rMinDef X.K [.ref a] [.non] H1 Q
  rw [hK]
  refine ⟨a, vs, D.pys ds, .non, rfl, rfl, .of hh, RpAll.dp ok.pl ra, ok.all, ok.dp, fun e => ?_, fun i v d h1 h2 h3 => ?_⟩
  · exact q0 (by rw [pys_map] at e; exact List.map_eq_nil_iff.mp e) M1 _ _ A1 S1 .non
  · obtain ⟨x, lx, rx⟩ := least_of ra h1 h2 h3
    exact q3 x lx M1 _ _ A1 S1 rx
end
/-- alike data, neither of which is less, are equal -/
theorem alike_tri {x y : PyData} (h : PySem.W.alike x y = true) (h1 : PySem.W.dataLt x y = false) (h2 : PySem.W.dataLt y x = false) : PyData.eqv x y = true := by
  have e := PyProof.Rows.lex_total _ _ h1 h2
  cases q : PyData.eqv x y with
  | true => rfl
  | false =>
    have z := (PySem.W.toks_eqv x y h).2 q [] [.inl 0]
    rw [List.append_nil, e] at z
    have z1 := PySem.W.lex_pre (PySem.W.keyToks y) [] [.inl 0]
    rw [List.append_nil] at z1
    have z2 := z1.symm.trans (z.trans (PyProof.Rows.lex_irrefl _))
    cases z2
theorem least_same {ds es : List D} {d e : D} (o : OkMin ds) (h : ∀ x, x ∈ ds ↔ x ∈ es) (l1 : least ds d) (l2 : least es e) : eqD d e = true :=
  alike_tri (o.al d l1.1 e ((h e).mpr l2.1)) (l2.2 d ((h d).mp l1.1)) (l1.2 e ((h e).mpr l2.1))
theorem room0 {k : Nat} {A : Around} (r : Room k A) : A.units < cLine := by have := room65 r; omega
end AL
set_option Elab.async false
set_option linter.all false
set_option maxRecDepth 100000
set_option maxHeartbeats 4000000
/-! permutations(range(n)) -/
namespace PRM
open PySem PySem.Spec PyProof.Rows L2
theorem slot_next : Slot "itertools.permutations" "__next__" "itertools.permutations.__next__" :=
  .of (owner := "itertools.permutations") (n := "__next__") (by rw [typeLookup_type, builtinLookup_eq_fast]; kernel_rfl) (by decide +kernel) (by decide +kernel) (by decide +kernel)
    (by first | exact .inl (by decide +kernel) | exact .inr (by decide +kernel)) (by rw [isSubtype_type]; kernel_rfl)
theorem slot_iter : Slot "itertools.permutations" "__iter__" "itertools.permutations.__iter__" :=
  .of (owner := "itertools.permutations") (n := "__iter__") (by rw [typeLookup_type, builtinLookup_eq_fast]; kernel_rfl) (by decide +kernel) (by decide +kernel) (by decide +kernel)
    (by first | exact .inl (by decide +kernel) | exact .inr (by decide +kernel)) (by rw [isSubtype_type]; kernel_rfl)
theorem slot_init : Slot "itertools.permutations" "__init__" "object.__init__" :=
  .of (owner := "object") (n := "__init__") (by rw [typeLookup_type, builtinLookup_eq_fast]; kernel_rfl) (by decide +kernel) (by decide +kernel) (by decide +kernel)
    (by first | exact .inl (by decide +kernel) | exact .inr (by decide +kernel)) (by rw [isSubtype_type]; kernel_rfl)
theorem entry_next : entryFor table "itertools.permutations.__next__" = some Builtin.«itertools.permutations.__next__» := entryFor_of_tree (by kernel_rfl)
theorem entry_new : entryFor table "itertools.permutations.__new__" = some Builtin.«itertools.permutations.__new__» := entryFor_of_tree (by kernel_rfl)
theorem args_next (a : Value) : argsOk "itertools.permutations.__next__" ⟨[a], []⟩ := by
  unfold argsOk; kernel_rfl
theorem args_iter (a : Value) : argsOk "itertools.permutations.__iter__" ⟨[a], []⟩ := by
  unfold argsOk; kernel_rfl
theorem entry_iter : entryFor table "itertools.permutations.__iter__" = some Builtin.«dict_keyiterator.__iter__» :=
  entryFor_alias (id' := "dict_keyiterator.__iter__") (by kernel_rfl) (by first | rfl | decide +kernel | (unfold String.splitOn; simp +decide [String.splitOnAux])) (by decide +kernel) (by kernel_rfl)
theorem mro_ : mroOf (.type "itertools.permutations") = pure [.type "itertools.permutations", .type "object"] := by rw [mroOf_type]; kernel_rfl
theorem lookup_new : typeLookup (.type "itertools.permutations") "__new__" = pure (some (.builtin "itertools.permutations.__new__")) := by rw [typeLookup_type, builtinLookup_eq_fast]; kernel_rfl
theorem made_ : Bind.madeBy (.type "itertools.permutations") = pure (some "itertools.permutations.__new__") := madeBy_type mro_ lookup_new (by decide +kernel)
theorem typeCall_1 (a : Value) : checkTypeCall "itertools.permutations" ⟨[a], []⟩ = pure () := by kernel_rfl
theorem newCall_1 (a : Value) : checkBuiltinCall "itertools.permutations.__new__" ⟨[.type "itertools.permutations", a], []⟩ = pure () := by kernel_rfl
theorem plain_new : plainId "itertools.permutations.__new__" = true := by decide +kernel
theorem create_ : ((Manifest.find? "itertools.permutations").bind (·.mro.findSome? fun t => (Manifest.find? t).bind fun b => if b.noNew then some true else if b.attrs.any (·.1 == "__new__") then some false else none)).getD false = false := by decide +kernel
theorem sub_self : isSubtype (.type "itertools.permutations") (.type "itertools.permutations") = pure true := by rw [isSubtype_type]; kernel_rfl
theorem called_ : TypeCalled "itertools.permutations" "itertools.permutations.__new__" "object.__init__" := ⟨by decide +kernel, create_, ⟨_, _, mro_⟩, made_, plain_new, sub_self, slot_init⟩
end PRM
set_option Elab.async false
set_option linter.all false
set_option maxRecDepth 100000
set_option maxHeartbeats 4000000
namespace PRM
open PySem PySem.Spec PyProof.Rows L2
def prmObj (t : Addr) (n : Nat) : Obj := { cls := .type "itertools.permutations", data := .fields ([.ref t, rawInt 0, rawInt (n : Int), .none] ++ (List.range n).map (fun (i : Nat) => rawInt i) ++ (List.range n).map fun (i : Nat) => rawInt ((n : Int) - i)).toArray }
theorem new_meets {r : Addr} {n : Nat} {t u v : Tok} (hn : n ≤ 1000) (hsm : Builtin.Range.small 0 n 1 = true) (hrs : Builtin.Range.rangeSize 0 n 1 = n) :
    Meets (Builtin.«itertools.permutations.__new__» ⟨[.type "itertools.permutations", .ref r], []⟩) (fun A R s => A.handled = none ∧ IsRange s.heap r 0 n 1 t u v ∧
      ∀ (h' : Heap) (tk' : Nat) (acc : Array Value), (∀ b o, s.heap.get? b = some o → h'.get? b = some o) → ItemsOf (fun i v => ∃ t, v = .int (0 + i * 1) t) acc n →
        R (.ok (.ret (.ref (h'.objs.size + 1)))) { s with heap := (h'.push { cls := .type "tuple", data := .seq acc.toList.toArray }).push (prmObj h'.objs.size n), toks := tk' }) := by
  refine .of_wp fun prog w A R s hyp => ?_
  obtain ⟨hh, hr, hyp⟩ := hyp
  unfold Builtin.«itertools.permutations.__new__»
  refine wpAny_bind ?_
  wp_delta
  have hsub := sub_self
  wp_walk
  refine wpAny_of_eq (a := true) sub_self ?_
  dsimp only [Bool.not_true, Bool.false_eq_true, if_false]
  refine wpAny_pure ?_
  dsimp only
  refine wpAny_bind (wpAny_of_eq (a := [some (Value.ref r), none]) (by first | rfl | kernel_rfl) ?_)
  dsimp only
  refine wpAny_bind (collect_range hh hr hsm hrs (Nat.le_trans hn (by decide)) fun h' tk' acc kp it => ?_)
  have hl : acc.toList.length = n := by rw [Array.length_toList]; exact it.1
  have fin := hyp h' tk' acc kp it
  refine wpAny_bind (wpAny_pure ?_)
  rw [hl]
  have htm : ¬ (Builtin.Itertools.itTooMany (n : Int) = true) := by
    unfold Builtin.Itertools.itTooMany
    rw [decide_eq_false (show ¬ (n : Int) > 2 ^ 20 by omega)]
    exact Bool.false_ne_true
  rw [if_neg (show ¬ (n : Int) < 0 by omega), if_neg htm]
  refine wpAny_bind ?_
  unfold newTuple
  refine wpAny_newObj_type ?_ (by show acc.toList.toArray.size ≤ sizeLine; rw [List.size_toArray, hl, sizeLine_eq]; omega)
  dsimp only
  refine wpAny_bind ?_
  rw [Int.toNat_natCast, if_neg (Nat.lt_irrefl n)]
  unfold Builtin.Itertools.itNewRecord
  have htd : (!typeHasDict (Value.type "itertools.permutations")) = true := by kernel_rfl
  rw [if_pos htd]
  refine wpAny_newObj_type ?_ (by
    show ([Value.ref h'.objs.size, rawInt 0, rawInt (n : Int), Value.none] ++ (List.range n).map (fun (i : Nat) => rawInt i) ++ (List.range n).map fun (i : Nat) => rawInt ((n : Int) - i)).toArray.size ≤ sizeLine + 2
    rw [List.size_toArray, List.length_append, List.length_append, List.length_map, List.length_map, List.length_range, sizeLine_eq]
    show 4 + n + n ≤ _
    omega)
  unfold prmObj at fin
  exact wpAny_pure ⟨_, rfl, by
    rw [show (h'.push { cls := Value.type "tuple", data := Data.seq acc.toList.toArray }).objs.size = h'.objs.size + 1 from Heap.size_push ..]
    exact fin⟩
theorem call_new {prog : Program} {w : World} {A : Around} {E : Value → Shared → Prop} {s : Shared} {Q : Value → Shared → Prop} {r : Addr} {n : Nat} {t u v : Tok} (hn : n ≤ 1000) (hsm : Builtin.Range.small 0 n 1 = true) (hrs : Builtin.Range.rangeSize 0 n 1 = n)
    (hh : A.in1.handled = none) (hr : IsRange s.heap r 0 n 1 t u v)
    (go : ∀ (h' : Heap) (tk' : Nat) (acc : Array Value), (∀ b o, s.heap.get? b = some o → h'.get? b = some o) → ItemsOf (fun i v => ∃ t, v = .int (0 + i * 1) t) acc n →
      Q (.ref (h'.objs.size + 1)) { s with heap := (h'.push { cls := .type "tuple", data := .seq acc.toList.toArray }).push (prmObj h'.objs.size n), toks := tk' }) :
    wpAny (model prog w) A (call (.type "itertools.permutations") [.ref r]) Q E s := by
  refine callType_new called_ (by decide) (typeCall_1 _) (newCall_1 _) (fun obj => by unfold argsOk; kernel_rfl) entry_new (new_meets hn hsm hrs) ⟨hh, hr, fun h' tk' acc kp it => ?_⟩
  have hz : (h'.push { cls := .type "tuple", data := .seq acc.toList.toArray }).objs.size = h'.objs.size + 1 := Heap.size_push ..
  refine ⟨⟨prmObj h'.objs.size n, ?_, rfl⟩, go h' tk' acc kp it⟩
  rw [← hz]
  exact Heap.get?_push_size _ rfl
end PRM
set_option Elab.async false
set_option linter.all false
set_option maxRecDepth 100000
set_option maxHeartbeats 4000000
/-! all turns of some numbers, as the iterator's numbers go through them -/
namespace PRM
abbrev Sn := List Nat × List Nat
/-- the place i's own turn: its count goes down, another number comes to it, or all behind it are told -/
def nextP (n : Nat) : Nat → List Nat → List Nat → Option Sn
  | 0 => fun _ _ => none
  | i + 1 => fun ix cy => if cy.getD i 0 - 1 == 0 then nextP n i (ix.take i ++ ix.drop (i + 1) ++ [ix.getD i 0]) (cy.set i (n - i)) else some ((ix.set i (ix.getD (n - (cy.getD i 0 - 1)) 0)).set (n - (cy.getD i 0 - 1)) (ix.getD i 0), cy.set i (cy.getD i 0 - 1))
theorem nextP_of {f : Nat → Nat → List Nat → List Nat → Option Sn} (h0 : ∀ n a b, f n 0 a b = none)
    (h1 : ∀ n i ix cy, f n (i + 1) ix cy = if cy.getD i 0 - 1 == 0 then f n i (ix.take i ++ ix.drop (i + 1) ++ [ix.getD i 0]) (cy.set i (n - i)) else some ((ix.set i (ix.getD (n - (cy.getD i 0 - 1)) 0)).set (n - (cy.getD i 0 - 1)) (ix.getD i 0), cy.set i (cy.getD i 0 - 1))) :
    ∀ n r a b, f n r a b = nextP n r a b
  | n, 0, a, b => h0 n a b
  | n, i + 1, a, b => by
    rw [h1, nextP_of h0 h1 n i]
    rfl
def reset : Nat → List Nat
  | 0 => []
  | m + 1 => (m + 1) :: reset m
theorem reset_len : ∀ m, (reset m).length = m
  | 0 => rfl
  | m + 1 => by show (reset m).length + 1 = _; rw [reset_len m]
def blk (f : List Nat → List Sn) : List Nat → List Nat → List Sn
  | _, [] => []
  | done, x :: rem => (f (done ++ rem)).map (fun s => (x :: s.1, (rem.length + 1) :: s.2)) ++ blk f (done ++ [x]) rem
def permS : Nat → List Nat → List Sn
  | 0, _ => [([], [])]
  | m + 1, suf => blk (permS m) [] suf
theorem blk_cons (f : List Nat → List Sn) (done : List Nat) (x : Nat) (rem : List Nat) : blk f done (x :: rem) = (f (done ++ rem)).map (fun s => (x :: s.1, (rem.length + 1) :: s.2)) ++ blk f (done ++ [x]) rem := rfl
theorem permS_head : ∀ (m : Nat) (suf : List Nat), suf.length = m → ∃ r, permS m suf = (suf, reset m) :: r
  | 0, [], _ => ⟨[], rfl⟩
  | m + 1, x :: rem, h => by
    have hl : rem.length = m := by simpa using h
    obtain ⟨r, e⟩ := permS_head m rem hl
    refine ⟨r.map (fun s => (x :: s.1, (rem.length + 1) :: s.2)) ++ blk (permS m) [x] rem, ?_⟩
    show blk (permS m) [] (x :: rem) = _
    rw [blk_cons, List.nil_append, e, hl]
    rfl
/-- one behind the other, and e behind the last -/
def Chn {α : Type} (f : α → Option α) (e : Option α) : List α → Prop
  | [] => True
  | [s] => f s = e
  | s :: t :: r => f s = some t ∧ Chn f e (t :: r)
theorem Chn.app {α : Type} {f : α → Option α} {e : Option α} {b : α} {B : List α} : ∀ {A : List α}, Chn f (some b) A → Chn f e (b :: B) → Chn f e (A ++ b :: B)
  | [], _, hB => hB
  | [a], hA, hB => ⟨hA, hB⟩
  | a :: a' :: r, hA, hB => ⟨hA.1, Chn.app (A := a' :: r) hA.2 hB⟩
theorem getD_mid {pre L : List Nat} {x : Nat} : (pre ++ x :: L).getD pre.length 0 = x := by
  rw [List.getD_eq_getElem?_getD, List.getElem?_append_right (Nat.le_refl _), Nat.sub_self]; rfl
theorem set_mid {pre L : List Nat} {x y : Nat} : (pre ++ x :: L).set pre.length y = pre ++ y :: L := by
  rw [List.set_append_right _ _ (Nat.le_refl _), Nat.sub_self]; rfl
theorem getD_far {pre L : List Nat} {x k : Nat} : (pre ++ x :: L).getD (pre.length + 1 + k) 0 = L.getD k 0 := by
  rw [List.getD_eq_getElem?_getD, List.getElem?_append_right (by omega), show pre.length + 1 + k - pre.length = k + 1 by omega, List.getElem?_cons_succ, ← List.getD_eq_getElem?_getD]
theorem set_far {pre L : List Nat} {x k y : Nat} : (pre ++ x :: L).set (pre.length + 1 + k) y = pre ++ x :: L.set k y := by
  rw [List.set_append_right _ _ (by omega), show pre.length + 1 + k - pre.length = k + 1 by omega]; rfl
theorem next_mid {n i : Nat} {pre cpre L C : List Nat} {x q : Nat} (h1 : pre.length = i) (h2 : cpre.length = i) :
    nextP n (i + 1) (pre ++ x :: L) (cpre ++ q :: C) = if q - 1 = 0 then nextP n i (pre ++ (L ++ [x])) (cpre ++ (n - i) :: C) else some (((pre ++ x :: L).set i ((pre ++ x :: L).getD (n - (q - 1)) 0)).set (n - (q - 1)) x, cpre ++ (q - 1) :: C) := by
  subst h1
  have e1 : (cpre ++ q :: C).getD pre.length 0 = q := by rw [← h2]; exact getD_mid
  have e2 : ∀ y, (cpre ++ q :: C).set pre.length y = cpre ++ y :: C := fun y => by rw [← h2]; exact set_mid
  have e3 : (pre ++ x :: L).take pre.length = pre := List.take_left
  have e4 : (pre ++ x :: L).drop (pre.length + 1) = L := by
    rw [show pre ++ x :: L = (pre ++ [x]) ++ L by rw [List.append_assoc]; rfl, show pre.length + 1 = (pre ++ [x]).length by rw [List.length_append]; rfl, List.drop_left]
  show (if ((cpre ++ q :: C).getD pre.length 0 - 1 == 0) = true then _ else _) = _
  rw [e1, e2, e2, e3, e4, getD_mid]
  by_cases z : q - 1 = 0
  · rw [if_pos (by rw [z]; rfl), if_pos z, List.append_assoc]
  · rw [if_neg (by simpa using z), if_neg z]
theorem chain : ∀ (m : Nat) (suf pre cpre : List Nat) (n : Nat), suf.length = m → pre.length = cpre.length → pre.length + m = n →
    Chn (fun s : Sn => nextP n n s.1 s.2) (nextP n pre.length (pre ++ suf) (cpre ++ reset m)) ((permS m suf).map fun s => (pre ++ s.1, cpre ++ s.2))
  | 0, [], pre, cpre, n, _, hc, hn => by
    show nextP n n (pre ++ []) (cpre ++ []) = nextP n pre.length (pre ++ []) (cpre ++ [])
    rw [show pre.length = n by omega]
  | m + 1, suf, pre, cpre, n, hs, hc, hn => by
    have go : ∀ (rem done : List Nat), rem ≠ [] → done.length + rem.length = m + 1 →
        Chn (fun s : Sn => nextP n n s.1 s.2) (nextP n pre.length (pre ++ (done ++ rem)) (cpre ++ reset (m + 1))) ((blk (permS m) done rem).map fun s => (pre ++ s.1, cpre ++ s.2)) := by
      intro rem
      induction rem with
      | nil => intro done h; exact absurd rfl h
      | cons x rem ih =>
        intro done _ hl
        rw [List.length_cons] at hl
        have IH := chain m (done ++ rem) (pre ++ [x]) (cpre ++ [rem.length + 1]) n (by rw [List.length_append]; omega) (by rw [List.length_append, List.length_append, hc]; rfl) (by rw [List.length_append, List.length_singleton]; omega)
        have em : ((permS m (done ++ rem)).map fun s => ((pre ++ [x]) ++ s.1, (cpre ++ [rem.length + 1]) ++ s.2)) = (((permS m (done ++ rem)).map fun s => (x :: s.1, (rem.length + 1) :: s.2)).map fun s => (pre ++ s.1, cpre ++ s.2)) := by
          rw [List.map_map]
          refine List.map_congr_left fun s _ => ?_
          show ((pre ++ [x]) ++ s.1, (cpre ++ [rem.length + 1]) ++ s.2) = (pre ++ x :: s.1, cpre ++ (rem.length + 1) :: s.2)
          rw [List.append_assoc, List.append_assoc]; rfl
        rw [em, List.length_append, List.length_singleton, List.append_assoc, List.append_assoc] at IH
        have ev := next_mid (n := n) (pre := pre) (cpre := cpre) (L := done ++ rem) (C := reset m) (x := x) (q := rem.length + 1) rfl hc.symm
        have e0 : nextP n (pre.length + 1) (pre ++ ([x] ++ (done ++ rem))) (cpre ++ ([rem.length + 1] ++ reset m)) = nextP n (pre.length + 1) (pre ++ x :: (done ++ rem)) (cpre ++ (rem.length + 1) :: reset m) := rfl
        rw [e0, ev] at IH
        rw [blk_cons, List.map_append]
        cases rem with
        | nil =>
          rw [if_pos (show ([] : List Nat).length + 1 - 1 = 0 from rfl)] at IH
          show Chn _ _ (_ ++ [])
          have e5 : n - pre.length = m + 1 := by omega
          rw [e5] at IH
          simp only [List.append_nil] at IH ⊢
          exact IH
        | cons y r =>
          rw [List.length_cons] at hl IH
          rw [if_neg (by omega)] at IH
          have e6 : n - (r.length + 1 + 1 - 1) = pre.length + 1 + done.length := by omega
          rw [e6, getD_far] at IH
          have e7 : (done ++ y :: r).getD done.length 0 = y := getD_mid
          rw [e7, set_mid, set_far, set_mid] at IH
          have ih2 := ih (done ++ [x]) (by simp) (by rw [List.length_append, List.length_singleton, List.length_cons]; omega)
          rw [blk_cons, List.map_append] at ih2 ⊢
          obtain ⟨r2, e8⟩ := permS_head m (done ++ [x] ++ r) (by rw [List.length_append, List.length_append, List.length_singleton]; omega)
          rw [e8] at ih2 ⊢
          rw [List.map_cons, List.map_cons, List.cons_append] at ih2 ⊢
          have e9 : done ++ [x] ++ y :: r = done ++ x :: y :: r := by rw [List.append_assoc]; rfl
          rw [e9] at ih2
          refine Chn.app ?_ ih2
          have e10 : (pre ++ y :: (done ++ x :: r), cpre ++ (r.length + 1 + 1 - 1) :: reset m) = (pre ++ (y :: (done ++ [x] ++ r), (r.length + 1) :: reset m).1, cpre ++ (y :: (done ++ [x] ++ r), (r.length + 1) :: reset m).2) := by
            show _ = (pre ++ y :: (done ++ [x] ++ r), cpre ++ (r.length + 1) :: reset m)
            rw [List.append_assoc]; rfl
          rw [← e10]
          exact IH
    cases suf with
    | nil => cases hs
    | cons x rem => exact go (x :: rem) [] (by simp) (by rw [List.length_nil, Nat.zero_add]; exact hs)
end PRM
set_option Elab.async false
set_option linter.all false
set_option maxRecDepth 100000
set_option maxHeartbeats 4000000
namespace PRM
def blkL (f : List Nat → List (List Nat)) : List Nat → List Nat → List (List Nat)
  | _, [] => []
  | done, x :: rem => (f (done ++ rem)).map (fun s => x :: s) ++ blkL f (done ++ [x]) rem
def permL : Nat → List Nat → List (List Nat)
  | 0, _ => [[]]
  | m + 1, suf => blkL (permL m) [] suf
theorem blkL_cons (f : List Nat → List (List Nat)) (done : List Nat) (x : Nat) (rem : List Nat) : blkL f done (x :: rem) = (f (done ++ rem)).map (fun s => x :: s) ++ blkL f (done ++ [x]) rem := rfl
theorem blk_fst {f : List Nat → List Sn} {g : List Nat → List (List Nat)} (h : ∀ s, (f s).map (·.1) = g s) : ∀ (rem done : List Nat), (blk f done rem).map (·.1) = blkL g done rem
  | [], _ => rfl
  | x :: rem, done => by
    rw [blk_cons, blkL_cons, List.map_append, blk_fst h rem, ← h, List.map_map, List.map_map]
    rfl
theorem permS_fst : ∀ (m : Nat) (s : List Nat), (permS m s).map (·.1) = permL m s
  | 0, _ => rfl
  | m + 1, s => blk_fst (permS_fst m) s []
theorem mem_blkL {f : List Nat → List (List Nat)} {t : List Nat} : ∀ {rem done : List Nat}, t ∈ blkL f done rem ↔ ∃ a x b t', rem = a ++ x :: b ∧ t = x :: t' ∧ t' ∈ f (done ++ a ++ b)
  | [], done => ⟨(fun h => nomatch h), fun ⟨a, x, b, _, h, _⟩ => by cases a <;> cases h⟩
  | y :: rem, done => by
    rw [blkL_cons, List.mem_append, mem_blkL]
    constructor
    · rintro (h | ⟨a, x, b, t', h1, h2, h3⟩)
      · obtain ⟨t', h1, rfl⟩ := List.mem_map.mp h
        exact ⟨[], y, rem, t', rfl, rfl, by rw [List.append_nil]; exact h1⟩
      · refine ⟨y :: a, x, b, t', by rw [h1]; rfl, h2, ?_⟩
        rw [List.append_assoc done] at h3
        exact h3
    · rintro ⟨a, x, b, t', h1, h2, h3⟩
      cases a with
      | nil =>
        have h1 : y :: rem = x :: b := h1
        cases h1
        rw [List.append_nil] at h3
        exact .inl (List.mem_map.mpr ⟨t', h3, h2.symm⟩)
      | cons z a =>
        have h1 : y :: rem = z :: (a ++ x :: b) := h1
        cases h1
        refine .inr ⟨a, x, b, t', rfl, h2, ?_⟩
        rw [List.append_assoc done]
        exact h3
theorem mem_permL : ∀ (m : Nat) (s : List Nat), s.length = m → ∀ t, t ∈ permL m s ↔ t.Perm s
  | 0, [], _, t => by
    show t ∈ [[]] ↔ _
    rw [List.mem_singleton]
    exact ⟨fun h => by rw [h], fun h => h.eq_nil⟩
  | m + 1, s, hs, t => by
    show t ∈ blkL (permL m) [] s ↔ _
    rw [mem_blkL]
    constructor
    · rintro ⟨a, x, b, t', rfl, rfl, h⟩
      rw [List.nil_append] at h
      have hl : (a ++ b).length = m := by
        rw [List.length_append, List.length_cons] at hs
        rw [List.length_append]; omega
      exact (((mem_permL m (a ++ b) hl t').mp h).cons x).trans List.perm_middle.symm
    · intro h
      cases t with
      | nil =>
        have := h.length_eq
        rw [hs] at this
        cases this
      | cons x t' =>
        have hx : x ∈ s := h.mem_iff.mp List.mem_cons_self
        obtain ⟨a, b, rfl⟩ := List.append_of_mem hx
        refine ⟨a, x, b, t', rfl, rfl, ?_⟩
        have hl : (a ++ b).length = m := by
          rw [List.length_append, List.length_cons] at hs
          rw [List.length_append]; omega
        rw [List.nil_append]
        exact (mem_permL m (a ++ b) hl t').mpr (List.perm_cons x |>.mp (h.trans List.perm_middle))
theorem nodup_permL : ∀ (m : Nat) (s : List Nat), s.length = m → s.Nodup → (permL m s).Nodup
  | 0, _, _, _ => List.nodup_cons.mpr ⟨List.not_mem_nil, List.nodup_nil⟩
  | m + 1, s, hs, hn => by
    have go : ∀ (rem done : List Nat), done.length + rem.length = m + 1 → (done ++ rem).Nodup → (blkL (permL m) done rem).Nodup := by
      intro rem
      induction rem with
      | nil => intro done _ _; exact List.nodup_nil
      | cons x rem ih =>
        intro done hl hd
        rw [List.length_cons] at hl
        have hd2 : (x :: (done ++ rem)).Nodup := List.perm_middle.nodup_iff.mp hd
        rw [blkL_cons, List.nodup_append]
        refine ⟨?_, ih (done ++ [x]) (by rw [List.length_append, List.length_singleton]; omega) (by rw [List.append_assoc]; exact hd), fun t ht u hu e => ?_⟩
        · have h := nodup_permL m (done ++ rem) (by rw [List.length_append]; omega) (List.nodup_cons.mp hd2).2
          unfold List.Nodup at h ⊢
          rw [List.pairwise_map]
          exact h.imp fun {a b} hne e => hne (List.cons.inj e).2
        · obtain ⟨t', _, rfl⟩ := List.mem_map.mp ht
          obtain ⟨a, y, b, u', h1, rfl, _⟩ := mem_blkL.mp hu
          have exy := (List.cons.inj e).1
          subst exy
          exact (List.nodup_cons.mp hd2).1 (List.mem_append_right _ (by rw [h1]; exact List.mem_append_right _ List.mem_cons_self))
    exact go s [] (by rw [List.length_nil, Nat.zero_add]; exact hs) (by rw [List.nil_append]; exact hn)
theorem permL_map (g : Nat → Nat) : ∀ (m : Nat) (s : List Nat), permL m (s.map g) = (permL m s).map (List.map g)
  | 0, _ => rfl
  | m + 1, s => by
    have go : ∀ (rem done : List Nat), blkL (permL m) (done.map g) (rem.map g) = (blkL (permL m) done rem).map (List.map g) := by
      intro rem
      induction rem with
      | nil => intro done; rfl
      | cons x rem ih =>
        intro done
        have e := ih (done ++ [x])
        rw [List.map_append] at e
        rw [List.map_cons, blkL_cons, blkL_cons, List.map_append, ← List.map_append, permL_map g m, List.map_map, List.map_map]
        congr 1
    exact go s []
/-- as many of all turns, in which turn ever the numbers stand -/
theorem count_permL {p : List Nat → Bool} {s u : List Nat} (hs : s.Nodup) (h : s.Perm u) : ((permL s.length s).filter p).length = ((permL u.length u).filter p).length := by
  have hu := h.nodup_iff.mp hs
  have hp : (permL s.length s).Perm (permL u.length u) := (List.perm_ext_iff_of_nodup (nodup_permL _ s rfl hs) (nodup_permL _ u rfl hu)).mpr fun t => by
    rw [mem_permL _ s rfl, mem_permL _ u rfl]
    exact ⟨fun q => q.trans h, fun q => q.trans h.symm⟩
  exact (hp.filter p).length_eq
/-- the i-th -/
def seqP (n : Nat) : Nat → Option Sn
  | 0 => some (List.range n, reset n)
  | i + 1 => (seqP n i).bind fun s => nextP n n s.1 s.2
theorem chn_get {f : Sn → Option Sn} : ∀ (L : List Sn) (s : Sn) (r : List Sn), L = s :: r → Chn f none L → ∀ (q : Nat → Option Sn), q 0 = some s → (∀ i, q (i + 1) = (q i).bind f) → ∀ i, q i = L[i]?
  | [], s, r, h, _, _, _, _ => nomatch h
  | [s], _, _, h, hc, q, q0, qs => by
    cases h
    have q1 : q 1 = none := by rw [qs, q0]; exact hc
    have qn : ∀ i, q (i + 1) = none := fun i => by
      induction i with
      | zero => exact q1
      | succ i ih => rw [qs, ih]; rfl
    intro i
    cases i with
    | zero => exact q0
    | succ i => rw [qn]; rfl
  | s :: t :: r, _, _, h, hc, q, q0, qs => by
    cases h
    intro i
    cases i with
    | zero => exact q0
    | succ i =>
      have := chn_get (t :: r) t r rfl hc.2 (fun i => q (i + 1)) (by rw [qs, q0]; exact hc.1) (fun i => qs (i + 1)) i
      rw [this]; rfl
theorem seqP_get (n i : Nat) : seqP n i = (permS n (List.range n))[i]? := by
  obtain ⟨r, e⟩ := permS_head n (List.range n) List.length_range
  have hc := chain n (List.range n) [] [] n List.length_range rfl (by rw [List.length_nil, Nat.zero_add])
  have em : ((permS n (List.range n)).map fun s : Sn => (([] : List Nat) ++ s.1, ([] : List Nat) ++ s.2)) = permS n (List.range n) := (List.map_congr_left fun s _ => rfl).trans (List.map_id _)
  rw [em] at hc
  exact chn_get (f := fun s => nextP n n s.1 s.2) _ _ r e hc (seqP n) rfl (fun i => rfl) i
theorem permS_len : ∀ (m : Nat) (suf : List Nat), suf.length = m → ∀ s ∈ permS m suf, s.1.length = m ∧ s.2.length = m ∧ ∀ x ∈ s.1, x ∈ suf
  | 0, [], _, s, h => by
    rw [List.mem_singleton.mp h]
    exact ⟨rfl, rfl, fun _ h => nomatch h⟩
  | m + 1, suf, hs, s, h => by
    have go : ∀ (rem done : List Nat), done.length + rem.length = m + 1 → ∀ s ∈ blk (permS m) done rem, s.1.length = m + 1 ∧ s.2.length = m + 1 ∧ ∀ x ∈ s.1, x ∈ done ++ rem := by
      intro rem
      induction rem with
      | nil => intro done _ s h; cases h
      | cons x rem ih =>
        intro done hl s h
        rw [List.length_cons] at hl
        rw [blk_cons] at h
        rcases List.mem_append.mp h with h | h
        · obtain ⟨u, hu, rfl⟩ := List.mem_map.mp h
          obtain ⟨a, b, c⟩ := permS_len m (done ++ rem) (by rw [List.length_append]; omega) u hu
          refine ⟨by show u.1.length + 1 = _; rw [a], by show u.2.length + 1 = _; rw [b], fun y hy => ?_⟩
          rcases List.mem_cons.mp hy with rfl | hy
          · exact List.mem_append_right _ List.mem_cons_self
          · rcases List.mem_append.mp (c y hy) with h | h
            · exact List.mem_append_left _ h
            · exact List.mem_append_right _ (List.mem_cons_of_mem _ h)
        · obtain ⟨a, b, c⟩ := ih (done ++ [x]) (by rw [List.length_append, List.length_singleton]; omega) s h
          refine ⟨a, b, fun y hy => ?_⟩
          have := c y hy
          rw [List.append_assoc] at this
          exact this
    exact go suf [] (by rw [List.length_nil, Nat.zero_add]; exact hs) s h
end PRM
set_option Elab.async false
set_option linter.all false
set_option maxRecDepth 100000
set_option maxHeartbeats 4000000
namespace PRM
open PySem PySem.Spec PyProof.Rows L2
def prmData (t : Addr) (ph : Int) (n : Nat) (last : Value) (ns : List Nat) : Data := .fields ([.ref t, rawInt ph, rawInt (n : Int), last] ++ ns.map fun (i : Nat) => rawInt i).toArray
/-- permutations of t's items, how it stands -/
def IsPrm (h : Heap) (a t : Addr) (ph : Int) (n : Nat) (last : Value) (ns : List Nat) : Prop := ∃ o, h.get? a = some o ∧ o.cls = .type "itertools.permutations" ∧ o.data = prmData t ph n last ns
section
variable {prog : Program} {w : World} {A : Around} {E : Value → Shared → Prop} {s : Shared}
theorem IsPrm.typeIs {a t : Addr} {ph : Int} {n : Nat} {last : Value} {ns : List Nat} (x : IsPrm s.heap a t ph n last ns) : s.TypeIs (.ref a) "itertools.permutations" := let ⟨o, ho, hc, _⟩ := x; ⟨o, ho, hc⟩
theorem ints_back (ix : List Nat) : (ix.map fun (i : Nat) => rawInt i).map (fun | .int n _ => n.toNat | _ => 0) = ix := by
  rw [List.map_map]
  conv => rhs; rw [← List.map_id ix]
  refine List.map_congr_left fun i _ => ?_
  show ((i : Nat) : Int).toNat = i
  exact Int.toNat_natCast i
theorem numbers_ {a : Addr} {o : Obj} {x y z u : Value} {ix : List Nat} {Q : List Nat → Shared → Prop} (ho : s.heap.get? a = some o) (hd : o.data = .fields ([x, y, z, u] ++ ix.map fun (i : Nat) => rawInt i).toArray) (h : Q ix s) :
    wpAny (model prog w) A (Builtin.Itertools.itNumbersFrom (.ref a) 4) Q E s := by
  unfold Builtin.Itertools.itNumbersFrom
  dsimp only
  refine wpAny_bind (wpAny_load ho ?_)
  rw [hd]
  refine wpAny_pure ?_
  have e : (([x, y, z, u] ++ ix.map fun (i : Nat) => rawInt i).toArray.toList.drop 4) = ix.map fun (i : Nat) => rawInt i := rfl
  rw [e]
  rw [← ints_back ix] at h
  exact h
theorem pool_ {t : Addr} {items : Array Value} {Q : Array Value → Shared → Prop} (ht : IsTup s.heap t items) (h : Q items s) : wpAny (model prog w) A (Builtin.Itertools.itPoolItems (.ref t)) Q E s := by
  obtain ⟨o, ho, hc, n, hd⟩ := ht
  unfold Builtin.Itertools.itPoolItems
  refine wpAny_bind (wpAny_seqItems ho hd ?_)
  exact wpAny_pure h
theorem hand_ {it t : Addr} {ph : Int} {n : Nat} {last : Value} {ns jx : List Nat} {items : Array Value} {o : Obj} {Qf : Fin → Shared → Prop} (ho : s.heap.get? it = some o) (hc : o.cls = .type "itertools.permutations") (hd : o.data = prmData t ph n last ns) (hsz : jx.length ≤ 1000)
    (h : ∀ h', IsPrm h' it t ph n (.ref s.heap.objs.size) ns → IsTup h' s.heap.objs.size (jx.map fun i => items.getD i .none).toArray → (∀ b ob, b ≠ it → s.heap.get? b = some ob → h'.get? b = some ob) → Qf (.done (.ret (.ref s.heap.objs.size))) { s with heap := h' }) :
    wpAny (model prog w) A (newTuple (jx.map fun i => items.getD i .none)) (fun a s' => wpAny (model prog w) A (field (.ref it) 3 >>= fun before => setField (.ref it) 3 a >>= fun _ => letGo [before] [a] >>= fun _ => ret a) Qf E s') E s := by
  unfold prmData at hd
  unfold newTuple
  refine wpAny_newObj_type ?_ (by show (jx.map fun i => items.getD i .none).toArray.size ≤ sizeLine; rw [List.size_toArray, List.length_map, sizeLine_eq]; omega)
  have hlt : it < s.heap.objs.size := Heap.lt_size ho
  have ho1 := Heap.get?_push_of_some (o := { cls := .type "tuple", data := .seq (jx.map fun i => items.getD i .none).toArray }) ho
  refine wpAny_bind (wpAny_field ho1 hd (x := last) rfl ?_)
  refine wpAny_bind (wpAny_setField ho1 hd (by simp) ?_)
  refine wpAny_bind (wpAny_letGo ?_)
  refine wpAny_pure (h _ ⟨_, Heap.get?_update_self _ ho1 (Obj.isFreed_of_fields (Obj.data_mapFields hd _)), (Obj.cls_mapFields ..).trans hc, ?_⟩ ?_ fun b ob hb e => ?_)
  · rw [Obj.data_mapFields hd]; unfold prmData; simp
  · exact ⟨_, (Heap.get?_update_other _ _ (Nat.ne_of_gt hlt).symm).trans (Heap.get?_push_size _ rfl), rfl, _, rfl⟩
  · exact (Heap.get?_update_other _ _ (Ne.symm hb)).trans (Heap.get?_push_of_some _ e)
theorem ne_pool {it t : Addr} {o : Obj} {items : Array Value} (ho : s.heap.get? it = some o) (hc : o.cls = .type "itertools.permutations") (ht : IsTup s.heap t items) : t ≠ it := fun e => by
  obtain ⟨ot, hot, hct, _⟩ := ht
  rw [e, ho] at hot
  cases hot
  rw [hc] at hct
  exact absurd hct (by decide)
theorem next_first {it t : Addr} {n : Nat} {last : Value} {ix cy : List Nat} {items : Array Value} {Q : Option Value → Shared → Prop} (hit : IsPrm s.heap it t 0 n last (ix ++ cy)) (ht : IsTup s.heap t items) (hl : ix.length = n) (hsz : n ≤ 1000)
    (hQ : ∀ h', IsPrm h' it t 1 n (.ref s.heap.objs.size) (ix ++ cy) → IsTup h' s.heap.objs.size (ix.map fun i => items.getD i .none).toArray → (∀ b o, b ≠ it → s.heap.get? b = some o → h'.get? b = some o) → Q (some (.ref s.heap.objs.size)) { s with heap := h' }) :
    wpAny (model prog w) A (pyNext (.ref it)) Q E s := by
  obtain ⟨o, ho, hc, hd⟩ := id hit
  unfold prmData at hd
  unfold pyNext
  refine wpAny_bind (wpAny_attempt (wpAny_callSpecial?_slot (name := Str.ofString "__next__") hit.typeIs slot_next (wpAny_call_entry slot_next hit.typeIs entry_next ?_ (args_next _))))
  unfold Builtin.«itertools.permutations.__next__»
  refine wpAny_bind (wpAny_of_eq (a := (Value.ref it, [])) rfl ?_)
  try dsimp only
  refine wpAny_bind (wpAny_field ho hd (x := .ref t) rfl ?_)
  try dsimp only
  refine wpAny_bind (pool_ ht ?_)
  try dsimp only
  unfold Builtin.Itertools.itIntField
  refine wpAny_bind (wpAny_bind (wpAny_field ho hd (x := rawInt (n : Int)) rfl ?_))
  try dsimp only
  refine wpAny_pure ?_
  try dsimp only
  refine wpAny_bind (numbers_ ho hd ?_)
  refine wpAny_bind (wpAny_bind (wpAny_field ho hd (x := rawInt 0) rfl ?_))
  try dsimp only
  refine wpAny_pure ?_
  try dsimp only
  show wpAny _ _ (setField (Value.ref it) 1 (rawInt 1) >>= _) _ _ s
  refine wpAny_bind (wpAny_setField ho hd (by simp) ?_)
  have hd2 : (Obj.mapFields (·.setIfInBounds 1 (rawInt 1)) o).data = prmData t 1 n last (ix ++ cy) := by
    rw [Obj.data_mapFields hd]; unfold prmData; simp
  have ho2 := Heap.get?_update_self (Obj.mapFields (·.setIfInBounds 1 (rawInt 1))) ho (Obj.isFreed_of_fields (Obj.data_mapFields hd _))
  have hsize : (s.heap.update it (Obj.mapFields (·.setIfInBounds 1 (rawInt 1)))).objs.size = s.heap.objs.size := Heap.size_update ..
  have etk : (ix ++ cy).take ((n : Int).toNat) = ix := by rw [Int.toNat_natCast, ← hl]; exact List.take_left
  refine wpAny_bind ?_
  wp_delta
  rw [etk]
  refine hand_ (s := { s with heap := s.heap.update it (Obj.mapFields (·.setIfInBounds 1 (rawInt 1))) }) ho2 ((Obj.cls_mapFields ..).trans hc) hd2 (by rw [hl]; exact hsz) fun h' g1 g2 g3 => ⟨_, rfl, wpAny_pure ?_⟩
  have fin := hQ h' (by rw [← hsize]; exact g1) (by rw [← hsize]; exact g2) fun b ob hb e => g3 b ob hb ((Heap.get?_update_other _ _ (Ne.symm hb)).trans e)
  rw [← hsize] at fin
  exact fin
end
end PRM
set_option Elab.async false
set_option linter.all false
set_option maxRecDepth 100000
set_option maxHeartbeats 4000000
namespace PRM
open PySem PySem.Spec PyProof.Rows L2
section
variable {prog : Program} {w : World} {A : Around} {E : Value → Shared → Prop} {s : Shared}
theorem set_numbers {it : Addr} {x y z u : Value} {ix jx : List Nat} {o : Obj} {Q : Unit → Shared → Prop} (hj : jx.length ≤ 2000) (ho : s.heap.get? it = some o) (hd : o.data = .fields ([x, y, z, u] ++ ix.map fun (i : Nat) => rawInt i).toArray)
    (h : ∀ h' o', h'.get? it = some o' → o'.cls = o.cls → o'.data = .fields ([x, y, z, u] ++ jx.map fun (i : Nat) => rawInt i).toArray → h'.objs.size = s.heap.objs.size → (∀ b ob, b ≠ it → s.heap.get? b = some ob → h'.get? b = some ob) → Q () { s with heap := h' }) :
    wpAny (model prog w) A (Builtin.Itertools.itSetNumbersFrom (.ref it) 4 jx) Q E s := by
  unfold Builtin.Itertools.itSetNumbersFrom
  dsimp only
  have he : (([x, y, z, u] ++ ix.map fun (i : Nat) => rawInt i).toArray.extract 0 4 ++ (jx.map fun (n : Nat) => rawInt n).toArray) = ([x, y, z, u] ++ jx.map fun (i : Nat) => rawInt i).toArray := by simp
  refine wpAny_updateFields ho hd ?_ (by rw [he, List.size_toArray, List.length_append, List.length_map, sizeLine_eq]; show 4 + jx.length ≤ _; omega)
  refine h _ _ (Heap.get?_update_self _ ho (Obj.isFreed_of_fields (Obj.data_mapFields hd _))) (Obj.cls_mapFields ..) ?_ (Heap.size_update ..) fun b ob hb e => (Heap.get?_update_other _ _ (Ne.symm hb)).trans e
  rw [Obj.data_mapFields hd]
  exact congrArg Data.fields he
theorem next_more {it t : Addr} {n : Nat} {last : Value} {ix cy jx dy : List Nat} {items : Array Value} {Q : Option Value → Shared → Prop} (hit : IsPrm s.heap it t 1 n last (ix ++ cy)) (ht : IsTup s.heap t items) (hi : items.size = n) (hl : ix.length = n) (hn : nextP n n ix cy = some (jx, dy)) (hj : jx.length = n) (hk : dy.length = n) (hsz : n ≤ 1000)
    (hQ : ∀ h', IsPrm h' it t 1 n (.ref s.heap.objs.size) (jx ++ dy) → IsTup h' s.heap.objs.size (jx.map fun i => items.getD i .none).toArray → (∀ b o, b ≠ it → s.heap.get? b = some o → h'.get? b = some o) → Q (some (.ref s.heap.objs.size)) { s with heap := h' }) :
    wpAny (model prog w) A (pyNext (.ref it)) Q E s := by
  obtain ⟨o, ho, hc, hd⟩ := id hit
  have hd0 := hd
  unfold prmData at hd
  have hlt : t ≠ it := ne_pool ho hc ht
  unfold pyNext
  refine wpAny_bind (wpAny_attempt (wpAny_callSpecial?_slot (name := Str.ofString "__next__") hit.typeIs slot_next (wpAny_call_entry slot_next hit.typeIs entry_next ?_ (args_next _))))
  unfold Builtin.«itertools.permutations.__next__»
  refine wpAny_bind (wpAny_of_eq (a := (Value.ref it, [])) rfl ?_)
  try dsimp only
  refine wpAny_bind (wpAny_field ho hd (x := .ref t) rfl ?_)
  try dsimp only
  refine wpAny_bind (pool_ ht ?_)
  try dsimp only
  unfold Builtin.Itertools.itIntField
  refine wpAny_bind (wpAny_bind (wpAny_field ho hd (x := rawInt (n : Int)) rfl ?_))
  try dsimp only
  refine wpAny_pure ?_
  try dsimp only
  refine wpAny_bind (numbers_ ho hd ?_)
  refine wpAny_bind (wpAny_bind (wpAny_field ho hd (x := rawInt 1) rfl ?_))
  try dsimp only
  refine wpAny_pure ?_
  try dsimp only
  have etk : (ix ++ cy).take items.size = ix := by rw [hi, ← hl]; exact List.take_left
  have edr : (ix ++ cy).drop items.size = cy := by rw [hi, ← hl]; exact List.drop_left
  have ern : ((n : Int).toNat) = n := Int.toNat_natCast n
  show wpAny _ _ (match (_ : Option (List Nat × List Nat)) with | some (indices, cycles) => _ | none => _) _ _ s
  split
  case h_2 heq =>
    have e := (nextP_of (by intros; rfl) (by intros; rfl) _ _ _ _).symm.trans heq
    rw [etk, edr, ern, hi, hn] at e
    cases e
  rename_i jx' dy' heq
  have e := (nextP_of (by intros; rfl) (by intros; rfl) _ _ _ _).symm.trans heq
  rw [etk, edr, ern, hi, hn] at e
  cases e
  refine wpAny_bind (set_numbers (by rw [List.length_append]; omega) ho hd fun h1 o1 ho1 hc1 hd1 hs1 k1 => ?_)
  refine wpAny_bind ?_
  wp_delta
  have etk2 : jx.take n = jx := List.take_of_length_le (by omega)
  rw [ern, etk2]
  refine hand_ (s := { s with heap := h1 }) (ph := 1) (last := last) (ns := jx ++ dy) ho1 (hc1.trans hc) hd1 (by omega) fun h' g1 g2 g3 => ⟨_, rfl, wpAny_pure ?_⟩
  have fin := hQ h' (by rw [← hs1]; exact g1) (by rw [← hs1]; exact g2) fun b ob hb e => g3 b ob hb (k1 b ob hb e)
  rw [← hs1] at fin
  exact fin
theorem next_end {it t : Addr} {n : Nat} {last : Value} {ix cy : List Nat} {items : Array Value} {Q : Option Value → Shared → Prop} (hh : A.in1.handled = none) (hit : IsPrm s.heap it t 1 n last (ix ++ cy)) (ht : IsTup s.heap t items) (hi : items.size = n) (hl : ix.length = n) (hn : nextP n n ix cy = none)
    (hQ : ∀ h', Heap.ExtBut it s.heap h' → Q none { s with heap := h' }) : wpAny (model prog w) A (pyNext (.ref it)) Q E s := by
  obtain ⟨o, ho, hc, hd⟩ := id hit
  unfold prmData at hd
  unfold pyNext
  refine wpAny_bind (wpAny_attempt (wpAny_callSpecial?_slot (name := Str.ofString "__next__") hit.typeIs slot_next (wpAny_call_entry slot_next hit.typeIs entry_next ?_ (args_next _))))
  unfold Builtin.«itertools.permutations.__next__»
  refine wpAny_bind (wpAny_of_eq (a := (Value.ref it, [])) rfl ?_)
  try dsimp only
  refine wpAny_bind (wpAny_field ho hd (x := .ref t) rfl ?_)
  try dsimp only
  refine wpAny_bind (pool_ ht ?_)
  try dsimp only
  unfold Builtin.Itertools.itIntField
  refine wpAny_bind (wpAny_bind (wpAny_field ho hd (x := rawInt (n : Int)) rfl ?_))
  try dsimp only
  refine wpAny_pure ?_
  try dsimp only
  refine wpAny_bind (numbers_ ho hd ?_)
  refine wpAny_bind (wpAny_bind (wpAny_field ho hd (x := rawInt 1) rfl ?_))
  try dsimp only
  refine wpAny_pure ?_
  try dsimp only
  have etk : (ix ++ cy).take items.size = ix := by rw [hi, ← hl]; exact List.take_left
  have edr : (ix ++ cy).drop items.size = cy := by rw [hi, ← hl]; exact List.drop_left
  have ern : ((n : Int).toNat) = n := Int.toNat_natCast n
  show wpAny _ _ (match (_ : Option (List Nat × List Nat)) with | some (indices, cycles) => _ | none => _) _ _ s
  split
  case h_1 heq =>
    have e := (nextP_of (by intros; rfl) (by intros; rfl) _ _ _ _).symm.trans heq
    rw [etk, edr, ern, hi, hn] at e
    cases e
  refine wpAny_bind (wpAny_setField ho hd (by simp) ?_)
  exact CMB.stop_ (s := { s with heap := s.heap.update it (Obj.mapFields (·.setIfInBounds 1 (rawInt 2))) }) hh fun h' eb => hQ h' fun b ob hb e => eb b ob hb ((Heap.get?_update_other _ _ (Ne.symm hb)).trans e)
end
/-! ### the walk -/
def ItP (n : Nat) : It where
  go := fun i H => ∃ s, seqP n i = some s ∧ s.1.length = n ∧ s.2.length = n ∧ ∀ x ∈ s.1, x < n
  yld := fun i H v H' => ∃ T s, v = .ref T ∧ H T = none ∧ H' = upd H T (.tup (s.1.map fun (x : Nat) => V.int x)) ∧ seqP n i = some s
  stop := fun i H => seqP n i = none
def PTn (n : Nat) (it t : Addr) : Nat → Heap → Prop
  | 0, h => CMB.PoolOk h t n ∧ t ≠ it ∧ ∃ last, IsPrm h it t 0 n last (List.range n ++ reset n)
  | i + 1, h => CMB.PoolOk h t n ∧ t ≠ it ∧ ∃ s last, seqP n i = some s ∧ s.1.length = n ∧ IsPrm h it t 1 n last (s.1 ++ s.2)
theorem IsPrm.at {h h' : Heap} {a t : Addr} {ph : Int} {n : Nat} {last : Value} {ns : List Nat} (x : IsPrm h a t ph n last ns) (e : ∀ o, h.get? a = some o → h'.get? a = some o) : IsPrm h' a t ph n last ns := let ⟨o, ho, r⟩ := x; ⟨o, e _ ho, r⟩
theorem PTn.pool {n : Nat} {it t : Addr} : ∀ {i : Nat} {h : Heap}, PTn n it t i h → CMB.PoolOk h t n ∧ t ≠ it ∧ ∃ ph last ns, IsPrm h it t ph n last ns
  | 0, h, ⟨a, b, last, z⟩ => ⟨a, b, _, _, _, z⟩
  | _ + 1, h, ⟨a, b, s, last, _, _, z⟩ => ⟨a, b, _, _, _, z⟩
theorem iter_ {A : Around} {prog : Program} {w : World} {E : Value → Shared → Prop} {s : Shared} {it t : Addr} {ph : Int} {n : Nat} {last : Value} {ns : List Nat} {Q : Value → Shared → Prop} (hit : IsPrm s.heap it t ph n last ns) (h : Q (.ref it) s) : wpAny (model prog w) A (pyIter (.ref it)) Q E s := by
  refine wpAny_pyIter_slot hit.typeIs slot_iter (wpAny_call_entry slot_iter hit.typeIs entry_iter ?_ (args_iter _))
  show wpAny _ _ (ret (.ref it)) _ _ s
  exact wpAny_pure ⟨_, rfl, "itertools.permutations", _, hit.typeIs, slot_next.lookup, h⟩
theorem turn_perm {P : Program} {w : World} {K : PySem.W.Frag} {tg : Expr} (n : Nat) (hn : n ≤ 1000) (it t : Addr) : Turn P w K tg (ItP n) [it, t] it (PTn n it t) where
  mem := by simp
  obj := fun i h st b hb => by
    obtain ⟨⟨items, ⟨ot, hot, hct, nn, hdt⟩, _⟩, hne, ph, last, ns, o, ho, hc, hd⟩ := st.pool
    rcases (show b = it ∨ b = t by simpa using hb) with rfl | rfl
    · exact ⟨o, ho, fun v q => by rw [hd] at q; cases q⟩
    · exact ⟨ot, hot, fun v q => by rw [hdt] at q; cases q⟩
  keep := fun i h h' st kp => by
    have k1 : ∀ o, h.get? it = some o → h'.get? it = some o := fun o => kp it (by simp) o
    have k2 : ∀ o, h.get? t = some o → h'.get? t = some o := fun o => kp t (by simp) o
    cases i with
    | zero =>
      obtain ⟨a, b, last, z⟩ := st
      exact ⟨a.at k2, b, last, z.at k1⟩
    | succ i =>
      obtain ⟨a, b, s, last, e, l, z⟩ := st
      exact ⟨a.at k2, b, s, last, e, l, z.at k1⟩
  item := by
    intro X hP hw hK hc i pins s σ H E I hf st hg
    subst hP hw hK
    obtain ⟨u, hu, hl1, hl2, hlt⟩ := hg
    obtain ⟨po, hne, _⟩ := st.pool
    have po' := po
    obtain ⟨items, tp, hsz, hi⟩ := po
    have fin : ∀ h', IsPrm h' it t 1 n (.ref s.heap.objs.size) (u.1 ++ u.2) → IsTup h' s.heap.objs.size (u.1.map fun i => items.getD i .none).toArray → (∀ b o, b ≠ it → s.heap.get? b = some o → h'.get? b = some o) →
        ∃ v, some (Value.ref s.heap.objs.size) = some v ∧ wpAny (model X.prog X.w) X.A (letOwnedTupleGo tg (.ref it) v) (fun _ s2 => ∃ x H', Inv X pins σ H' s2 ∧ RelV x v ∧ (ItP n).yld i H x H' ∧ PTn n it t (i + 1) s2.heap ∧ ∀ b ∈ [it, t], H' b = none) E { s with heap := h' } := by
      intro h' g1 g2 g3
      obtain ⟨o', ho', hc', hd'⟩ := id g1
      refine ⟨_, rfl, go_of ho' hc' hd' (by decide) ?_⟩
      have new : ObjOk X.prog X.w (upd H s.heap.objs.size (.tup (u.1.map fun (x : Nat) => V.int x))) h' s.heap.objs.size (.tup (u.1.map fun (x : Nat) => V.int x)) := by
        refine ⟨by rw [List.length_map, sizeLine_eq]; omega, _, CMB.vals_pick hi u.1 hlt, ?_⟩
        exact g2
      have I1 := I.turnedNew (h' := h') (t' := s.toks) (ch := [it, t]) (fun b ob hb q => g3 b ob (fun z => hb (by simp [z])) q) hf (Nat.le_refl _) new
      have hil : it < s.heap.objs.size := by
        obtain ⟨_, _, _, _, _, o, ho, _⟩ := st.pool
        exact Heap.lt_size ho
      have htl : t < s.heap.objs.size := let ⟨_, ho, _⟩ := tp; Heap.lt_size ho
      refine ⟨.ref s.heap.objs.size, _, I1, rfl, ⟨_, u, rfl, I.hok.fresh (Nat.le_refl _), rfl, hu⟩, ⟨po'.at fun o q => g3 t o hne q, hne, u, _, hu, hl1, g1⟩, fun b hb => ?_⟩
      have hb' : b < s.heap.objs.size := by
        rcases (show b = it ∨ b = t by simpa using hb) with rfl | rfl
        · exact hil
        · exact htl
      rw [upd_ne (Nat.ne_of_lt hb')]
      exact (hf b hb).1
    cases i with
    | zero =>
      obtain ⟨_, _, last, z⟩ := st
      have e : some (List.range n, reset n) = some u := hu
      cases e
      exact next_first z tp hl1 hn fin
    | succ i =>
      obtain ⟨_, _, v, last, e, lv, z⟩ := st
      have hx : nextP n n v.1 v.2 = some (u.1, u.2) := by
        have : (seqP n i).bind (fun s => nextP n n s.1 s.2) = some u := hu
        rw [e] at this
        exact this
      exact next_more z tp hsz lv hx hl1 hl2 hn fin
  done := by
    intro X hP hw hK hc i pins s σ H E I hf st hg
    subst hP hw hK
    obtain ⟨⟨items, tp, hsz, hi⟩, hne, _⟩ := st.pool
    obtain ⟨f0, f1, f2, f3, f4, f5⟩ := hf it (by simp)
    have hh : X.A.in1.handled = none := I.ok.hd hc
    have fin : ∀ h', Heap.ExtBut it s.heap h' → (none : Option Value) = none ∧ Inv X pins σ H { s with heap := h' } := fun h' eb => ⟨rfl, I.turned (t' := s.toks) (fun b o hb q => eb b o hb q) f0 f1 f3 f4 f5⟩
    cases i with
    | zero =>
      have e : seqP n 0 = none := hg
      cases e
    | succ i =>
      obtain ⟨_, _, v, last, e, lv, z⟩ := st
      have hx : nextP n n v.1 v.2 = none := by
        have : (seqP n i).bind (fun s => nextP n n s.1 s.2) = none := hg
        rw [e] at this
        exact this
      exact next_end hh z tp hsz lv hx fin
  self := fun A i s Q E st h => let ⟨_, _, _, _, _, z⟩ := st.pool; iter_ z h
theorem reset_range (n : Nat) : (List.range n).map (fun (i : Nat) => rawInt ((n : Int) - i)) = (reset n).map fun (i : Nat) => rawInt i := by
  have h : ∀ n : Nat, (List.range n).map (fun i => n - i) = reset n := fun n => by
    induction n with
    | zero => rfl
    | succ n ih =>
      rw [List.range_succ_eq_map, List.map_cons, List.map_map]
      show (n + 1) :: _ = (n + 1) :: reset n
      rw [← ih]
      congr 1
      refine List.map_congr_left fun i _ => ?_
      show n + 1 - (i + 1) = n - i
      omega
  rw [← h n, List.map_map]
  refine List.map_congr_left fun i hi => ?_
  have := List.mem_range.mp hi
  show rawInt ((n : Int) - (i : Nat)) = rawInt (((n - i : Nat)) : Int)
  congr 1
  omega
end PRM
set_option Elab.async false
set_option linter.all false
set_option maxRecDepth 100000
set_option maxHeartbeats 4000000
namespace PRM
open PySem PySem.Spec PyProof.Rows L2
section
variable {X : Cx} {a b e : Expr} {ta tb : TE}
def iPerm (tr : L2.St → Hp → (Int → Int → Hp → Prop) → Prop) : TI := fun σ H R => tr σ H fun i j H1 => ∃ n : Nat, i = 0 ∧ j = n ∧ n ≤ 1000 ∧ R (ItP n) H1
theorem pi_perm {tg : Expr} {x : Str} {tr : L2.St → Hp → (Int → Int → Hp → Prop) → Prop} {p pos : Pos} (hc : X.calm = true) (hg : Gl X x) (hm : X.mg x = some (.type "itertools.permutations")) (he : CMB.PRgF X e tr)
    (na : starEach [e] X.env = (false, eval e X.env) :: starEach [] X.env := by rfl) (hp : (backTo pos (starEach [] X.env)).any (·.1) = false := by rfl) (hd : (x == ("__debug__" : Str)) = false := by decide) (hcd : (x == ("__classdict__" : Str)) = false := by decide) :
    PI X tg (.Call (.Name x p) [e] [] pos) (iPerm tr) := by
  refine ⟨fun pins s σ H R I h => ?_⟩
  refine Call_ (ld_glob I hg hm (PyProof.Rows.callWith_type1 (args_cons (thn (he pins s σ H _ I h) fun x s1 ⟨r, i, j, t, u, v, H1, ex, hr, I1, fp, q1⟩ => args_nil ?_) na) na hp) hd)
  subst ex
  obtain ⟨n, rfl, rfl, hn, q⟩ := q1
  have hh : X.A.in1.handled = none := I1.ok.hd hc
  have hsm : Builtin.Range.small 0 (n : Int) 1 = true := small_one (by decide) (by decide) (by omega) (by omega)
  refine call_new hn hsm (by rw [rangeSize_nat]; show ((((n : Int) - 0).toNat : Nat) : Int) = n; omega) hh hr fun h' tk' acc kp it => ?_
  have I4 : Inv X pins σ H1 { s1 with heap := h', toks := tk' } := I1.kept kp
  have hz : (h'.push { cls := .type "tuple", data := .seq acc.toList.toArray }).objs.size = h'.objs.size + 1 := Heap.size_push ..
  have kp2 : ∀ b o, h'.get? b = some o → ((h'.push { cls := .type "tuple", data := .seq acc.toList.toArray }).push (prmObj h'.objs.size n)).get? b = some o := fun b o q => Heap.get?_push_of_some _ (Heap.get?_push_of_some _ q)
  have I5 : Inv X pins σ H1 { s1 with heap := (h'.push { cls := .type "tuple", data := .seq acc.toList.toArray }).push (prmObj h'.objs.size n), toks := tk' } := I4.kept (t' := tk') kp2
  have hcm : IsPrm ((h'.push { cls := .type "tuple", data := .seq acc.toList.toArray }).push (prmObj h'.objs.size n)) (h'.objs.size + 1) h'.objs.size 0 n .none (List.range n ++ reset n) := by
    refine ⟨prmObj h'.objs.size n, ?_, rfl, ?_⟩
    · rw [← hz]
      exact Heap.get?_push_size _ rfl
    · unfold prmObj prmData
      rw [reset_range, List.append_assoc, List.map_append]
  have hpool : CMB.PoolOk ((h'.push { cls := .type "tuple", data := .seq acc.toList.toArray }).push (prmObj h'.objs.size n)) h'.objs.size n := by
    refine CMB.PoolOk.at (h := h'.push { cls := .type "tuple", data := .seq acc.toList.toArray }) ⟨acc.toList.toArray, IsTup.new _ _, by rw [List.size_toArray, Array.length_toList]; exact it.1, fun j hj => ?_⟩ fun o q => Heap.get?_push_of_some _ q
    have hjs : j < acc.size := by rw [it.1]; exact hj
    obtain ⟨t', e⟩ := it.2 j acc[j] (Array.getElem?_eq_getElem hjs)
    refine ⟨t', ?_⟩
    rw [Array.toArray_toList, Array.getElem?_eq_getElem hjs, e]
    rw [show (0 : Int) + (j : Int) * 1 = j by omega]
  refine iter_ hcm ?_
  refine ⟨h'.objs.size + 1, [h'.objs.size + 1, h'.objs.size], PTn n (h'.objs.size + 1) h'.objs.size, _, H1, rfl, I5, turn_perm n hn _ _, ⟨hpool, Nat.ne_of_lt (Nat.lt_succ_self _), _, hcm⟩, fun b hb => ?_, q⟩
  have hle : h'.objs.size ≤ b := by
    rcases (show b = h'.objs.size + 1 ∨ b = h'.objs.size by simpa using hb) with rfl | rfl
    · exact Nat.le_succ _
    · exact Nat.le_refl _
  exact I4.fpOk hle (I4.hok.fresh hle)
end
end PRM
namespace AL
open PySem PySem.Spec PyProof.Rows L2
section
variable {X : Cx} {Φ : Cl} [ok : ClOk Φ] {pos : Pos} {e a b c : Expr} {wa wb wc : WE} {M : Addr → Prop} {σ : L2.St} {H : Hp} {ρ : Ev}
theorem seqP_perm (n i : Nat) : (PRM.seqP n i).map (·.1) = (PRM.permL n (List.range n))[i]? := by
  rw [PRM.seqP_get, ← PRM.permS_fst, List.getElem?_map]
theorem gives_perm {M : Addr → Prop} {H : Hp} {n : Nat} : Gives Φ.K M H (PRM.ItP n) ((PRM.permL n (List.range n)).map numsD) := by
  refine ⟨fun _ => True, fun i H v H' => ∃ T s, v = .ref T ∧ H T = none ∧ H' = upd H T (.tup (s.1.map fun (x : Nat) => V.int x)) ∧ PRM.seqP n i = some s, ?_, fun M' H' S => trivial, fun i M' H' H2 v S y => ?_⟩
  · rw [List.length_map]
    have hlen : (PRM.permL n (List.range n)).length = (PRM.permS n (List.range n)).length := by rw [← PRM.permS_fst, List.length_map]
    rw [hlen]
    refine ⟨fun i H hi _ => ?_, fun H _ => ?_, fun i H v H' hi _ y => y⟩
    · obtain ⟨a, b, c⟩ := PRM.permS_len n (List.range n) List.length_range _ (List.getElem_mem hi)
      exact ⟨(PRM.permS n (List.range n))[i], by rw [PRM.seqP_get, List.getElem?_eq_getElem hi], a, b, fun x hx => List.mem_range.mp (c x hx)⟩
    · show PRM.seqP n _ = none
      rw [PRM.seqP_get, List.getElem?_eq_none_iff]
      exact Nat.le_refl _
  · obtain ⟨T, s, rfl, hT, rfl, e⟩ := y
    have sm := same_upd (o := .tup (s.1.map fun (x : Nat) => V.int x)) hT
    refine ⟨sm, fun d hd => ?_⟩
    have e2 := seqP_perm n i
    rw [e] at e2
    rw [List.getElem?_map, ← e2] at hd
    cases hd
    exact .tup upd_same (nums_rp s.1)
/-- permutations(range(n)) -/
def wPermRg (wa : WE) : WI := fun ρ Q => wa ρ fun x ρ1 => match x with
  | .int n => (0 ≤ n ∧ n ≤ 1000) ∧ Q ((PRM.permL n.toNat (List.range n.toNat)).map numsD) ρ1
  | _ => False
theorem qi_permRg {tg : Expr} {x : Str} {p p2 pos2 : Pos} (hc : X.calm = true) (hg : Gl X x) (hm : X.mg x = some (.type "itertools.permutations")) (hg2 : Gl X "range") (hm2 : X.mg "range" = none) (ha : QE X Φ a wa)
    (na : starEach [.Call (.Name "range" p2) [a] [] pos2] X.env = (false, eval (.Call (.Name "range" p2) [a] [] pos2) X.env) :: starEach [] X.env := by rfl)
    (nc : starEach [a] X.env = (false, eval a X.env) :: starEach [] X.env := by rfl) (hp : (backTo pos (starEach [] X.env)).any (·.1) = false := by rfl) (hd : (x == ("__debug__" : Str)) = false := by decide) (hcd : (x == ("__classdict__" : Str)) = false := by decide) :
    QI X Φ tg (.Call (.Name x p) [.Call (.Name "range" p2) [a] [] pos2] [] pos) (wPermRg wa) := by
  refine ⟨fun ρ Q Q' h q => ha.mono ρ _ _ (fun x ρ1 q1 => ?_) q, PIw (PRM.pi_perm hc hg hm (CMB.prgF_1 hg2 hm2 ha.run nc) na hp hd hcd) fun σ H R ⟨M, ρ, A, q⟩ => ?_⟩
  · cases x <;> first | exact q1.elim | exact ⟨q1.1, h _ _ q1.2⟩
  · refine ⟨M, ρ, A, ha.mono ρ _ _ (fun x ρ1 q1 => ?_) q⟩
    intro M1 v H1 A1 S1 r1
    cases x with
    | int n =>
      cases r1
      obtain ⟨⟨n0, n1⟩, q3⟩ := q1
      refine ⟨n, rfl, n.toNat, rfl, by rw [Int.toNat_of_nonneg n0], by omega, ?_⟩
      exact q3 M1 H1 _ A1 S1 gives_perm
    | _ => exact q1.elim
end
end AL
set_option Elab.async false
set_option linter.all false
set_option maxRecDepth 100000
set_option maxHeartbeats 4000000
namespace AL
open PySem PySem.Spec PyProof.Rows L2
section
variable {X : Cx} {Φ : Cl} [ok : ClOk Φ] {pos : Pos} {a b e : Expr} {wa wb : WE} {M : Addr → Prop} {σ : L2.St} {H : Hp} {ρ : Ev}
/-- x is not y, truths -/
def kNotB : K2 := fun x y P => ∃ a b : Bool, x = .bl a ∧ y = .bl b ∧ P (.bl (!decide (a = b)))
theorem kNotB_mono : Mono2 kNotB := fun x y P P' h ⟨a, b, e, f, q⟩ => ⟨a, b, e, f, h _ q⟩
theorem kNotB_op {K : PySem.W.Frag} : Op2 K rNotB kNotB := fun M H v u x y P Q r1 r2 hM q fin => by
  obtain ⟨a, b, rfl, rfl, q⟩ := q
  exact ⟨a, b, r1.bl, r2.bl, fin _ _ H q (Same.refl H) (.bl _)⟩
/-- a, b = list(range(n)), []: two new lists to be changed -/
def wParRg (i j : Nat) (wa : WE) : WS := fun R ρ => wa ρ fun x ρ1 => match x with
  | .int k => (0 ≤ k ∧ k ≤ 1000) ∧ R.nx ((ρ1.set i (.own false (intsD 0 k.toNat))).set j (.own false []))
  | _ => False
theorem qs_parRg {i j : Nat} {x y : Str} {px py pt pa pb pc : Pos} {kt k2 pt2} {q1 q2 : Pos} (hc : X.calm = true) (hN : X.N.Nodup) (hi : X.N[i]? = some x) (hj : X.N[j]? = some y) (hij : i ≠ j)
    (hx : X.env.scope.names.lookup x = some .local) (hy : X.env.scope.names.lookup y = some .local) (hg : Gl X "list") (hm : X.mg "list" = none) (hg2 : Gl X "range") (hm2 : X.mg "range" = none) (ha : QE X Φ a wa)
    (hw : swappedStores [.Tuple [.Name x px, .Name y py] kt pt] (.Tuple [.Call (.Name "list" q1) [.Call (.Name "range" q2) [a] [] pc] [] pa, .List [] pb] k2 pt2) X.env = pure (some [x, y]))
    (hs : swapsWithSole [.Tuple [.Name x px, .Name y py] kt pt] (.Tuple [.Call (.Name "list" q1) [.Call (.Name "range" q2) [a] [] pc] [] pa, .List [] pb] k2 pt2) pos.line X.env = pure false := by rfl)
    (na : starEach [.Call (.Name "range" q2) [a] [] pc] X.env = (false, eval (.Call (.Name "range" q2) [a] [] pc) X.env) :: starEach [] X.env := by rfl) (nb : starEach [a] X.env = (false, eval a X.env) :: starEach [] X.env := by rfl)
    (s1 : starEach (.Call (.Name "list" q1) [.Call (.Name "range" q2) [a] [] pc] [] pa :: [.List [] pb]) X.env = (false, eval (.Call (.Name "list" q1) [.Call (.Name "range" q2) [a] [] pc] [] pa) X.env) :: starEach [.List [] pb] X.env := by rfl) (s2 : starEach (.List [] pb :: []) X.env = (false, eval (.List [] pb) X.env) :: starEach [] X.env := by rfl) :
    QS X Φ (.Assign [.Tuple [.Name x px, .Name y py] kt pt] (.Tuple [.Call (.Name "list" q1) [.Call (.Name "range" q2) [a] [] pc] [] pa, .List [] pb] k2 pt2) pos) (wParRg i j wa) := by
  refine ⟨fun ρ R R' h q => ha.mono ρ _ _ (fun x ρ1 q1 => ?_) q, PSw (ps_par hc hN hi hj hij hx hy (pa_cons (pe_listRg hc hg hm (prg_1 hg2 hm2 ha.run nb) na) (pa_cons (pe_lst pa_nil) pa_nil s2) s1) hw hs) fun D σ H ⟨M, ρ, A, q⟩ => ?_⟩
  · cases x <;> first | exact q1.elim | exact ⟨q1.1, h.nx _ q1.2⟩
  · refine ⟨M, ρ, A, ha.mono ρ _ _ (fun x ρ1 q1 => ?_) q⟩
    intro M1 v H1 A1 S1 r1
    cases x with
    | int k =>
      cases r1
      obtain ⟨hk, q2⟩ := q1
      refine ⟨k, rfl, RgOk.of_le (Int.le_refl _) (by omega) (by decide) hk.1, fun p hp => ⟨Nat.zero_le _, fun p2 hp2 => ⟨_, _, rfl, ?_⟩⟩⟩
      obtain ⟨A2, S2, N2⟩ := A1.add hp (rpAll_rg (j := k))
      have A3 := A2.storeOwn (i := i) N2
      obtain ⟨A4, S4, N4⟩ := A3.add (vs := []) (xs := []) hp2 .nil
      have A5 := A4.storeOwn (i := j) N4
      exact q2 _ _ _ A5 (S1.trans (S2.trans S4))
    | _ => exact q1.elim
end
end AL
set_option Elab.async false
set_option linter.all false
set_option maxRecDepth 100000
set_option maxHeartbeats 4000000
/-! a told list that is changed behind: new by the promise's own freedom of M -/
namespace AL
open PySem PySem.Spec PyProof.Rows L2
mutual
/-- no list in it -/
def D.noL : D → Bool
  | .tup xs => D.noLs xs
  | .lst _ => false
  | .scr _ => false
  | .raw _ => false
  | .dkt _ _ => false
  | .thk _ => false
  | _ => true
def D.noLs : List D → Bool
  | [] => true
  | x :: r => x.noL && D.noLs r
end
section
variable {K : PySem.W.Frag} {M M' : Addr → Prop} {H : Hp}
mutual
theorem Rp.any : ∀ {d : D} {v : V}, d.noL = true → Rp K M H v d → Rp K M' H v d
  | _, _, _, .non => .non
  | _, _, _, .bl b => .bl b
  | _, _, _, .int i => .int i
  | _, _, _, .str x => .str x
  | _, _, h, .tup e r => .tup e (RpAll.any h r)
  | _, _, h, .lst m e r => by simp [D.noL] at h
  | .scr w, _, h, r => by simp [D.noL] at h
  | .raw w, _, h, r => by simp [D.noL] at h
  | _, _, _, .dct e => .dct e
  | _, _, h, .dkt m e r => by simp [D.noL] at h
  | _, _, h, .thk _ a b c d => by simp [D.noL] at h
theorem RpAll.any : ∀ {ds : List D} {vs : List V}, D.noLs ds = true → RpAll K M H vs ds → RpAll K M' H vs ds
  | _, _, _, .nil => .nil
  | _, _, h, .cons r t => by
    have h' := Bool.and_eq_true_iff.mp h
    exact .cons (Rp.any h'.1 r) (RpAll.any h'.2 t)
end
theorem ScrAt.less (h : ∀ a, M' a → M a) {a : Addr} {ns : List Int} (s : ScrAt K M H a ns) : ScrAt K M' H a ns := by
  rcases s with s | s | s
  · exact .inl ⟨fun z => s.1 (h _ z), s.2⟩
  · exact .inr (.inl s)
  · exact .inr (.inr s)
mutual
theorem Rp.less (h : ∀ a, M' a → M a) : ∀ {d : D} {v : V}, Rp K M H v d → Rp K M' H v d
  | _, _, .non => .non
  | _, _, .bl b => .bl b
  | _, _, .int i => .int i
  | _, _, .str x => .str x
  | _, _, .tup e r => .tup e (RpAll.less h r)
  | _, _, .lst m e r => .lst (fun z => m (h _ z)) e (RpAll.less h r)
  | _, _, .scr s => .scr (s.less h)
  | _, _, .raw v => .raw v
  | _, _, .dct e => .dct e
  | _, _, .dkt m e r => .dkt (fun z => m (h _ z)) e (RpAll.less h r)
  | _, _, .thk q a m c d => .thk q a (fun z => m (h _ z)) c d
theorem RpAll.less (h : ∀ a, M' a → M a) : ∀ {ds : List D} {vs : List V}, RpAll K M H vs ds → RpAll K M' H vs ds
  | _, _, .nil => .nil
  | _, _, .cons r t => .cons (Rp.less h r) (RpAll.less h t)
end
end
/-- all that slots hold, as values: for what changes nothing -/
def viewE : En → En
  | .own _ xs => .d (.lst xs)
  | .dic _ => .un
  | .obj _ _ _ => .un
  | e => e
def viewOf (ρ : Ev) : Ev := ρ.map viewE
section
variable {X : Cx} {Φ : Cl} [ok : ClOk Φ] {pos : Pos} {e a b c : Expr} {es : List Expr} {wa wb wc : WE} {wr : WA} {wt : WT} {M : Addr → Prop} {σ : L2.St} {H : Hp} {ρ : Ev}
theorem view_abs (A : Abs Φ M σ H ρ) : Abs ⟨Φ.K, fun _ => False, fun _ => False, H, fun _ => none, noTb⟩ (fun _ => False) σ H (viewOf ρ) := by
  have get : ∀ (i : Nat) (e : En), (viewOf ρ)[i]? = some e → ∃ e0, ρ[i]? = some e0 ∧ e = viewE e0 := fun i e h => by
    unfold viewOf at h
    rw [List.getElem?_map] at h
    cases h0 : ρ[i]? with
    | none => rw [h0] at h; cases h
    | some e0 => rw [h0] at h; cases h; exact ⟨e0, rfl, rfl⟩
  refine ⟨by unfold viewOf; rw [List.length_map]; exact A.len, fun i e o h1 h2 => ?_, fun i j a w1 w2 xs ys h1 h2 h3 h4 => ?_, fun a h => h.elim, fun a h => h, fun a o h _ => h, fun a h => h, fun a o h => (by cases h), fun i j a xs ys h1 h2 h3 h4 => ?_, fun P q h => (by cases h), fun i j w F P e a _ h1 _ _ => (by
    obtain ⟨e0, _, z⟩ := get i _ h1
    cases e0 <;> cases z)⟩
  · obtain ⟨e0, h0, rfl⟩ := get i e h1
    have s := A.slot i e0 o h0 h2
    cases e0 with
    | un => trivial
    | d x => obtain ⟨v, e1, r⟩ := s; exact ⟨v, e1, r.less fun a h => h.elim⟩
    | own w xs => obtain ⟨a, vs, e1, m, h, r, _⟩ := s; exact ⟨_, e1, .lst (fun z => z) h (r.less fun a h => h.elim)⟩
    | dic ks => trivial
    | obj w F P => trivial
  · obtain ⟨e0, _, z⟩ := get i _ h1
    cases e0 <;> cases z
  · obtain ⟨e0, _, z⟩ := get i _ h1
    cases e0 <;> cases z
/-- a test that changes nothing -/
def liftPure (Φ : Cl) (w : WT) : TT := fun σ H Q => ∃ M ρ, Abs Φ M σ H ρ ∧ w (viewOf ρ) fun b _ => ∀ H', Same H H' → Q b H'
theorem pt_pure (h : ∀ (M W : Addr → Prop) (H0 T : Hp) [ClOk ⟨Φ.K, M, W, H0, T, noTb⟩], QT X ⟨Φ.K, M, W, H0, T, noTb⟩ e wt) : PT X e (liftPure Φ wt) := by
  refine ⟨fun pins s σ H Q I ⟨M, ρ, A, q⟩ => ?_⟩
  haveI : ClOk ⟨Φ.K, fun _ => False, fun _ => False, H, fun _ => none, noTb⟩ := ⟨fun b hb => hb.elim⟩
  have B := h (fun _ => False) (fun _ => False) H (fun _ => none)
  exact B.run.run pins s σ H Q I ⟨_, viewOf ρ, view_abs A, B.mono _ _ _ (fun b ρ' q' M' H' A' S' => q' H' (fun a o e => A'.keep a o e fun z => z)) q⟩
theorem pure_mono (h : ∀ (M W : Addr → Prop) (H0 T : Hp) [ClOk ⟨Φ.K, M, W, H0, T, noTb⟩], QT X ⟨Φ.K, M, W, H0, T, noTb⟩ e wt) : ∀ ρ Q Q', (∀ x ρ', Q x ρ' → Q' x ρ') → wt ρ Q → wt ρ Q' := by
  haveI : ClOk ⟨Φ.K, fun _ => False, fun _ => False, fun _ => none, fun _ => none, noTb⟩ := ⟨fun b hb => hb.elim⟩
  exact (h (fun _ => False) (fun _ => False) (fun _ => none) (fun _ => none)).mono
/-- x = f(..); if test: ..; x[1].append(n): what is told has no list in it that stood ahead -/
def wTold (s : ASp) (i : Nat) (wr : WA) (wt : WT) : WS := fun R ρ => wr ρ fun xs ρ1 => D.noLs xs = true ∧ s xs fun y => ∃ x ys, y = .tup [x, .lst ys] ∧ ys.length < sizeLine ∧ i < ρ1.length ∧ wt (viewOf (ρ1.set i (.d y))) fun b _ => b = false ∧ R.nx (ρ1.set i .un)
variable {k : Nat} {f : Addr} {fd : FuncData} {ps : List Str} {fx : Str} {CX : CXT} {E : XK}
theorem qss_told {i : Nat} {x : Str} {n : Int} {s : ASp} {body : List Stmt} {p1 p2 p3 p4 p5 p6 p7 p8 p9 p10 p11 p12 : Pos} {j1 j2} (hK : X.K = Φ.K) (hN : X.N.Nodup) (hi : X.N[i]? = some x) (hx : Loc X.env.scope x) (hv : Vis X.env.scope x)
    (sm : MonoA s) (F : FnOk X.prog X.w X.K X.mg X.base CX k f fd ps (liftSp Φ.K s)) (hr : Room k X.A) (hm : X.mg fx = some (.ref f)) (hk : PySem.W.keepIn X.K (.ref f) = true) (hb : Binds X.K fd ps []) (hxp : Passes CX X E)
    (ha : QA X Φ (e :: es) wr) (ht : ∀ (M W : Addr → Prop) (H0 T : Hp) [ClOk ⟨Φ.K, M, W, H0, T, noTb⟩], QT X ⟨Φ.K, M, W, H0, T, noTb⟩ c wt) (hg : Gl X fx := by rfl)
    (hdb : (fx == ("__debug__" : Str)) = false := by decide) (he : starEach (e :: es) X.env = (false, eval e X.env) :: starEach es X.env := by rfl) (hpl : (backTo p2 (starEach es X.env)).any (·.1) = false := by rfl)
    (hs : swapsWith (.Call (.Name fx p1) (e :: es) [] p2) (some (.Name x p3)) p4.line X.env = pure false := by rfl) (hf : X.fn x = true ∨ X.env.scope.names.lookup x = some .local := by first | exact .inl rfl | exact .inr rfl)
    (hdx : (x == ("__debug__" : Str)) = false := by decide) (hcx : (x == ("__classdict__" : Str)) = false := by decide)
    (hbase : attributeBase (.Subscript (.Name x p6) (.Constant (.int 1) j1 p7) p8) "append" X.env (eval (.Subscript (.Name x p6) (.Constant (.int 1) j1 p7) p8) X.env) = eval (.Subscript (.Name x p6) (.Constant (.int 1) j1 p7) p8) X.env := by rfl)
    (hfew : ((backTo p11 (starEach (.Constant (.int n) j2 p10 :: []) X.env)).all (fun x => !x.1) && (backToKw p11 (keywordEach [] X.env)).all (fun x => x.1.isSome) && decide ((.Constant (.int n) j2 p10 :: [] : List Expr).length + ([] : List Keyword).length + (if ([] : List Keyword).isEmpty then 0 else 1) < 30)) = true := by rfl)
    (hline : (p9.endLine == p11.line) = true := by rfl) (hs2 : starEach (.Constant (.int n) j2 p10 :: []) X.env = (false, eval (.Constant (.int n) j2 p10) X.env) :: starEach [] X.env := by rfl) (hpl2 : (backTo p11 (starEach [] X.env)).any (·.1) = false := by rfl)
    (hs3 : swapsWith (.Call (.Attribute (.Subscript (.Name x p6) (.Constant (.int 1) j1 p7) p8) "append" p9) [.Constant (.int n) j2 p10] [] p11) none p12.line X.env = pure false := by rfl) :
    QSs X Φ [.Assign [.Name x p3] (.Call (.Name fx p1) (e :: es) [] p2) p4, .If c body [] p5, .Expr (.Call (.Attribute (.Subscript (.Name x p6) (.Constant (.int 1) j1 p7) p8) "append" p9) [.Constant (.int n) j2 p10] [] p11) p12] (wTold s i wr wt) := by
  have tm := pure_mono (Φ := Φ) ht
  refine ⟨fun ρ R R' h q => ha.mono ρ _ _ (fun xs ρ1 q1 => ⟨q1.1, sm xs _ _ (fun y ⟨z, ys, e1, e2, e3, e4⟩ => ⟨z, ys, e1, e2, e3, tm _ _ _ (fun b _ q => ⟨q.1, h.nx _ q.2⟩) e4⟩) q1.2⟩) q,
    PSsw (pss_cons (ps_set hN hi hx (pe_call F hr hg hm hk hb .nil hxp ha.run hdb he hpl) hs hf) (pss_cons (ps_if (pt_pure (Φ := Φ) ht) pss_never pss_nil) (pss_one (ps_expr (pe_bm PySem.F.plainAttrs_list PySem.F.slot_list_append PySem.F.type_list_append mt_append (pe_ix ix_seq (pe_var hi hv hdx hcx) pe_int (fun _ _ => rfl)) (pa_cons pe_int pa_nil hs2) hbase hfew hline hs2 hpl2) hs3)))) fun D σ H ⟨M, ρ, A, q⟩ => ?_⟩
  refine ⟨M, ρ, A, ha.mono ρ _ _ (fun xs ρ1 q1 => ?_) q⟩
  intro M1 vs H1 A1 S1 r1
  obtain ⟨hno, q1⟩ := q1
  rw [List.append_nil]
  refine ⟨fun a => M1 a ∨ ∃ vs, H1 a = some (.lst vs), xs, fun p hp => ?_, r1.any hno, sm xs _ _ (fun y p v H' s' r' => ?_) q1⟩
  · rcases hp with hp | ⟨us, hp⟩
    · exact A1.lst p hp
    · exact ⟨_, hp, trivial⟩
  obtain ⟨z, ys, rfl, hz, hil, p⟩ := p
  have r2 : Rp Φ.K M1 H' v (.tup [z, .lst ys]) := r'.less fun a h => .inl h
  have A2 := (A1.same s').store (i := i) r2
  refine ⟨M1, _, A2, tm _ _ _ (fun b _ q3 => ?_) p⟩
  obtain ⟨rfl, q3⟩ := q3
  intro H2 s2
  refine iteF ?_
  cases r' with
  | tup hT rr =>
    rename_i t us
    cases rr with
    | cons ru rr =>
      cases rr with
      | cons rl rn =>
        cases rn
        cases rl with
        | lst nm hp rp =>
          rename_i u pa us'
          have hil2 : i < σ.length := by rw [A1.len]; exact hil
          have fresh : ∀ b o, H1 b = some o → b ≠ pa := fun b o hb z => by
            have z1 := s' b o hb
            rw [z, hp] at z1
            cases z1
            exact nm (.inr ⟨_, by rw [← z]; exact hb⟩)
          refine ⟨.ref t, List.getElem?_set_self hil2, .inr (.inl ⟨t, [u, .ref pa], 1, .ref pa, rfl, rfl, .of (s2 _ _ hT), rfl, ?_⟩)⟩
          have hp2 := s2 _ _ hp
          refine ⟨.inl ⟨rfl, _, SqL.of hp2⟩, ?_⟩
          refine ⟨pa, us', .int n, rfl, rfl, hp2, by rw [rp.length]; exact hz, ?_⟩
          have s3 : Same H1 (upd H2 pa (.lst (us' ++ [.int n]))) := fun b o hb => by
            rw [upd_ne (fresh b o hb)]
            exact s2 _ _ (s' _ _ hb)
          exact q3 M1 _ _ ((A1.same s3).wiped [i] (by rw [List.length_set]) (fun j hj => List.getElem?_set_ne (fun z => hj (by rw [z]; exact List.mem_cons_self)))) (S1.trans (step_same s3))
/-- xs.count(k), whole numbers -/
def isCnt (l y : D) (P : D → Prop) : Prop := ∃ (ns : List Int) (k : Int), l = .lst (ns.map D.int) ∧ y = .int k ∧ P (.int (ns.count k : Nat))
def wCnt (i : Nat) (wa : WE) : WE := fun ρ Q => valE ρ[i]? fun l0 => (∃ xs, l0 = .lst xs) ∧ wa ρ fun x ρ1 => valE ρ1[i]? fun l => isCnt l x fun z => Q z ρ1
theorem isCnt_mono {l x : D} {P P' : D → Prop} (h : ∀ z, P z → P' z) (q : isCnt l x P) : isCnt l x P' := let ⟨a, b, c, d, p⟩ := q; ⟨a, b, c, d, h _ p⟩
theorem qe_cnt {i : Nat} {x : Str} {p : Pos} (hK : X.K = Φ.K) (hN : X.N[i]? = some x) (hv : Vis X.env.scope x) (ha : QE X Φ e wa) (hd : (x == ("__debug__" : Str)) = false := by decide) (hcd : (x == ("__classdict__" : Str)) = false := by decide)
    (mk : ∀ ta tb, PE X (.Name x p) ta → PA X [e] tb → PE X c (tBM X.K "list" (rCntI X.K) ta tb)) (hs : starEach (e :: []) X.env = (false, eval e X.env) :: starEach [] X.env := by rfl) : QE X Φ c (wCnt i wa) := by
  refine ⟨fun ρ Q Q' h q => valE_mono (fun l p => ⟨p.1, ha.mono ρ _ _ (fun x ρ1 q1 => valE_mono (fun l p => isCnt_mono (fun z p => h _ _ p) p) q1) p.2⟩) q, PEw (mk _ _ (pe_var hN hv hd hcd) (pa_cons ha.run pa_nil hs)) fun σ H Q ⟨M, ρ, A, q⟩ => ?_⟩
  obtain ⟨v, l0, es, r0, ⟨xs0, rfl⟩, q⟩ := valE_rp A q
  obtain ⟨a0, vs0, rfl, hh0, rr0⟩ := r0.lst
  refine ⟨.ref a0, es, .inl ⟨rfl, _, SqL.of hh0⟩, M, ρ, A, ha.mono ρ _ _ (fun x ρ1 q1 => ?_) q⟩
  intro M1 u H1 A1 S1 r1
  obtain ⟨v1, l1, es1, r2, ns, k, rfl, rfl, p⟩ := valE_rp A1 q1
  rw [es] at es1; cases es1
  obtain ⟨a1, vs1, e1, hh1, rr1⟩ := r2.lst
  cases e1
  have ev := rp_ints rr1
  subst ev
  cases r1
  exact ⟨a0, ns, k, rfl, rfl, .of hh1, p M1 _ H1 A1 S1 (.int _)⟩
end
end AL
set_option Elab.async false
set_option linter.all false
set_option maxRecDepth 100000
set_option maxHeartbeats 2000000
namespace FW
open PySem PySem.Spec PyProof.Rows L2 AL
/-! ### the data of candles -/
abbrev Cd := Int × Int × Int
def cD (c : Cd) : D := .tup [.int c.1, .int c.2.1, .int c.2.2]
def csD (cs : List Cd) : D := .tup (cs.map cD)
def good (c : Cd) : Prop := (1 ≤ c.1 ∧ c.1 ≤ 99) ∧ (0 ≤ c.2.1 ∧ c.2.1 ≤ 999) ∧ (1 ≤ c.2.2 ∧ c.2.2 ≤ 99)
structure Gd (cs : List Cd) : Prop where
  len : cs.length ≤ 13
  all : ∀ c ∈ cs, good c
structure Goods (cs : List Cd) : Prop where
  len : cs.length ≤ 12
  all : ∀ c ∈ cs, good c
theorem Goods.gd {cs : List Cd} (G : Goods cs) : Gd cs := ⟨Nat.le_succ_of_le G.len, G.all⟩
def nD (n : Nat) : D := .int (n : Int)
def lotD (lot : List Nat) : D := .tup (lot.map nD)
def isSeq (d : D) (ns : List Nat) : Prop := d = .lst (ns.map nD) ∨ d = .tup (ns.map nD)
/-- rising, below n -/
def isLot (n : Nat) (lot : List Nat) : Prop := lot.Pairwise (· < ·) ∧ ∀ k ∈ lot, k < n
/-- numbers of candles -/
structure Nums (cs : List Cd) (ns : List Nat) : Prop where
  lt : ∀ n ∈ ns, n < cs.length
  len : ns.length ≤ 13
def within (x : D) (lo hi : Int) : Bool := match x with
  | .int i => decide (lo ≤ i) && decide (i ≤ hi)
  | _ => false
def fsp {α : Type} (enc : α → List D) (pre : α → Prop) (f : α → D) : ASp := fun xs Q => ∃ a, xs = enc a ∧ pre a ∧ Q (f a)
theorem fsp_mono {α : Type} {enc : α → List D} {pre : α → Prop} {f : α → D} : MonoA (fsp enc pre f) := fun xs P P' h ⟨a, e, p, q⟩ => ⟨a, e, p, h _ q⟩
def isInt (x : D) : Bool := match x with
  | .int _ => true
  | _ => false
def endC (c : Cd) : Int := c.2.1 + c.1
def at' (cs : List Cd) (n : Nat) : Cd := cs.getD n (1, 0, 1)
def pick (cs : List Cd) (ns : List Nat) : List Cd := ns.map (at' cs)
/-- one candle in its turn: lasts, what is lit (time, number) -/
def turn1 (cs : List Cd) (s : Int × List (Int × Int)) (n : Nat) : Int × List (Int × Int) :=
  let c := at' cs n
  let t := if c.2.1 < s.1 then c.2.1 else s.1
  if s.1 < t + c.1 then (t + c.1, s.2 ++ [(t, (n : Int))]) else s
def turnL (cs : List Cd) (T : Int) (ns : List Nat) : Int × List (Int × Int) := ns.foldl (turn1 cs) (T, [])
def turnM (cs : List Cd) (ns : List Nat) : Int × List (Int × Int) := ns.foldl (turn1 cs) (0, [])
/-- (time, number) as a step of a plan -/
def stepD (p : Int × Int) : D := .tup [.int p.2, .int p.1]
def risingE (cs : List Cd) (ns : List Nat) : Prop := ns.Pairwise fun i j => lexLe (endC (at' cs i), (i : Int)) (endC (at' cs j), (j : Int))
def isRising (cs : List Cd) (ns : List Nat) : Prop := ns.Perm (List.range cs.length) ∧ risingE cs ns
def LongestR (cs : List Cd) (t : Int) (qs : List (Int × Int)) : Prop := ∃ ns, isRising cs ns ∧ t = (turnM cs ns).1 ∧ qs.Perm (turnM cs ns).2 ∧ qs.Pairwise lexLe
/-- the bound by an end -/
def bndE (cs : List Cd) (e : Int) : Int := e + ((cs.filter fun c => decide (e < endC c)).map (·.1)).sum
def isBest (cs : List Cd) (t : Int) : Prop := (∀ e ∈ (0 : Int) :: cs.map endC, t ≤ bndE cs e) ∧ ∃ e ∈ (0 : Int) :: cs.map endC, t = bndE cs e
@[irreducible] def best (cs : List Cd) : Int := (cs.map fun c => bndE cs (endC c)).foldl (fun a b => if b < a then b else a) (bndE cs 0)
def lens (cs : List Cd) (ns : List Nat) : Int := (ns.map fun n => (at' cs n).1).sum
def bndOf (cs : List Cd) (lot : List Nat) (n : Nat) : Int := endC (at' cs n) + lens cs (lot.filter fun k => decide (endC (at' cs n) < endC (at' cs k)))
def boundsM (cs : List Cd) (lot : List Nat) (x : D) : D := match x with
  | .non => .int (lens cs lot)
  | .int i => if within (.int i) 0 (cs.length - 1) = true ∧ i.toNat ∈ lot then .int (bndOf cs lot i.toNat) else .non
  | _ => .non
def bound1 (cs : List Cd) (lot : List Nat) (s : Int × D) (n : Nat) : Int × D := if bndOf cs lot n < s.1 then (bndOf cs lot n, nD n) else s
def boundM (cs : List Cd) (lot : List Nat) : Int × D := lot.foldl (bound1 cs lot) (lens cs lot, .non)
def judgeGo (cs : List Cd) : List (Int × Int) → List Int → Int → Int → Option Int
  | [], _, _, T => some T
  | (t, n) :: r, lit, e, T => if (0 ≤ n ∧ n < cs.length) ∧ n ∉ lit ∧ e ≤ t ∧ t ≤ (at' cs n.toNat).2.1 ∧ t ≤ T then judgeGo cs r (lit ++ [n]) t (if t + (at' cs n.toNat).1 > T then t + (at' cs n.toNat).1 else T) else none
def judgeM (cs : List Cd) (ps : List (Int × Int)) : Option Int := judgeGo cs ps [] 0 0
/-- another candle in the place of one -/
def repl (cs : List Cd) (n : Nat) (c : Cd) : List Cd := cs.take n ++ c :: cs.drop (n + 1)
def keepB (cs : List Cd) (t : Int) : Bool := decide (t ≤ best cs)
def minus (lot gone : List Nat) : List Nat := lot.filter fun k => !decide (k ∈ gone)
def spareB (cs : List Cd) (t : Int) (n : Nat) : Bool := keepB (pick cs (minus (List.range cs.length) [n])) t
def leanStep (cs : List Cd) (t : Int) (left : List Nat) (n : Nat) : List Nat := if keepB (pick cs (minus left [n])) t = true then minus left [n] else left
def leanM (cs : List Cd) (t : Int) : List Nat := ((List.range cs.length).reverse).foldl (leanStep cs t) (List.range cs.length)
def withLen (cs : List Cd) (n : Nat) (l : Int) : List Cd := repl cs n (l, (at' cs n).2.1, (at' cs n).2.2)
def withDamp (cs : List Cd) (n : Nat) (d : Int) : List Cd := repl cs n ((at' cs n).1, d, (at' cs n).2.2)
structure LeastLen (cs : List Cd) (t : Int) (n : Nat) (l : Int) : Prop where
  lo : 1 ≤ l
  hi : l ≤ (at' cs n).1
  ok : t ≤ best (withLen cs n l)
  no : ∀ m, 1 ≤ m → m < l → best (withLen cs n m) < t
structure SoonDamp (cs : List Cd) (t : Int) (n : Nat) (l : Int) : Prop where
  lo : 0 ≤ l
  hi : l ≤ (at' cs n).2.1
  ok : t ≤ best (withDamp cs n l)
  no : ∀ m, 0 ≤ m → m < l → best (withDamp cs n m) < t
/-- the answer of one_more -/
inductive OneMore (cs : List Cd) (t d : Int) : D → Prop
  | zero : t ≤ best cs → OneMore cs t d (.int 0)
  | some {l : Int} : best cs < t → 1 ≤ l → l ≤ 99 → t ≤ best (cs ++ [(l, d, 1)]) → (∀ m, 1 ≤ m → m < l → best (cs ++ [(m, d, 1)]) < t) → OneMore cs t d (.int l)
  | none : best cs < t → (∀ m, 1 ≤ m → m ≤ 99 → best (cs ++ [(m, d, 1)]) < t) → OneMore cs t d .non
/-! ### what the program's defs promise -/
def sp_is_whole : ASp := fsp (fun x => [x]) (fun x => x.isRaw = false) fun x => .bl (isInt x)
def sp_is_within : ASp := fsp (fun a : D × Int × Int => [a.1, .int a.2.1, .int a.2.2]) (fun a => a.1.isRaw = false) fun a => .bl (within a.1 a.2.1 a.2.2)
def sp_is_candle : ASp := fsp (fun c : Cd => [cD c]) good fun _ => .bl true
def sp_is_candle_number : ASp := fsp (fun a : List Cd × D => [csD a.1, a.2]) (fun a => a.2.isRaw = false) fun a => .bl (within a.2 0 (a.1.length - 1))
def sp_check_candles : ASp := fsp (fun cs : List Cd => [csD cs]) Goods fun _ => .non
def sp_check_lot : ASp := fsp (fun a : List Cd × List Nat => [csD a.1, lotD a.2]) (fun a => Goods a.1 ∧ isLot a.1.length a.2) fun _ => .non
def sp_check_turn : ASp := fsp (fun a : List Cd × List Nat => [csD a.1, lotD a.2]) (fun a => Goods a.1 ∧ a.2.Nodup ∧ ∀ n ∈ a.2, n < a.1.length) fun _ => .non
def sp_check_within : ASp := fsp (fun a : Int × Int × Int => [.int a.1, .int a.2.1, .int a.2.2]) (fun a => a.2.1 ≤ a.1 ∧ a.1 ≤ a.2.2) fun _ => .non
def sp_check_time : ASp := fsp (fun t : Int => [.int t]) (fun t => 0 ≤ t ∧ t ≤ 9999) fun _ => .non
def sp_check_few : ASp := fsp (fun cs : List Cd => [csD cs]) (fun cs => cs.length ≤ 8) fun _ => .non
def sp_all_numbers : ASp := fsp (fun cs : List Cd => [csD cs]) Gd fun cs => lotD (List.range cs.length)
def sp_latest_end : ASp := fsp (fun c : Cd => [cD c]) (fun _ => True) fun c => .int (endC c)
def sp_by_latest_end : ASp := fun xs Q => ∃ cs ns d, xs = [csD cs, d] ∧ isSeq d ns ∧ Nums cs ns ∧ ∀ ms : List Nat, ms.Perm ns → risingE cs ms → Q (.lst (ms.map nD))
def sp_lit_in_turn : ASp := fun xs Q => ∃ cs ns d T, xs = [csD cs, d, .int T] ∧ isSeq d ns ∧ Nums cs ns ∧ Q (.tup [.int (turnL cs T ns).1, .lst ((turnL cs T ns).2.map AL.pairD)])
def sp_longest_from : ASp := fun xs Q => ∃ cs ns d, xs = [csD cs, d, .int 0] ∧ isSeq d ns ∧ Gd cs ∧ Nums cs ns ∧ Q (.int (best (pick cs ns)))
def sp_longest_of : ASp := fun xs Q => ∃ cs ns d, xs = [csD cs, d] ∧ isSeq d ns ∧ Gd cs ∧ Nums cs ns ∧ Q (.int (best (pick cs ns)))
def sp_planned : ASp := fun xs Q => ∃ cs ns d, xs = [csD cs, d] ∧ isSeq d ns ∧ Nums cs ns ∧ ∀ qs : List (Int × Int), qs.Perm (turnM cs ns).2 → qs.Pairwise lexLe → Q (.tup [.int (turnM cs ns).1, .lst (qs.map stepD)])
def sp_longest : ASp := fun xs Q => ∃ cs, xs = [csD cs] ∧ Goods cs ∧ ∀ (t : Int) (qs : List (Int × Int)), LongestR cs t qs → Q (.tup [.int t, .lst (qs.map stepD)])
def sp_by_turn : ASp := fun xs Q => ∃ cs ns, xs = [csD cs, lotD ns] ∧ Goods cs ∧ ns.Nodup ∧ (∀ n ∈ ns, n < cs.length) ∧ ∀ qs : List (Int × Int), qs.Perm (turnM cs ns).2 → qs.Pairwise lexLe → Q (.tup [.int (turnM cs ns).1, .lst (qs.map stepD)])
def sp_lengths_together : ASp := fun xs Q => ∃ cs ns d, xs = [csD cs, d] ∧ isSeq d ns ∧ (∀ n ∈ ns, n < cs.length) ∧ ns.length ≤ 12 ∧ Q (.int (lens cs ns))
def sp_bound_by_candle : ASp := fsp (fun a : List Cd × List Nat × Nat => [csD a.1, lotD a.2.1, nD a.2.2]) (fun a => (∀ n ∈ a.2.1, n < a.1.length) ∧ a.2.1.length ≤ 12 ∧ a.2.2 < a.1.length) fun a => .int (bndOf a.1 a.2.1 a.2.2)
def sp_bounds : ASp := fsp (fun a : List Cd × List Nat × D => [csD a.1, lotD a.2.1, a.2.2]) (fun a => Goods a.1 ∧ isLot a.1.length a.2.1 ∧ a.2.2.isRaw = false) fun a => boundsM a.1 a.2.1 a.2.2
def sp_bound : ASp := fsp (fun a : List Cd × List Nat => [csD a.1, lotD a.2]) (fun a => Goods a.1 ∧ isLot a.1.length a.2) fun a => .tup [.int (boundM a.1 a.2).1, (boundM a.1 a.2).2]
def sp_is_step : ASp := fsp (fun a : List Cd × Int × Int => [csD a.1, stepD a.2]) (fun a => 0 ≤ a.2.2 ∧ a.2.2 < a.1.length) fun _ => .bl true
def sp_judged : ASp := fun xs Q => ∃ cs ps t, xs = [csD cs, .lst (ps.map stepD)] ∧ Goods cs ∧ ps.length ≤ 12 ∧ judgeM cs ps = some t ∧ Q (.int t)
def sp_lot_keeps : ASp := fun xs Q => ∃ cs ns d t, xs = [csD cs, d, .int t] ∧ isSeq d ns ∧ Gd cs ∧ Nums cs ns ∧ Q (.bl (keepB (pick cs ns) t))
def sp_keeps : ASp := fun xs Q => ∃ cs ns t, xs = [csD cs, lotD ns, .int t] ∧ Goods cs ∧ isLot cs.length ns ∧ 0 ≤ t ∧ t ≤ 9999 ∧ Q (.bl (keepB (pick cs ns) t))
def sp_all_keep : ASp := fun xs Q => ∃ cs t, xs = [csD cs, .int t] ∧ Gd cs ∧ Q (.bl (keepB cs t))
def sp_check_watch : ASp := fun xs Q => ∃ cs t, xs = [csD cs, .int t] ∧ Goods cs ∧ 0 ≤ t ∧ t ≤ 9999 ∧ t ≤ best cs ∧ Q .non
def sp_without : ASp := fun xs Q => ∃ ns gone, xs = [lotD ns, lotD gone] ∧ ns.length ≤ 13 ∧ Q (lotD (minus ns gone))
def sp_is_spare : ASp := fun xs Q => ∃ cs t n, xs = [csD cs, .int t, nD n] ∧ Gd cs ∧ Q (.bl (spareB cs t n))
def sp_keeps_with : ASp := fun xs Q => ∃ cs t n c, xs = [csD cs, .int t, nD n, cD c] ∧ Goods cs ∧ n < cs.length ∧ good c ∧ Q (.bl (keepB (repl cs n c) t))
def sp_least_length : ASp := fun xs Q => ∃ cs t n, xs = [csD cs, .int t, nD n] ∧ Goods cs ∧ n < cs.length ∧ t ≤ best cs ∧ ∀ l, LeastLen cs t n l → Q (.int l)
def sp_soonest_damp : ASp := fun xs Q => ∃ cs t n, xs = [csD cs, .int t, nD n] ∧ Goods cs ∧ n < cs.length ∧ t ≤ best cs ∧ ∀ l, SoonDamp cs t n l → Q (.int l)
def sp_spare : ASp := fun xs Q => ∃ cs t, xs = [csD cs, .int t] ∧ Goods cs ∧ 0 ≤ t ∧ t ≤ 9999 ∧ t ≤ best cs ∧ Q (.lst (((List.range cs.length).filter (spareB cs t)).map nD))
def sp_lean : ASp := fun xs Q => ∃ cs t, xs = [csD cs, .int t] ∧ Goods cs ∧ 0 ≤ t ∧ t ≤ 9999 ∧ t ≤ best cs ∧ Q (lotD (leanM cs t))
def sp_slack : ASp := fun xs Q => ∃ cs t n, xs = [csD cs, .int t, nD n] ∧ Goods cs ∧ 0 ≤ t ∧ t ≤ 9999 ∧ t ≤ best cs ∧ n < cs.length ∧ (spareB cs t n = true → Q (.tup [.int 0, .int 0])) ∧ (spareB cs t n = false → ∀ l d, LeastLen cs t n l → SoonDamp cs t n d → Q (.tup [.int l, .int d]))
def sp_one_more : ASp := fun xs Q => ∃ cs t d, xs = [csD cs, .int t, .int d] ∧ Goods cs ∧ 0 ≤ t ∧ t ≤ 9999 ∧ 0 ≤ d ∧ d ≤ 999 ∧ ∀ x, OneMore cs t d x → Q x
theorem mono_is_whole : MonoA sp_is_whole := fsp_mono
theorem mono_is_within : MonoA sp_is_within := fsp_mono
theorem mono_is_candle : MonoA sp_is_candle := fsp_mono
theorem mono_is_candle_number : MonoA sp_is_candle_number := fsp_mono
theorem mono_check_candles : MonoA sp_check_candles := fsp_mono
theorem mono_check_lot : MonoA sp_check_lot := fsp_mono
theorem mono_check_turn : MonoA sp_check_turn := fsp_mono
theorem mono_check_within : MonoA sp_check_within := fsp_mono
theorem mono_check_time : MonoA sp_check_time := fsp_mono
theorem mono_check_few : MonoA sp_check_few := fsp_mono
theorem mono_all_numbers : MonoA sp_all_numbers := fsp_mono
theorem mono_latest_end : MonoA sp_latest_end := fsp_mono
theorem mono_by_latest_end : MonoA sp_by_latest_end := fun xs P P' h ⟨cs, ns, d, e, a, b, q⟩ => ⟨cs, ns, d, e, a, b, fun ms h1 h2 => h _ (q ms h1 h2)⟩
theorem mono_lit_in_turn : MonoA sp_lit_in_turn := fun xs P P' h ⟨cs, ns, d, T, e, a, b, q⟩ => ⟨cs, ns, d, T, e, a, b, h _ q⟩
theorem mono_longest_from : MonoA sp_longest_from := fun xs P P' h ⟨cs, ns, d, e, a, b, c, q⟩ => ⟨cs, ns, d, e, a, b, c, h _ q⟩
theorem mono_longest_of : MonoA sp_longest_of := fun xs P P' h ⟨cs, ns, d, e, a, b, c, q⟩ => ⟨cs, ns, d, e, a, b, c, h _ q⟩
theorem mono_planned : MonoA sp_planned := fun xs P P' h ⟨cs, ns, d, e, a, b, q⟩ => ⟨cs, ns, d, e, a, b, fun qs h1 h2 => h _ (q qs h1 h2)⟩
theorem mono_longest : MonoA sp_longest := fun xs P P' h ⟨cs, e, g, q⟩ => ⟨cs, e, g, fun t qs hn => h _ (q t qs hn)⟩
theorem mono_by_turn : MonoA sp_by_turn := fun xs P P' h ⟨cs, ns, e, a, b, c, q⟩ => ⟨cs, ns, e, a, b, c, fun qs h1 h2 => h _ (q qs h1 h2)⟩
theorem mono_lengths_together : MonoA sp_lengths_together := fun xs P P' h ⟨cs, ns, d, e, a, b, c, q⟩ => ⟨cs, ns, d, e, a, b, c, h _ q⟩
theorem mono_bound_by_candle : MonoA sp_bound_by_candle := fsp_mono
theorem mono_bounds : MonoA sp_bounds := fsp_mono
theorem mono_bound : MonoA sp_bound := fsp_mono
theorem mono_is_step : MonoA sp_is_step := fsp_mono
theorem mono_judged : MonoA sp_judged := fun xs P P' h ⟨cs, ps, t, e, a, b, c, q⟩ => ⟨cs, ps, t, e, a, b, c, h _ q⟩
theorem mono_lot_keeps : MonoA sp_lot_keeps := fun xs P P' h ⟨cs, ns, d, t, e, a, b, c, q⟩ => ⟨cs, ns, d, t, e, a, b, c, h _ q⟩
theorem mono_keeps : MonoA sp_keeps := fun xs P P' h ⟨cs, ns, t, e, a, b, c, d, q⟩ => ⟨cs, ns, t, e, a, b, c, d, h _ q⟩
theorem mono_all_keep : MonoA sp_all_keep := fun xs P P' h ⟨cs, t, e, a, q⟩ => ⟨cs, t, e, a, h _ q⟩
theorem mono_check_watch : MonoA sp_check_watch := fun xs P P' h ⟨cs, t, e, a, b, c, d, q⟩ => ⟨cs, t, e, a, b, c, d, h _ q⟩
theorem mono_without : MonoA sp_without := fun xs P P' h ⟨cs, t, e, a, q⟩ => ⟨cs, t, e, a, h _ q⟩
theorem mono_is_spare : MonoA sp_is_spare := fun xs P P' h ⟨cs, t, n, e, a, q⟩ => ⟨cs, t, n, e, a, h _ q⟩
theorem mono_keeps_with : MonoA sp_keeps_with := fun xs P P' h ⟨cs, t, n, c, e, a, b, d, q⟩ => ⟨cs, t, n, c, e, a, b, d, h _ q⟩
theorem mono_least_length : MonoA sp_least_length := fun xs P P' h ⟨cs, t, n, e, a, b, c, q⟩ => ⟨cs, t, n, e, a, b, c, fun l hl => h _ (q l hl)⟩
theorem mono_soonest_damp : MonoA sp_soonest_damp := fun xs P P' h ⟨cs, t, n, e, a, b, c, q⟩ => ⟨cs, t, n, e, a, b, c, fun l hl => h _ (q l hl)⟩
theorem mono_spare : MonoA sp_spare := fun xs P P' h ⟨cs, t, e, a, b, c, d, q⟩ => ⟨cs, t, e, a, b, c, d, h _ q⟩
theorem mono_lean : MonoA sp_lean := fun xs P P' h ⟨cs, t, e, a, b, c, d, q⟩ => ⟨cs, t, e, a, b, c, d, h _ q⟩
theorem mono_slack : MonoA sp_slack := fun xs P P' h ⟨cs, t, n, e, a, b, c, d, f, q, r⟩ => ⟨cs, t, n, e, a, b, c, d, f, fun z => h _ (q z), fun z l m h1 h2 => h _ (r z l m h1 h2)⟩
theorem mono_one_more : MonoA sp_one_more := fun xs P P' h ⟨cs, t, n, e, a, b, c, d, f, q⟩ => ⟨cs, t, n, e, a, b, c, d, f, fun x hx => h _ (q x hx)⟩
/-! ### drawing -/
def rowD (ns : List Int) (p m r : Int) : List D := [.scr ns, .int p, .int m, .int r]
def isRow (row : List D) : Prop := ∃ ns p m r, row = rowD ns p m r ∧ 0 ≤ p
def sp_l_taken : RSp := fun row xs Q => isRow row ∧ ∃ many : Int, xs = [.int many] ∧ 0 < many ∧ many < 1073741824 ∧ ∀ (n : Int) (row' : List D), 0 ≤ n → n < many → isRow row' → Q (.int n) row'
theorem mono_l_taken : MonoR sp_l_taken := fun row xs P P' h ⟨hr, many, e, a, b, q⟩ => ⟨hr, many, e, a, b, fun n row' h1 h2 h3 => h _ _ (q n row' h1 h2 h3)⟩
def sp_l_candles : RSp := fun row xs Q => isRow row ∧ ∃ a b : Int, xs = [.int a, .int b] ∧ 0 ≤ a ∧ a ≤ b ∧ b ≤ 12 ∧ ∀ (cs : List Cd) (row' : List D), Goods cs → a ≤ cs.length → cs.length ≤ b → isRow row' → Q (csD cs) row'
theorem mono_l_candles : MonoR sp_l_candles := fun row xs P P' h ⟨hr, x, y, e, a, b, c, q⟩ => ⟨hr, x, y, e, a, b, c, fun n row' h1 h2 h3 h4 => h _ _ (q n row' h1 h2 h3 h4)⟩
/-! ### lots that keep to a time -/
def allL (n : Nat) : List (List Nat) := (List.range (n + 1)).flatMap fun k => CMB.choose (List.range n) k
def keepL (cs : List Cd) (t : Int) : List (List Nat) := (allL cs.length).filter fun l => keepB (pick cs l) t
def priceM (cs : List Cd) (ns : List Nat) : Int := (ns.map fun n => (at' cs n).2.2).sum
/-- the least of the lots by f -/
def LeastR (f : List Nat → Int) (L : List (List Nat)) (x : D) : Prop := (L = [] ∧ x = .non) ∨ ∃ l ∈ L, x = .tup [.int (f l), lotD l] ∧ ∀ m ∈ L, f l ≤ f m
def sp_keeping_lots : ASp := fun xs Q => ∃ cs t, xs = [csD cs, .int t] ∧ Goods cs ∧ Q (.lst ((keepL cs t).map lotD))
def sp_price_of : ASp := fun xs Q => ∃ cs ns, xs = [csD cs, lotD ns] ∧ Goods cs ∧ Nums cs ns ∧ Q (.int (priceM cs ns))
def sp_cheapest : ASp := fun xs Q => ∃ cs t, xs = [csD cs, .int t] ∧ Goods cs ∧ 0 ≤ t ∧ t ≤ 9999 ∧ ∀ x, LeastR (priceM cs) (keepL cs t) x → Q x
def sp_fewest : ASp := fun xs Q => ∃ cs t, xs = [csD cs, .int t] ∧ Goods cs ∧ 0 ≤ t ∧ t ≤ 9999 ∧ ∀ x, LeastR (fun l => (l.length : Int)) (keepL cs t) x → Q x
theorem mono_keeping_lots : MonoA sp_keeping_lots := fun xs P P' h ⟨cs, t, e, a, q⟩ => ⟨cs, t, e, a, h _ q⟩
theorem mono_price_of : MonoA sp_price_of := fun xs P P' h ⟨cs, t, e, a, b, q⟩ => ⟨cs, t, e, a, b, h _ q⟩
theorem mono_cheapest : MonoA sp_cheapest := fun xs P P' h ⟨cs, t, e, a, b, c, q⟩ => ⟨cs, t, e, a, b, c, fun x hx => h _ (q x hx)⟩
theorem mono_fewest : MonoA sp_fewest := fun xs P P' h ⟨cs, t, e, a, b, c, q⟩ => ⟨cs, t, e, a, b, c, fun x hx => h _ (q x hx)⟩
def lossL (cs : List Cd) (gone : List Nat) : D := .tup [.int (best (pick cs (minus (List.range cs.length) gone))), lotD gone]
def sp_robbed : ASp := fun xs Q => ∃ cs k, xs = [csD cs, nD k] ∧ Goods cs ∧ k ≤ 3 ∧ k ≤ cs.length ∧ ∀ d, least ((CMB.choose (List.range cs.length) k).map (lossL cs)) d → Q d
theorem mono_robbed : MonoA sp_robbed := fun xs P P' h ⟨cs, k, e, a, b, c, q⟩ => ⟨cs, k, e, a, b, c, fun x hx => h _ (q x hx)⟩
def lotI (l : List Nat) : List Int := l.map fun n : Nat => (n : Int)
def leL (a b : List Nat) : Bool := !HT.lexLt (lotI b) (lotI a)
def partedB (a b : List Nat) : Bool := decide (minus a b = a)
def pairOk (p : List Nat × List Nat) : Bool := leL p.1 p.2 && partedB p.1 p.2
def trip (cs : List Cd) (p : List Nat × List Nat) : D := .tup [.int (priceM cs (p.1 ++ p.2)), lotD p.1, lotD p.2]
def twoL (cs : List Cd) (t : Int) (d : D) : Prop := ∃ a ∈ keepL cs t, ∃ b ∈ keepL cs t, pairOk (a, b) = true ∧ d = trip cs (a, b)
/-- the least of all pairs of lots -/
def TwoR (cs : List Cd) (t : Int) (x : D) : Prop := ((∀ d, ¬ twoL cs t d) ∧ x = .non) ∨ (twoL cs t x ∧ ∀ e, twoL cs t e → PySem.W.dataLt e.py x.py = false)
def sp_are_parted : ASp := fsp (fun a : List Nat × List Nat => [lotD a.1, lotD a.2]) (fun a => a.1.length ≤ 13) fun a => .bl (partedB a.1 a.2)
def sp_two : ASp := fun xs Q => ∃ cs t, xs = [csD cs, .int t] ∧ Goods cs ∧ cs.length ≤ 8 ∧ 0 ≤ t ∧ t ≤ 9999 ∧ ∀ x, TwoR cs t x → Q x
theorem mono_are_parted : MonoA sp_are_parted := fsp_mono
theorem mono_two : MonoA sp_two := fun xs P P' h ⟨cs, t, e, a, b, c, d, q⟩ => ⟨cs, t, e, a, b, c, d, fun x hx => h _ (q x hx)⟩
/-- how many turns of all are as good as the best -/
def turnsM (cs : List Cd) : Nat := ((PRM.permL cs.length (List.range cs.length)).filter fun t => decide ((turnM cs t).1 = best cs)).length
def sp_turns : ASp := fun xs Q => ∃ cs, xs = [csD cs] ∧ Goods cs ∧ cs.length ≤ 8 ∧ Q (.int (turnsM cs : Int))
theorem mono_turns : MonoA sp_turns := fun xs P P' h ⟨cs, e, a, b, q⟩ => ⟨cs, e, a, b, h _ q⟩
def topS (i : Nat) : Stmt := PySem.Challenge.pw_flameward_k21_whole_turns_counted.main.body.getD i (.Pass ⟨0, 0, 0, 0⟩)
structure Zs (mg : Str → Option Value) : Prop where
  len_ : mg "len" = none
  int_ : mg "int" = none
  bool_ : mg "bool" = none
  tuple_ : mg "tuple" = none
  list_ : mg "list" = none
  isinstance_ : mg "isinstance" = none
  enumerate_ : mg "enumerate" = none
  range_ : mg "range" = none
  sum_ : mg "sum" = none
  min_ : mg "min" = none
  max_ : mg "max" = none
  sorted_ : mg "sorted" = none
  MOST_CANDLES_ : ∃ t, mg "MOST_CANDLES" = some (.int 12 t)
  LONGEST_LENGTH_ : ∃ t, mg "LONGEST_LENGTH" = some (.int 99 t)
  LATEST_DAMP_ : ∃ t, mg "LATEST_DAMP" = some (.int 999 t)
  HIGHEST_PRICE_ : ∃ t, mg "HIGHEST_PRICE" = some (.int 99 t)
  MOST_OF_FEW_ : ∃ t, mg "MOST_OF_FEW" = some (.int 8 t)
  permutations_ : mg "permutations" = some (.type "itertools.permutations")
/-! ### is_whole -/
abbrev s_is_whole : Stmt := topS 12
abbrev N_is_whole : List Str := ["number"]
abbrev p_is_whole : List Str := ["number"]
theorem sc_is_whole : FnScope N_is_whole p_is_whole (defScope s_is_whole) := ⟨rfl, rfl, rfl, by decide +kernel, rfl, by decide +kernel, by decide +kernel⟩
def w_is_whole : WS := (wRet (wAndV (wCl kIsi (wCons (wVar 0) (wCons (wC (.raw (.ty "int"))) wNil))) (wNotV (wCl kIsi (wCons (wVar 0) (wCons (wC (.raw (.ty "bool"))) wNil))))))
set_option maxHeartbeats 4000000 in
theorem b_is_whole {P : Program} {w : World} {K : PySem.W.Frag} {mg : Str → Option Value} {base : Heap} (z : Zs mg)  (f : Addr) (cdv : Value) (A : Around) (outer : List PySem.Env) (s₀ : Shared) (H : Hp) (E : XK) (M W : Addr → Prop) (H0 T : Hp) [ClOk ⟨K, M, W, H0, T, noTb⟩] (hr : Room 0 (A.deeper (envOfC "is_whole" (defScope s_is_whole) s₀.heap.objs.size f cdv))) :
    QSs (cxOf CX0 P w K mg base N_is_whole "is_whole" (defScope s_is_whole) f cdv A outer s₀ H E).nox ⟨K, M, W, H0, T, noTb⟩ (defBody s_is_whole) w_is_whole := by
  
  exact (qss_one (qs_ret (qe_and (qe_callB call_isiA kIsi_op kIsi_mono (by rfl) z.isinstance_ (by decide +kernel) (qa_cons (qv 0) (qa_cons (qe_ty (by rfl) z.int_ (by decide +kernel)) qa_nil))) (qe_one (qe_not (qe_callB call_isiA kIsi_op kIsi_mono (by rfl) z.isinstance_ (by decide +kernel) (qa_cons (qv 0) (qa_cons (qe_ty (by rfl) z.bool_ (by decide +kernel)) qa_nil))))))))
/-! ### is_within -/
abbrev s_is_within : Stmt := topS 13
abbrev N_is_within : List Str := ["number", "low", "high"]
abbrev p_is_within : List Str := ["number", "low", "high"]
theorem sc_is_within : FnScope N_is_within p_is_within (defScope s_is_within) := ⟨rfl, rfl, rfl, by decide +kernel, rfl, by decide +kernel, by decide +kernel⟩
def w_is_within : WS := (wRet (wAndV (wCallS sp_is_whole (wCons (wVar 0) wNil)) (wChain kLe kLe (wVar 1) (wVar 0) (wVar 2))))
set_option maxHeartbeats 4000000 in
theorem b_is_within {P : Program} {w : World} {K : PySem.W.Frag} {mg : Str → Option Value} {base : Heap} (z : Zs mg) (h_is_whole : Ok P w K mg base 1 "is_whole" p_is_whole (liftSp K sp_is_whole)) (f : Addr) (cdv : Value) (A : Around) (outer : List PySem.Env) (s₀ : Shared) (H : Hp) (E : XK) (M W : Addr → Prop) (H0 T : Hp) [ClOk ⟨K, M, W, H0, T, noTb⟩] (hr : Room 1 (A.deeper (envOfC "is_within" (defScope s_is_within) s₀.heap.objs.size f cdv))) :
    QSs (cxOf CX0 P w K mg base N_is_within "is_within" (defScope s_is_within) f cdv A outer s₀ H E).nox ⟨K, M, W, H0, T, noTb⟩ (defBody s_is_within) w_is_within := by
  obtain ⟨f_is_whole, fd_is_whole, F_is_whole, m_is_whole, k_is_whole, d_is_whole⟩ := h_is_whole.ex
  exact (qss_one (qs_ret (qe_and (qe_call mono_is_whole F_is_whole (hr.mono (by decide)) m_is_whole k_is_whole d_is_whole pass0 (qa_cons (qv 0) qa_nil)) (qe_one (qe_chain op_le op_le (kI_op fun _ _ _ _ => .bl _) (kI_op fun _ _ _ _ => .bl _) kI_mono kI_mono (qv 1) (qv 0) (qv 2))))))
/-! ### is_candle -/
abbrev s_is_candle : Stmt := topS 14
abbrev N_is_candle : List Str := ["candle", "length", "damp", "price"]
abbrev p_is_candle : List Str := ["candle"]
theorem sc_is_candle : FnScope N_is_candle p_is_candle (defScope s_is_candle) := ⟨rfl, rfl, rfl, by decide +kernel, rfl, by decide +kernel, by decide +kernel⟩
def w_is_candle : WS := (wSeq (wIfS (wOr (wNot (wTest (wCl kIsi (wCons (wVar 0) (wCons (wC (.raw (.ty "tuple"))) wNil))))) (wTest (wOp kNe (w2e (wUn kLen (wVarB 0)) (wC (.int 3)))))) (wRet (wC (.bl false))) wNext)
  (wSeq (wAsg (wVar 0) (wgTup 3 (wgCons (wName 1) (wgCons (wName 2) (wgCons (wName 3) wgNil)))))
  (wSeq (wIfS (wOr (wNot (wTest (wCallS sp_is_within (wCons (wVar 1) (wCons (wC (.int 1)) (wCons (wC (.int 99)) wNil)))))) (wNot (wTest (wCallS sp_is_within (wCons (wVar 2) (wCons (wC (.int 0)) (wCons (wC (.int 999)) wNil))))))) (wRet (wC (.bl false))) wNext)
  (wRet (wCallS sp_is_within (wCons (wVar 3) (wCons (wC (.int 1)) (wCons (wC (.int 99)) wNil))))))))
set_option maxHeartbeats 4000000 in
theorem b_is_candle {P : Program} {w : World} {K : PySem.W.Frag} {mg : Str → Option Value} {base : Heap} (z : Zs mg) (h_is_within : Ok P w K mg base 2 "is_within" p_is_within (liftSp K sp_is_within)) (f : Addr) (cdv : Value) (A : Around) (outer : List PySem.Env) (s₀ : Shared) (H : Hp) (E : XK) (M W : Addr → Prop) (H0 T : Hp) [ClOk ⟨K, M, W, H0, T, noTb⟩] (hr : Room 2 (A.deeper (envOfC "is_candle" (defScope s_is_candle) s₀.heap.objs.size f cdv))) :
    QSs (cxOf CX0 P w K mg base N_is_candle "is_candle" (defScope s_is_candle) f cdv A outer s₀ H E).nox ⟨K, M, W, H0, T, noTb⟩ (defBody s_is_candle) w_is_candle := by
  obtain ⟨f_is_within, fd_is_within, F_is_within, m_is_within, k_is_within, d_is_within⟩ := h_is_within.ex
  exact (qss_cons (qs_if (QW.qt (qw_or (qt_not (qt_val (qe_callB call_isiA kIsi_op kIsi_mono (by rfl) z.isinstance_ (by decide +kernel) (qa_cons (qv 0) (qa_cons (qe_ty (by rfl) z.tuple_ (by decide +kernel)) qa_nil))))) (qw_or1 (qt_cmp (op_neD hr.units) kNe_op kNe_mono (q2_e (qe_b1 call_len_seq kLen_op kLen_mono (by rfl) z.len_ (by decide +kernel) (qvb 0)) (QE.qb qe_int)) (nomark _))))) (qss_one (qs_ret qe_bl)) qss_nil)
  (qss_cons (qs_asg (qv 0) (qg_tup rfl (qgs_cons (qg_name (i := 1) sc_is_candle.nd rfl (by first | exact Or.inl rfl | exact Or.inr rfl)) (qgs_cons (qg_name (i := 2) sc_is_candle.nd rfl (by first | exact Or.inl rfl | exact Or.inr rfl)) (qgs_cons (qg_name (i := 3) sc_is_candle.nd rfl (by first | exact Or.inl rfl | exact Or.inr rfl)) qgs_nil)))))
  (qss_cons (qs_if (QW.qt (qw_or (qt_not (qt_val (qe_call mono_is_within F_is_within (hr.mono (by decide)) m_is_within k_is_within d_is_within pass0 (qa_cons (qv 1) (qa_cons qe_int (qa_cons (qe_glob (v := .int 99) (by rfl) z.LONGEST_LENGTH_.choose_spec ⟨_, rfl⟩ (fun _ _ => .int _)) qa_nil)))))) (qw_or1 (qt_not (qt_val (qe_call mono_is_within F_is_within (hr.mono (by decide)) m_is_within k_is_within d_is_within pass0 (qa_cons (qv 2) (qa_cons qe_int (qa_cons (qe_glob (v := .int 999) (by rfl) z.LATEST_DAMP_.choose_spec ⟨_, rfl⟩ (fun _ _ => .int _)) qa_nil))))))))) (qss_one (qs_ret qe_bl)) qss_nil)
  (qss_one (qs_ret (qe_call mono_is_within F_is_within (hr.mono (by decide)) m_is_within k_is_within d_is_within pass0 (qa_cons (qv 3) (qa_cons qe_int (qa_cons (qe_glob (v := .int 99) (by rfl) z.HIGHEST_PRICE_.choose_spec ⟨_, rfl⟩ (fun _ _ => .int _)) qa_nil)))))))))
/-! ### check_candles -/
abbrev s_check_candles : Stmt := topS 16
abbrev N_check_candles : List Str := ["candles", "number", "candle"]
abbrev p_check_candles : List Str := ["candles"]
theorem sc_check_candles : FnScope N_check_candles p_check_candles (defScope s_check_candles) := ⟨rfl, rfl, rfl, by decide +kernel, rfl, by decide +kernel, by decide +kernel⟩
def w_check_candles : WS := (wSeq (wIfS (wNot (wTest (wCl kIsi (wCons (wVar 0) (wCons (wC (.raw (.ty "tuple"))) wNil))))) wNever wNext)
  (wFor (wEnumT (wVar 0)) (wgTup 2 (wgCons (wName 1) (wgCons (wName 2) wgNil))) (wIfS (wOr (wTest (wOp kGe (w2v 1 (wC (.int 12))))) (wNot (wTest (wCallS sp_is_candle (wCons (wVar 2) wNil))))) wNever wNext)))
set_option maxHeartbeats 4000000 in
theorem b_check_candles {P : Program} {w : World} {K : PySem.W.Frag} {mg : Str → Option Value} {base : Heap} (z : Zs mg) (h_is_candle : Ok P w K mg base 3 "is_candle" p_is_candle (liftSp K sp_is_candle)) (f : Addr) (cdv : Value) (A : Around) (outer : List PySem.Env) (s₀ : Shared) (H : Hp) (E : XK) (M W : Addr → Prop) (H0 T : Hp) [ClOk ⟨K, M, W, H0, T, noTb⟩] (hr : Room 3 (A.deeper (envOfC "check_candles" (defScope s_check_candles) s₀.heap.objs.size f cdv))) :
    QSs (cxOf CX0 P w K mg base N_check_candles "check_candles" (defScope s_check_candles) f cdv A outer s₀ H E).nox ⟨K, M, W, H0, T, noTb⟩ (defBody s_check_candles) w_check_candles := by
  obtain ⟨f_is_candle, fd_is_candle, F_is_candle, m_is_candle, k_is_candle, d_is_candle⟩ := h_is_candle.ex
  exact (qss_cons (qs_if (qt_not (qt_val (qe_callB call_isiA kIsi_op kIsi_mono (by rfl) z.isinstance_ (by decide +kernel) (qa_cons (qv 0) (qa_cons (qe_ty (by rfl) z.tuple_ (by decide +kernel)) qa_nil))))) (qss_one qs_never) qss_nil)
  (qss_one (qs_for PassesOwn.never rfl (qi_enumT (by rfl) z.enumerate_ (qv 0)) (qg_tup rfl (qgs_cons (qg_name (i := 1) sc_check_candles.nd rfl (by first | exact Or.inl rfl | exact Or.inr rfl)) (qgs_cons (qg_name (i := 2) sc_check_candles.nd rfl (by first | exact Or.inl rfl | exact Or.inr rfl)) qgs_nil))) (qss_one (qs_if (QW.qt (qw_or (qt_cmp op_ge (kI_op fun _ _ _ _ => .bl _) kI_mono (q2v 1 (QE.qb (qe_glob (v := .int 12) (by rfl) z.MOST_CANDLES_.choose_spec ⟨_, rfl⟩ (fun _ _ => .int _)))) (nomark _)) (qw_or1 (qt_not (qt_val (qe_call mono_is_candle F_is_candle (hr.mono (by decide)) m_is_candle k_is_candle d_is_candle pass0 (qa_cons (qv 2) qa_nil))))))) (qss_one qs_never) qss_nil)))))
/-! ### check_few -/
abbrev s_check_few : Stmt := topS 18
abbrev N_check_few : List Str := ["candles"]
abbrev p_check_few : List Str := ["candles"]
theorem sc_check_few : FnScope N_check_few p_check_few (defScope s_check_few) := ⟨rfl, rfl, rfl, by decide +kernel, rfl, by decide +kernel, by decide +kernel⟩
def w_check_few : WS := (wIfS (wTest (wOp kGt (w2e (wUn kLen (wVarB 0)) (wC (.int 8))))) wNever wNext)
set_option maxHeartbeats 4000000 in
theorem b_check_few {P : Program} {w : World} {K : PySem.W.Frag} {mg : Str → Option Value} {base : Heap} (z : Zs mg)  (f : Addr) (cdv : Value) (A : Around) (outer : List PySem.Env) (s₀ : Shared) (H : Hp) (E : XK) (M W : Addr → Prop) (H0 T : Hp) [ClOk ⟨K, M, W, H0, T, noTb⟩] (hr : Room 0 (A.deeper (envOfC "check_few" (defScope s_check_few) s₀.heap.objs.size f cdv))) :
    QSs (cxOf CX0 P w K mg base N_check_few "check_few" (defScope s_check_few) f cdv A outer s₀ H E).nox ⟨K, M, W, H0, T, noTb⟩ (defBody s_check_few) w_check_few := by
  
  exact (qss_one (qs_if (qt_cmp op_gt (kI_op fun _ _ _ _ => .bl _) kI_mono (q2_e (qe_b1 call_len_seq kLen_op kLen_mono (by rfl) z.len_ (by decide +kernel) (qvb 0)) (QE.qb (qe_glob (v := .int 8) (by rfl) z.MOST_OF_FEW_.choose_spec ⟨_, rfl⟩ (fun _ _ => .int _)))) (nomark _)) (qss_one qs_never) qss_nil))
/-! ### lit_in_turn -/
abbrev s_lit_in_turn : Stmt := topS 23
abbrev N_lit_in_turn : List Str := ["candles", "turn", "lasts", "steps", "number", "length", "damp", "_", "time"]
abbrev p_lit_in_turn : List Str := ["candles", "turn", "lasts"]
theorem sc_lit_in_turn : FnScope N_lit_in_turn p_lit_in_turn (defScope s_lit_in_turn) := ⟨rfl, rfl, rfl, by decide +kernel, rfl, by decide +kernel, by decide +kernel⟩
def w_lit_in_turn : WS := (wSeq (wOwn (wLst wNil) 3)
  (wSeq (wFor (wSeqI (wVar 1)) (wName 4) (wSeq (wAsg (wOp kIx (w2v 0 (wVarB 4))) (wgTup 3 (wgCons (wName 5) (wgCons (wName 6) (wgCons (wName 7) wgNil)))))
  (wSeq (wAsg (wCl kMin2 (wCons (wVar 2) (wCons (wVar 6) wNil))) (wName 8))
  (wIfS (wTest (wOp kGt (w2e (wOp kAdd (w2v 8 (wVarB 5))) (wVarB 2)))) (wSeq (wDrop (wApp 3 (wTup (wCons (wVar 8) (wCons (wVar 4) wNil)))))
  (wAsg (wOp kAdd (w2v 8 (wVarB 5))) (wName 2))) wNext))))
  (wRet (wTup (wCons (wVar 2) (wCons (wVar 3) wNil))))))
set_option maxHeartbeats 4000000 in
theorem b_lit_in_turn {P : Program} {w : World} {K : PySem.W.Frag} {mg : Str → Option Value} {base : Heap} (z : Zs mg)  (f : Addr) (cdv : Value) (A : Around) (outer : List PySem.Env) (s₀ : Shared) (H : Hp) (E : XK) (M W : Addr → Prop) (H0 T : Hp) [ClOk ⟨K, M, W, H0, T, noTb⟩] (hr : Room 0 (A.deeper (envOfC "lit_in_turn" (defScope s_lit_in_turn) s₀.heap.objs.size f cdv))) :
    QSs (cxOf CX0 P w K mg base N_lit_in_turn "lit_in_turn" (defScope s_lit_in_turn) f cdv A outer s₀ H E).nox ⟨K, M, W, H0, T, noTb⟩ (defBody s_lit_in_turn) w_lit_in_turn := by
  
  exact (qss_cons (qs_own (i := 3) sc_lit_in_turn.nd rfl (by first | exact Or.inl rfl | exact Or.inr rfl) (qf_lst qa_nil))
  (qss_cons (qs_for PassesOwn.never rfl (qi_seq (qv 1)) (qg_name (i := 4) sc_lit_in_turn.nd rfl (by first | exact Or.inl rfl | exact Or.inr rfl)) (qss_cons (qs_asg (qe_ix ix_seq kIx_op kIx_mono (q2v 0 (qvb 4)) (fun _ _ => rfl)) (qg_tup rfl (qgs_cons (qg_name (i := 5) sc_lit_in_turn.nd rfl (by first | exact Or.inl rfl | exact Or.inr rfl)) (qgs_cons (qg_name (i := 6) sc_lit_in_turn.nd rfl (by first | exact Or.inl rfl | exact Or.inr rfl)) (qgs_cons (qg_name (i := 7) sc_lit_in_turn.nd rfl (by first | exact Or.inl rfl | exact Or.inr rfl)) qgs_nil)))))
  (qss_cons (qs_set (i := 8) sc_lit_in_turn.nd rfl (by first | exact Or.inl rfl | exact Or.inr rfl) (qe_callB (call_min2 rfl) kMin2_op kMin2_mono (by rfl) z.min_ (by decide +kernel) (qa_cons (qv 2) (qa_cons (qv 6) qa_nil))))
  (qss_one (qs_if (qt_cmp op_gt (kI_op fun _ _ _ _ => .bl _) kI_mono (q2_e (qe_op op_addA kAdd_op kAdd_mono (q2v 8 (qvb 5))) (qvb 2)) (nomark _)) (qss_cons (qs_expr (qe_app (i := 3) rfl (by first | exact Or.inl rfl | exact Or.inr (Or.inl rfl) | exact Or.inr (Or.inr rfl)) (qe_tup (qa_cons (qv 8) (qa_cons (qv 4) qa_nil))) (mk := fun _ _ h1 h2 => pe_bm PySem.F.plainAttrs_list PySem.F.slot_list_append PySem.F.type_list_append mt_append h1 h2)))
  (qss_one (qs_set (i := 2) sc_lit_in_turn.nd rfl (by first | exact Or.inl rfl | exact Or.inr rfl) (qe_op op_addA kAdd_op kAdd_mono (q2v 8 (qvb 5)))))) qss_nil)))))
  (qss_one (qs_ret (qe_tup (qa_cons (qv 2) (qa_cons (qv 3) qa_nil)))))))
/-! ### latest_end -/
abbrev s_latest_end : Stmt := topS 21
abbrev N_latest_end : List Str := ["candle", "length", "damp", "_"]
abbrev p_latest_end : List Str := ["candle"]
theorem sc_latest_end : FnScope N_latest_end p_latest_end (defScope s_latest_end) := ⟨rfl, rfl, rfl, by decide +kernel, rfl, by decide +kernel, by decide +kernel⟩
def w_latest_end : WS := (wSeq (wAsg (wVar 0) (wgTup 3 (wgCons (wName 1) (wgCons (wName 2) (wgCons (wName 3) wgNil)))))
  (wRet (wOp kAdd (w2v 2 (wVarB 1)))))
set_option maxHeartbeats 4000000 in
theorem b_latest_end {P : Program} {w : World} {K : PySem.W.Frag} {mg : Str → Option Value} {base : Heap} (z : Zs mg)  (f : Addr) (cdv : Value) (A : Around) (outer : List PySem.Env) (s₀ : Shared) (H : Hp) (E : XK) (M W : Addr → Prop) (H0 T : Hp) [ClOk ⟨K, M, W, H0, T, noTb⟩] (hr : Room 0 (A.deeper (envOfC "latest_end" (defScope s_latest_end) s₀.heap.objs.size f cdv))) :
    QSs (cxOf CX0 P w K mg base N_latest_end "latest_end" (defScope s_latest_end) f cdv A outer s₀ H E).nox ⟨K, M, W, H0, T, noTb⟩ (defBody s_latest_end) w_latest_end := by
  
  exact (qss_cons (qs_asg (qv 0) (qg_tup rfl (qgs_cons (qg_name (i := 1) sc_latest_end.nd rfl (by first | exact Or.inl rfl | exact Or.inr rfl)) (qgs_cons (qg_name (i := 2) sc_latest_end.nd rfl (by first | exact Or.inl rfl | exact Or.inr rfl)) (qgs_cons (qg_name (i := 3) sc_latest_end.nd rfl (by first | exact Or.inl rfl | exact Or.inr rfl)) qgs_nil)))))
  (qss_one (qs_ret (qe_op op_addA kAdd_op kAdd_mono (q2v 2 (qvb 1))))))
/-! ### by_latest_end -/
abbrev s_by_latest_end : Stmt := topS 22
abbrev N_by_latest_end : List Str := ["candles", "lot", "ends", "number", "_"]
abbrev p_by_latest_end : List Str := ["candles", "lot"]
theorem sc_by_latest_end : FnScope N_by_latest_end p_by_latest_end (defScope s_by_latest_end) := ⟨rfl, rfl, rfl, by decide +kernel, rfl, by decide +kernel, by decide +kernel⟩
def w_by_latest_end : WS := (wSeq (wAsg (fun ρ Q => (wLc (wSeqI (wVar 1)) (wName 3) wYes (wTup (wCons (wCallS sp_latest_end (wCons (wOp kIx (w2v 0 (wVarB 3))) wNil)) (wCons (wVar 3) wNil))) [3]) ρ fun xs ρ' => Q (.lst xs) ρ') (wName 2))
  (wRet (fun ρ Q => (wLc (wSeqI (fun ρ Q => (wUnF kSortP (wVarB 2)) ρ fun xs ρ' => Q (.lst xs) ρ')) (wgTup 2 (wgCons (wName 4) (wgCons (wName 3) wgNil))) wYes (wVar 3) [4, 3]) ρ fun xs ρ' => Q (.lst xs) ρ')))
set_option maxHeartbeats 4000000 in
theorem b_by_latest_end {P : Program} {w : World} {K : PySem.W.Frag} {mg : Str → Option Value} {base : Heap} (z : Zs mg) (h_latest_end : Ok P w K mg base 1 "latest_end" p_latest_end (liftSp K sp_latest_end)) (f : Addr) (cdv : Value) (A : Around) (outer : List PySem.Env) (s₀ : Shared) (H : Hp) (E : XK) (M W : Addr → Prop) (H0 T : Hp) [ClOk ⟨K, M, W, H0, T, noTb⟩] (hr : Room 1 (A.deeper (envOfC "by_latest_end" (defScope s_by_latest_end) s₀.heap.objs.size f cdv))) :
    QSs (cxOf CX0 P w K mg base N_by_latest_end "by_latest_end" (defScope s_by_latest_end) f cdv A outer s₀ H E).nox ⟨K, M, W, H0, T, noTb⟩ (defBody s_by_latest_end) w_by_latest_end := by
  obtain ⟨f_latest_end, fd_latest_end, F_latest_end, m_latest_end, k_latest_end, d_latest_end⟩ := h_latest_end.ex
  exact (qss_cons (qs_setLc (i := 2) rfl sc_by_latest_end.nd rfl rfl (sw_true rfl rfl rfl (by decide +kernel)) (qi_seq (qv 1)) (blkOk_by (N := N_by_latest_end) (sc := defScope s_by_latest_end) (own := [("number", 3)]) (by decide +kernel)) ⟨fun _ _ _ _ _ _ => (qc_name (i := 3) sc_by_latest_end.nd rfl (by first | exact Or.inl rfl | exact Or.inr rfl) (by decide)), fun _ _ _ _ _ _ => qts_nil, fun _ _ _ _ _ _ => (qe_tup (qa_cons (qe_call mono_latest_end F_latest_end (hr.mono (by decide)) m_latest_end k_latest_end d_latest_end pass0 (qa_cons (qe_ix ix_seq kIx_op kIx_mono (q2v 0 (qvb 3)) (fun _ _ => rfl)) qa_nil)) (qa_cons (qv 3) qa_nil)))⟩)
  (qss_one (qs_ret (QF.qe (qf_lc rfl sc_by_latest_end.nd (qi_seq (QF.qe (qf_b1 cr_sortedPO kSortP_op kSortP_mono (by rfl) z.sorted_ (by decide +kernel) (qvb 2)))) (blkOk_by (N := N_by_latest_end) (sc := defScope s_by_latest_end) (own := [("_", 4), ("number", 3)]) (by decide +kernel)) ⟨fun _ _ _ _ _ _ => (qc_tup rfl (qcs_cons (qc_name (i := 4) sc_by_latest_end.nd rfl (by first | exact Or.inl rfl | exact Or.inr rfl) (by decide)) (qcs_cons (qc_name (i := 3) sc_by_latest_end.nd rfl (by first | exact Or.inl rfl | exact Or.inr rfl) (by decide)) qcs_nil))), fun _ _ _ _ _ _ => qts_nil, fun _ _ _ _ _ _ => (qv 3)⟩)))))
/-! ### longest_from -/
abbrev s_longest_from : Stmt := topS 24
abbrev N_longest_from : List Str := ["candles", "lot", "lasts"]
abbrev p_longest_from : List Str := ["candles", "lot", "lasts"]
theorem sc_longest_from : FnScope N_longest_from p_longest_from (defScope s_longest_from) := ⟨rfl, rfl, rfl, by decide +kernel, rfl, by decide +kernel, by decide +kernel⟩
def w_longest_from : WS := (wRet (wOp kIx (w2e (wCallS sp_lit_in_turn (wCons (wVar 0) (wCons (wCallS sp_by_latest_end (wCons (wVar 0) (wCons (wVar 1) wNil))) (wCons (wVar 2) wNil)))) (wC (.int 0)))))
set_option maxHeartbeats 4000000 in
theorem b_longest_from {P : Program} {w : World} {K : PySem.W.Frag} {mg : Str → Option Value} {base : Heap} (z : Zs mg) (h_by_latest_end : Ok P w K mg base 2 "by_latest_end" p_by_latest_end (liftSp K sp_by_latest_end)) (h_lit_in_turn : Ok P w K mg base 1 "lit_in_turn" p_lit_in_turn (liftSp K sp_lit_in_turn)) (f : Addr) (cdv : Value) (A : Around) (outer : List PySem.Env) (s₀ : Shared) (H : Hp) (E : XK) (M W : Addr → Prop) (H0 T : Hp) [ClOk ⟨K, M, W, H0, T, noTb⟩] (hr : Room 2 (A.deeper (envOfC "longest_from" (defScope s_longest_from) s₀.heap.objs.size f cdv))) :
    QSs (cxOf CX0 P w K mg base N_longest_from "longest_from" (defScope s_longest_from) f cdv A outer s₀ H E).nox ⟨K, M, W, H0, T, noTb⟩ (defBody s_longest_from) w_longest_from := by
  obtain ⟨f_by_latest_end, fd_by_latest_end, F_by_latest_end, m_by_latest_end, k_by_latest_end, d_by_latest_end⟩ := h_by_latest_end.ex
  obtain ⟨f_lit_in_turn, fd_lit_in_turn, F_lit_in_turn, m_lit_in_turn, k_lit_in_turn, d_lit_in_turn⟩ := h_lit_in_turn.ex
  exact (qss_one (qs_ret (qe_ix ix_seq kIx_op kIx_mono (q2_e (qe_call mono_lit_in_turn F_lit_in_turn (hr.mono (by decide)) m_lit_in_turn k_lit_in_turn d_lit_in_turn pass0 (qa_cons (qv 0) (qa_cons (qe_call mono_by_latest_end F_by_latest_end (hr.mono (by decide)) m_by_latest_end k_by_latest_end d_by_latest_end pass0 (qa_cons (qv 0) (qa_cons (qv 1) qa_nil))) (qa_cons (qv 2) qa_nil)))) (QE.qb qe_int)) (fun _ _ => rfl))))
/-! ### longest_of -/
abbrev s_longest_of : Stmt := topS 25
abbrev N_longest_of : List Str := ["candles", "lot"]
abbrev p_longest_of : List Str := ["candles", "lot"]
theorem sc_longest_of : FnScope N_longest_of p_longest_of (defScope s_longest_of) := ⟨rfl, rfl, rfl, by decide +kernel, rfl, by decide +kernel, by decide +kernel⟩
def w_longest_of : WS := (wRet (wCallS sp_longest_from (wCons (wVar 0) (wCons (wVar 1) (wCons (wC (.int 0)) wNil)))))
set_option maxHeartbeats 4000000 in
theorem b_longest_of {P : Program} {w : World} {K : PySem.W.Frag} {mg : Str → Option Value} {base : Heap} (z : Zs mg) (h_longest_from : Ok P w K mg base 3 "longest_from" p_longest_from (liftSp K sp_longest_from)) (f : Addr) (cdv : Value) (A : Around) (outer : List PySem.Env) (s₀ : Shared) (H : Hp) (E : XK) (M W : Addr → Prop) (H0 T : Hp) [ClOk ⟨K, M, W, H0, T, noTb⟩] (hr : Room 3 (A.deeper (envOfC "longest_of" (defScope s_longest_of) s₀.heap.objs.size f cdv))) :
    QSs (cxOf CX0 P w K mg base N_longest_of "longest_of" (defScope s_longest_of) f cdv A outer s₀ H E).nox ⟨K, M, W, H0, T, noTb⟩ (defBody s_longest_of) w_longest_of := by
  obtain ⟨f_longest_from, fd_longest_from, F_longest_from, m_longest_from, k_longest_from, d_longest_from⟩ := h_longest_from.ex
  exact (qss_one (qs_ret (qe_call mono_longest_from F_longest_from (hr.mono (by decide)) m_longest_from k_longest_from d_longest_from pass0 (qa_cons (qv 0) (qa_cons (qv 1) (qa_cons qe_int qa_nil))))))
/-! ### all_numbers -/
abbrev s_all_numbers : Stmt := topS 20
abbrev N_all_numbers : List Str := ["candles"]
abbrev p_all_numbers : List Str := ["candles"]
theorem sc_all_numbers : FnScope N_all_numbers p_all_numbers (defScope s_all_numbers) := ⟨rfl, rfl, rfl, by decide +kernel, rfl, by decide +kernel, by decide +kernel⟩
def w_all_numbers : WS := (wRet (wTupRg (wUn kLen (wVarB 0))))
set_option maxHeartbeats 4000000 in
theorem b_all_numbers {P : Program} {w : World} {K : PySem.W.Frag} {mg : Str → Option Value} {base : Heap} (z : Zs mg)  (f : Addr) (cdv : Value) (A : Around) (outer : List PySem.Env) (s₀ : Shared) (H : Hp) (E : XK) (M W : Addr → Prop) (H0 T : Hp) [ClOk ⟨K, M, W, H0, T, noTb⟩] (hr : Room 0 (A.deeper (envOfC "all_numbers" (defScope s_all_numbers) s₀.heap.objs.size f cdv))) :
    QSs (cxOf CX0 P w K mg base N_all_numbers "all_numbers" (defScope s_all_numbers) f cdv A outer s₀ H E).nox ⟨K, M, W, H0, T, noTb⟩ (defBody s_all_numbers) w_all_numbers := by
  
  exact (qss_one (qs_ret (qe_tupRg rfl (by rfl) z.tuple_ (by rfl) z.range_ (qe_b1 call_len_seq kLen_op kLen_mono (by rfl) z.len_ (by decide +kernel) (qvb 0)))))
/-! ### turns -/
abbrev s_turns : Stmt := topS 27
abbrev N_turns : List Str := ["candles", "best", "many", "turn"]
abbrev p_turns : List Str := ["candles"]
theorem sc_turns : FnScope N_turns p_turns (defScope s_turns) := ⟨rfl, rfl, rfl, by decide +kernel, rfl, by decide +kernel, by decide +kernel⟩
def w_turns : WS := (wSeq (wDrop (wCallS sp_check_candles (wCons (wVar 0) wNil)))
  (wSeq (wDrop (wCallS sp_check_few (wCons (wVar 0) wNil)))
  (wSeq (wAsg (wCallS sp_longest_of (wCons (wVar 0) (wCons (wCallS sp_all_numbers (wCons (wVar 0) wNil)) wNil))) (wName 1))
  (wSeq (wAsg (wC (.int 0)) (wName 2))
  (wSeq (wFor (wPermRg (wUn kLen (wVarB 0))) (wName 3) (wIfS (wTest (wOp kEq (w2e (wOp kIx (w2e (wCallS sp_lit_in_turn (wCons (wVar 0) (wCons (wVar 3) (wCons (wC (.int 0)) wNil)))) (wC (.int 0)))) (wVarB 1)))) (wAugI (fun i j => i + j) 2 (wC (.int 1))) wNext))
  (wRet (wVar 2)))))))
set_option maxHeartbeats 4000000 in
theorem b_turns {P : Program} {w : World} {K : PySem.W.Frag} {mg : Str → Option Value} {base : Heap} (z : Zs mg) (h_all_numbers : Ok P w K mg base 1 "all_numbers" p_all_numbers (liftSp K sp_all_numbers)) (h_check_candles : Ok P w K mg base 4 "check_candles" p_check_candles (liftSp K sp_check_candles)) (h_check_few : Ok P w K mg base 1 "check_few" p_check_few (liftSp K sp_check_few)) (h_lit_in_turn : Ok P w K mg base 1 "lit_in_turn" p_lit_in_turn (liftSp K sp_lit_in_turn)) (h_longest_of : Ok P w K mg base 4 "longest_of" p_longest_of (liftSp K sp_longest_of)) (f : Addr) (cdv : Value) (A : Around) (outer : List PySem.Env) (s₀ : Shared) (H : Hp) (E : XK) (M W : Addr → Prop) (H0 T : Hp) [ClOk ⟨K, M, W, H0, T, noTb⟩] (hr : Room 4 (A.deeper (envOfC "turns" (defScope s_turns) s₀.heap.objs.size f cdv))) :
    QSs (cxOf CX0 P w K mg base N_turns "turns" (defScope s_turns) f cdv A outer s₀ H E).nox ⟨K, M, W, H0, T, noTb⟩ (defBody s_turns) w_turns := by
  obtain ⟨f_all_numbers, fd_all_numbers, F_all_numbers, m_all_numbers, k_all_numbers, d_all_numbers⟩ := h_all_numbers.ex
  obtain ⟨f_check_candles, fd_check_candles, F_check_candles, m_check_candles, k_check_candles, d_check_candles⟩ := h_check_candles.ex
  obtain ⟨f_check_few, fd_check_few, F_check_few, m_check_few, k_check_few, d_check_few⟩ := h_check_few.ex
  obtain ⟨f_lit_in_turn, fd_lit_in_turn, F_lit_in_turn, m_lit_in_turn, k_lit_in_turn, d_lit_in_turn⟩ := h_lit_in_turn.ex
  obtain ⟨f_longest_of, fd_longest_of, F_longest_of, m_longest_of, k_longest_of, d_longest_of⟩ := h_longest_of.ex
  exact (qss_cons (qs_expr (qe_call mono_check_candles F_check_candles (hr.mono (by decide)) m_check_candles k_check_candles d_check_candles pass0 (qa_cons (qv 0) qa_nil)))
  (qss_cons (qs_expr (qe_call mono_check_few F_check_few (hr.mono (by decide)) m_check_few k_check_few d_check_few pass0 (qa_cons (qv 0) qa_nil)))
  (qss_cons (qs_set (i := 1) sc_turns.nd rfl (by first | exact Or.inl rfl | exact Or.inr rfl) (qe_call mono_longest_of F_longest_of (hr.mono (by decide)) m_longest_of k_longest_of d_longest_of pass0 (qa_cons (qv 0) (qa_cons (qe_call mono_all_numbers F_all_numbers (hr.mono (by decide)) m_all_numbers k_all_numbers d_all_numbers pass0 (qa_cons (qv 0) qa_nil)) qa_nil))))
  (qss_cons (qs_set (i := 2) sc_turns.nd rfl (by first | exact Or.inl rfl | exact Or.inr rfl) qe_int)
  (qss_cons (qs_for PassesOwn.never rfl (qi_permRg rfl (by rfl) z.permutations_ (by rfl) z.range_ (qe_b1 call_len_seq kLen_op kLen_mono (by rfl) z.len_ (by decide +kernel) (qvb 0))) (qg_name (i := 3) sc_turns.nd rfl (by first | exact Or.inl rfl | exact Or.inr rfl)) (qss_one (qs_if (qt_cmp (op_eqD hr.units) kEq_op kEq_mono (q2_e (qe_ix ix_seq kIx_op kIx_mono (q2_e (qe_call mono_lit_in_turn F_lit_in_turn (hr.mono (by decide)) m_lit_in_turn k_lit_in_turn d_lit_in_turn pass0 (qa_cons (qv 0) (qa_cons (qv 3) (qa_cons qe_int qa_nil)))) (QE.qb qe_int)) (fun _ _ => rfl)) (qvb 1)) (nomark _)) (qss_one (qs_augI (i := 2) sc_turns.nd rfl (by first | exact Or.inl rfl | exact Or.inr rfl) ip_add qe_int)) qss_nil)))
  (qss_one (qs_ret (qv 2))))))))
/-! ### planned -/
abbrev s_planned : Stmt := topS 31
abbrev N_planned : List Str := ["candles", "turn", "lasts", "steps", "time", "number"]
abbrev p_planned : List Str := ["candles", "turn"]
theorem sc_planned : FnScope N_planned p_planned (defScope s_planned) := ⟨rfl, rfl, rfl, by decide +kernel, rfl, by decide +kernel, by decide +kernel⟩
def w_planned : WS := (wSeq (wAsg (wCallS sp_lit_in_turn (wCons (wVar 0) (wCons (wVar 1) (wCons (wC (.int 0)) wNil)))) (wgTup 2 (wgCons (wName 2) (wgCons (wName 3) wgNil))))
  (wRet (wTup (wCons (wVar 2) (wCons (fun ρ Q => (wLc (wSeqI (fun ρ Q => (wUnF kSortP (wVarB 3)) ρ fun xs ρ' => Q (.lst xs) ρ')) (wgTup 2 (wgCons (wName 4) (wgCons (wName 5) wgNil))) wYes (wTup (wCons (wVar 5) (wCons (wVar 4) wNil))) [4, 5]) ρ fun xs ρ' => Q (.lst xs) ρ') wNil)))))
set_option maxHeartbeats 4000000 in
theorem b_planned {P : Program} {w : World} {K : PySem.W.Frag} {mg : Str → Option Value} {base : Heap} (z : Zs mg) (h_lit_in_turn : Ok P w K mg base 1 "lit_in_turn" p_lit_in_turn (liftSp K sp_lit_in_turn)) (f : Addr) (cdv : Value) (A : Around) (outer : List PySem.Env) (s₀ : Shared) (H : Hp) (E : XK) (M W : Addr → Prop) (H0 T : Hp) [ClOk ⟨K, M, W, H0, T, noTb⟩] (hr : Room 1 (A.deeper (envOfC "planned" (defScope s_planned) s₀.heap.objs.size f cdv))) :
    QSs (cxOf CX0 P w K mg base N_planned "planned" (defScope s_planned) f cdv A outer s₀ H E).nox ⟨K, M, W, H0, T, noTb⟩ (defBody s_planned) w_planned := by
  obtain ⟨f_lit_in_turn, fd_lit_in_turn, F_lit_in_turn, m_lit_in_turn, k_lit_in_turn, d_lit_in_turn⟩ := h_lit_in_turn.ex
  exact (qss_cons (qs_asg (qe_call mono_lit_in_turn F_lit_in_turn (hr.mono (by decide)) m_lit_in_turn k_lit_in_turn d_lit_in_turn pass0 (qa_cons (qv 0) (qa_cons (qv 1) (qa_cons qe_int qa_nil)))) (qg_tup rfl (qgs_cons (qg_name (i := 2) sc_planned.nd rfl (by first | exact Or.inl rfl | exact Or.inr rfl)) (qgs_cons (qg_name (i := 3) sc_planned.nd rfl (by first | exact Or.inl rfl | exact Or.inr rfl)) qgs_nil))))
  (qss_one (qs_ret (qe_tup (qa_cons (qv 2) (qa_cons (QF.qe (qf_lc rfl sc_planned.nd (qi_seq (QF.qe (qf_b1 cr_sortedPO kSortP_op kSortP_mono (by rfl) z.sorted_ (by decide +kernel) (qvb 3)))) (blkOk_by (N := N_planned) (sc := defScope s_planned) (own := [("time", 4), ("number", 5)]) (by decide +kernel)) ⟨fun _ _ _ _ _ _ => (qc_tup rfl (qcs_cons (qc_name (i := 4) sc_planned.nd rfl (by first | exact Or.inl rfl | exact Or.inr rfl) (by decide)) (qcs_cons (qc_name (i := 5) sc_planned.nd rfl (by first | exact Or.inl rfl | exact Or.inr rfl) (by decide)) qcs_nil))), fun _ _ _ _ _ _ => qts_nil, fun _ _ _ _ _ _ => (qe_tup (qa_cons (qv 5) (qa_cons (qv 4) qa_nil)))⟩)) qa_nil))))))
/-! ### longest -/
abbrev s_longest : Stmt := topS 29
abbrev N_longest : List Str := ["candles"]
abbrev p_longest : List Str := ["candles"]
theorem sc_longest : FnScope N_longest p_longest (defScope s_longest) := ⟨rfl, rfl, rfl, by decide +kernel, rfl, by decide +kernel, by decide +kernel⟩
def w_longest : WS := (wSeq (wDrop (wCallS sp_check_candles (wCons (wVar 0) wNil)))
  (wRet (wCallS sp_planned (wCons (wVar 0) (wCons (wCallS sp_by_latest_end (wCons (wVar 0) (wCons (wCallS sp_all_numbers (wCons (wVar 0) wNil)) wNil))) wNil)))))
set_option maxHeartbeats 4000000 in
theorem b_longest {P : Program} {w : World} {K : PySem.W.Frag} {mg : Str → Option Value} {base : Heap} (z : Zs mg) (h_all_numbers : Ok P w K mg base 1 "all_numbers" p_all_numbers (liftSp K sp_all_numbers)) (h_by_latest_end : Ok P w K mg base 2 "by_latest_end" p_by_latest_end (liftSp K sp_by_latest_end)) (h_check_candles : Ok P w K mg base 4 "check_candles" p_check_candles (liftSp K sp_check_candles)) (h_planned : Ok P w K mg base 2 "planned" p_planned (liftSp K sp_planned)) (f : Addr) (cdv : Value) (A : Around) (outer : List PySem.Env) (s₀ : Shared) (H : Hp) (E : XK) (M W : Addr → Prop) (H0 T : Hp) [ClOk ⟨K, M, W, H0, T, noTb⟩] (hr : Room 4 (A.deeper (envOfC "longest" (defScope s_longest) s₀.heap.objs.size f cdv))) :
    QSs (cxOf CX0 P w K mg base N_longest "longest" (defScope s_longest) f cdv A outer s₀ H E).nox ⟨K, M, W, H0, T, noTb⟩ (defBody s_longest) w_longest := by
  obtain ⟨f_all_numbers, fd_all_numbers, F_all_numbers, m_all_numbers, k_all_numbers, d_all_numbers⟩ := h_all_numbers.ex
  obtain ⟨f_by_latest_end, fd_by_latest_end, F_by_latest_end, m_by_latest_end, k_by_latest_end, d_by_latest_end⟩ := h_by_latest_end.ex
  obtain ⟨f_check_candles, fd_check_candles, F_check_candles, m_check_candles, k_check_candles, d_check_candles⟩ := h_check_candles.ex
  obtain ⟨f_planned, fd_planned, F_planned, m_planned, k_planned, d_planned⟩ := h_planned.ex
  exact (qss_cons (qs_expr (qe_call mono_check_candles F_check_candles (hr.mono (by decide)) m_check_candles k_check_candles d_check_candles pass0 (qa_cons (qv 0) qa_nil)))
  (qss_one (qs_ret (qe_call mono_planned F_planned (hr.mono (by decide)) m_planned k_planned d_planned pass0 (qa_cons (qv 0) (qa_cons (qe_call mono_by_latest_end F_by_latest_end (hr.mono (by decide)) m_by_latest_end k_by_latest_end d_by_latest_end pass0 (qa_cons (qv 0) (qa_cons (qe_call mono_all_numbers F_all_numbers (hr.mono (by decide)) m_all_numbers k_all_numbers d_all_numbers pass0 (qa_cons (qv 0) qa_nil)) qa_nil))) qa_nil))))))
/-! ### is_candle_number -/
abbrev s_is_candle_number : Stmt := topS 15
abbrev N_is_candle_number : List Str := ["candles", "number"]
abbrev p_is_candle_number : List Str := ["candles", "number"]
theorem sc_is_candle_number : FnScope N_is_candle_number p_is_candle_number (defScope s_is_candle_number) := ⟨rfl, rfl, rfl, by decide +kernel, rfl, by decide +kernel, by decide +kernel⟩
def w_is_candle_number : WS := (wRet (wCallS sp_is_within (wCons (wVar 1) (wCons (wC (.int 0)) (wCons (wOp kSub (w2e (wUn kLen (wVarB 0)) (wC (.int 1)))) wNil)))))
set_option maxHeartbeats 4000000 in
theorem b_is_candle_number {P : Program} {w : World} {K : PySem.W.Frag} {mg : Str → Option Value} {base : Heap} (z : Zs mg) (h_is_within : Ok P w K mg base 2 "is_within" p_is_within (liftSp K sp_is_within)) (f : Addr) (cdv : Value) (A : Around) (outer : List PySem.Env) (s₀ : Shared) (H : Hp) (E : XK) (M W : Addr → Prop) (H0 T : Hp) [ClOk ⟨K, M, W, H0, T, noTb⟩] (hr : Room 2 (A.deeper (envOfC "is_candle_number" (defScope s_is_candle_number) s₀.heap.objs.size f cdv))) :
    QSs (cxOf CX0 P w K mg base N_is_candle_number "is_candle_number" (defScope s_is_candle_number) f cdv A outer s₀ H E).nox ⟨K, M, W, H0, T, noTb⟩ (defBody s_is_candle_number) w_is_candle_number := by
  obtain ⟨f_is_within, fd_is_within, F_is_within, m_is_within, k_is_within, d_is_within⟩ := h_is_within.ex
  exact (qss_one (qs_ret (qe_call mono_is_within F_is_within (hr.mono (by decide)) m_is_within k_is_within d_is_within pass0 (qa_cons (qv 1) (qa_cons qe_int (qa_cons (qe_op op_sub (kI_op fun _ _ _ _ => .int _) kI_mono (q2_e (qe_b1 call_len_seq kLen_op kLen_mono (by rfl) z.len_ (by decide +kernel) (qvb 0)) (QE.qb qe_int))) qa_nil))))))
/-! ### check_turn -/
abbrev s_check_turn : Stmt := topS 17
abbrev N_check_turn : List Str := ["candles", "turn", "place", "number"]
abbrev p_check_turn : List Str := ["candles", "turn"]
theorem sc_check_turn : FnScope N_check_turn p_check_turn (defScope s_check_turn) := ⟨rfl, rfl, rfl, by decide +kernel, rfl, by decide +kernel, by decide +kernel⟩
def w_check_turn : WS := (wSeq (wIfS (wNot (wTest (wCl kIsi (wCons (wVar 1) (wCons (wC (.raw (.ty "tuple"))) wNil))))) wNever wNext)
  (wFor (wEnumT (wVar 1)) (wgTup 2 (wgCons (wName 2) (wgCons (wName 3) wgNil))) (wIfS (wOr (wNot (wTest (wCallS sp_is_candle_number (wCons (wVar 0) (wCons (wVar 3) wNil))))) (wTest (wOp (kIn false) (w2v 3 (wSl (wVar 1) wNoPart (wPart (wVar 2))))))) wNever wNext)))
set_option maxHeartbeats 4000000 in
theorem b_check_turn {P : Program} {w : World} {K : PySem.W.Frag} {mg : Str → Option Value} {base : Heap} (z : Zs mg) (h_is_candle_number : Ok P w K mg base 3 "is_candle_number" p_is_candle_number (liftSp K sp_is_candle_number)) (f : Addr) (cdv : Value) (A : Around) (outer : List PySem.Env) (s₀ : Shared) (H : Hp) (E : XK) (M W : Addr → Prop) (H0 T : Hp) [ClOk ⟨K, M, W, H0, T, noTb⟩] (hr : Room 3 (A.deeper (envOfC "check_turn" (defScope s_check_turn) s₀.heap.objs.size f cdv))) :
    QSs (cxOf CX0 P w K mg base N_check_turn "check_turn" (defScope s_check_turn) f cdv A outer s₀ H E).nox ⟨K, M, W, H0, T, noTb⟩ (defBody s_check_turn) w_check_turn := by
  obtain ⟨f_is_candle_number, fd_is_candle_number, F_is_candle_number, m_is_candle_number, k_is_candle_number, d_is_candle_number⟩ := h_is_candle_number.ex
  exact (qss_cons (qs_if (qt_not (qt_val (qe_callB call_isiA kIsi_op kIsi_mono (by rfl) z.isinstance_ (by decide +kernel) (qa_cons (qv 1) (qa_cons (qe_ty (by rfl) z.tuple_ (by decide +kernel)) qa_nil))))) (qss_one qs_never) qss_nil)
  (qss_one (qs_for PassesOwn.never rfl (qi_enumT (by rfl) z.enumerate_ (qv 1)) (qg_tup rfl (qgs_cons (qg_name (i := 2) sc_check_turn.nd rfl (by first | exact Or.inl rfl | exact Or.inr rfl)) (qgs_cons (qg_name (i := 3) sc_check_turn.nd rfl (by first | exact Or.inl rfl | exact Or.inr rfl)) qgs_nil))) (qss_one (qs_if (QW.qt (qw_or (qt_not (qt_val (qe_call mono_is_candle_number F_is_candle_number (hr.mono (by decide)) m_is_candle_number k_is_candle_number d_is_candle_number pass0 (qa_cons (qv 0) (qa_cons (qv 3) qa_nil))))) (qw_or1 (qt_cmp op_in_seq (kIn_op (neg := false)) kIn_mono (q2v 3 (QE.qb (qe_sl (qv 1) qo_none (qo_some (qv 2))))) (by rfl))))) (qss_one qs_never) qss_nil)))))
/-! ### by_turn -/
abbrev s_by_turn : Stmt := topS 30
abbrev N_by_turn : List Str := ["candles", "turn"]
abbrev p_by_turn : List Str := ["candles", "turn"]
theorem sc_by_turn : FnScope N_by_turn p_by_turn (defScope s_by_turn) := ⟨rfl, rfl, rfl, by decide +kernel, rfl, by decide +kernel, by decide +kernel⟩
def w_by_turn : WS := (wSeq (wDrop (wCallS sp_check_candles (wCons (wVar 0) wNil)))
  (wSeq (wDrop (wCallS sp_check_turn (wCons (wVar 0) (wCons (wVar 1) wNil))))
  (wRet (wCallS sp_planned (wCons (wVar 0) (wCons (wVar 1) wNil))))))
set_option maxHeartbeats 4000000 in
theorem b_by_turn {P : Program} {w : World} {K : PySem.W.Frag} {mg : Str → Option Value} {base : Heap} (z : Zs mg) (h_check_candles : Ok P w K mg base 4 "check_candles" p_check_candles (liftSp K sp_check_candles)) (h_check_turn : Ok P w K mg base 4 "check_turn" p_check_turn (liftSp K sp_check_turn)) (h_planned : Ok P w K mg base 2 "planned" p_planned (liftSp K sp_planned)) (f : Addr) (cdv : Value) (A : Around) (outer : List PySem.Env) (s₀ : Shared) (H : Hp) (E : XK) (M W : Addr → Prop) (H0 T : Hp) [ClOk ⟨K, M, W, H0, T, noTb⟩] (hr : Room 4 (A.deeper (envOfC "by_turn" (defScope s_by_turn) s₀.heap.objs.size f cdv))) :
    QSs (cxOf CX0 P w K mg base N_by_turn "by_turn" (defScope s_by_turn) f cdv A outer s₀ H E).nox ⟨K, M, W, H0, T, noTb⟩ (defBody s_by_turn) w_by_turn := by
  obtain ⟨f_check_candles, fd_check_candles, F_check_candles, m_check_candles, k_check_candles, d_check_candles⟩ := h_check_candles.ex
  obtain ⟨f_check_turn, fd_check_turn, F_check_turn, m_check_turn, k_check_turn, d_check_turn⟩ := h_check_turn.ex
  obtain ⟨f_planned, fd_planned, F_planned, m_planned, k_planned, d_planned⟩ := h_planned.ex
  exact (qss_cons (qs_expr (qe_call mono_check_candles F_check_candles (hr.mono (by decide)) m_check_candles k_check_candles d_check_candles pass0 (qa_cons (qv 0) qa_nil)))
  (qss_cons (qs_expr (qe_call mono_check_turn F_check_turn (hr.mono (by decide)) m_check_turn k_check_turn d_check_turn pass0 (qa_cons (qv 0) (qa_cons (qv 1) qa_nil))))
  (qss_one (qs_ret (qe_call mono_planned F_planned (hr.mono (by decide)) m_planned k_planned d_planned pass0 (qa_cons (qv 0) (qa_cons (qv 1) qa_nil)))))))
/-! ### _law_taken -/
abbrev s_l_taken : Stmt := topS 33
abbrev N_l_taken : List Str := ["_law_row", "_law_many", "_law_found", "_law_cell"]
abbrev p_l_taken : List Str := ["_law_row", "_law_many"]
theorem sc_l_taken : FnScope N_l_taken p_l_taken (defScope s_l_taken) := ⟨rfl, rfl, rfl, by decide +kernel, rfl, by decide +kernel, by decide +kernel⟩
def w_l_taken : WS := (wSeq (wIfS (wTest (wOp kGt (w2e (wOp kIx (w2v 0 (wC (.int 3)))) (wC (.int 0))))) (wSeq (wAsg (wOp kMod (w2e (wUn kInt (wOp kIx (w2v 0 (wC (.int 3))))) (wVarB 1))) (wName 2))
  (wSeq (wSetI (wOp kDiv (w2e (wOp kIx (w2v 0 (wC (.int 3)))) (wVarB 1))) 0 3)
  (wRet (wVar 2)))) wNext)
  (wSeq (wSetI (wOp kAdd (w2e (wOp kIx (w2v 0 (wC (.int 1)))) (wC (.int 1)))) 0 1)
  (wSeq (wIfS (wTest (wOp kGt (w2e (wOp kIx (w2v 0 (wC (.int 1)))) (wUn kLen (wOp kIx (w2v 0 (wC (.int 0)))))))) (wSeq (wSetI (wOp kMod (w2e (wUn kInt (wOp kAdd (w2e (wOp kMul (w2e (wOp kIx (w2v 0 (wC (.int 2)))) (wC (.int 48271)))) (wC (.int 11))))) (wC (.int 2147483647)))) 0 2)
  (wRet (wOp kMod (w2e (wUn kInt (wOp kDiv (w2e (wOp kIx (w2v 0 (wC (.int 2)))) (wC (.int 7))))) (wVarB 1))))) wNext)
  (wSeq (wAsg (wOp kIx (w2e (wOp kIx (w2v 0 (wC (.int 0)))) (wOp kSub (w2e (wOp kIx (w2v 0 (wC (.int 1)))) (wC (.int 1)))))) (wName 3))
  (wSeq (wSetI (wOp kMod (w2e (wUn kInt (wOp kAdd (w2e (wOp kAdd (w2e (wOp kMul (w2e (wOp kIx (w2v 0 (wC (.int 2)))) (wC (.int 48271)))) (wVarB 3))) (wC (.int 11))))) (wC (.int 2147483647)))) 0 2)
  (wSeq (wIfS (wTest (wOp kGe (w2v 3 (wOp kPow (w2e (wC (.int 10)) (wC (.int 18))))))) (wSetI (wOp kDiv (w2v 3 (wVarB 1))) 0 3) wNext)
  (wRet (wOp kMod (w2e (wUn kInt (wVarB 3)) (wVarB 1))))))))))
set_option maxHeartbeats 4000000 in
theorem b_l_taken {P : Program} {w : World} {K : PySem.W.Frag} {mg : Str → Option Value} {base : Heap} (z : Zs mg)  (f : Addr) (cdv : Value) (A : Around) (outer : List PySem.Env) (s₀ : Shared) (H : Hp) (E : XK) (M W : Addr → Prop) (H0 T : Hp) [ClOk ⟨K, M, W, H0, T, noTb⟩] (hr : Room 0 (A.deeper (envOfC "_law_taken" (defScope s_l_taken) s₀.heap.objs.size f cdv))) :
    QSs (cxOf CX0 P w K mg base N_l_taken "_law_taken" (defScope s_l_taken) f cdv A outer s₀ H E).nox ⟨K, M, W, H0, T, noTb⟩ (defBody s_l_taken) w_l_taken := by
  
  exact (qss_cons (qs_if (qt_cmp op_gt (kI_op fun _ _ _ _ => .bl _) kI_mono (q2_e (qe_ix ix_seq kIx_op kIx_mono (q2v 0 (QE.qb qe_int)) (fun _ _ => rfl)) (QE.qb qe_int)) (nomark _)) (qss_cons (qs_set (i := 2) sc_l_taken.nd rfl (by first | exact Or.inl rfl | exact Or.inr rfl) (qe_op op_mod (kI2_op fun _ _ _ _ => .int _) kI2_mono (q2_e (qe_t1 call_int1 kInt_op kInt_mono (by rfl) z.int_ (by decide +kernel) (QE.qb (qe_ix ix_seq kIx_op kIx_mono (q2v 0 (QE.qb qe_int)) (fun _ _ => rfl)))) (qvb 1))))
  (qss_cons (qs_setI (i := 0) (k := 3) rfl (by first | exact Or.inl rfl | exact Or.inr (Or.inl rfl) | exact Or.inr (Or.inr rfl)) (qe_op op_fdiv (kI2_op fun _ _ _ _ => .int _) kI2_mono (q2_e (qe_ix ix_seq kIx_op kIx_mono (q2v 0 (QE.qb qe_int)) (fun _ _ => rfl)) (qvb 1))))
  (qss_one (qs_ret (qv 2))))) qss_nil)
  (qss_cons (qs_setI (i := 0) (k := 1) rfl (by first | exact Or.inl rfl | exact Or.inr (Or.inl rfl) | exact Or.inr (Or.inr rfl)) (qe_op op_addA kAdd_op kAdd_mono (q2_e (qe_ix ix_seq kIx_op kIx_mono (q2v 0 (QE.qb qe_int)) (fun _ _ => rfl)) (QE.qb qe_int))))
  (qss_cons (qs_if (qt_cmp op_gt (kI_op fun _ _ _ _ => .bl _) kI_mono (q2_e (qe_ix ix_seq kIx_op kIx_mono (q2v 0 (QE.qb qe_int)) (fun _ _ => rfl)) (QE.qb (qe_b1 call_len_seq kLen_op kLen_mono (by rfl) z.len_ (by decide +kernel) (QE.qb (qe_ix ix_seq kIx_op kIx_mono (q2v 0 (QE.qb qe_int)) (fun _ _ => rfl)))))) (nomark _)) (qss_cons (qs_setI (i := 0) (k := 2) rfl (by first | exact Or.inl rfl | exact Or.inr (Or.inl rfl) | exact Or.inr (Or.inr rfl)) (qe_op op_mod (kI2_op fun _ _ _ _ => .int _) kI2_mono (q2_e (qe_t1 call_int1 kInt_op kInt_mono (by rfl) z.int_ (by decide +kernel) (QE.qb (qe_op op_addA kAdd_op kAdd_mono (q2_e (qe_op op_mul (kI2_op fun _ _ _ _ => .int _) kI2_mono (q2_e (qe_ix ix_seq kIx_op kIx_mono (q2v 0 (QE.qb qe_int)) (fun _ _ => rfl)) (QE.qb qe_int))) (QE.qb qe_int))))) (QE.qb qe_int))))
  (qss_one (qs_ret (qe_op op_mod (kI2_op fun _ _ _ _ => .int _) kI2_mono (q2_e (qe_t1 call_int1 kInt_op kInt_mono (by rfl) z.int_ (by decide +kernel) (QE.qb (qe_op op_fdiv (kI2_op fun _ _ _ _ => .int _) kI2_mono (q2_e (qe_ix ix_seq kIx_op kIx_mono (q2v 0 (QE.qb qe_int)) (fun _ _ => rfl)) (QE.qb qe_int))))) (qvb 1)))))) qss_nil)
  (qss_cons (qs_set (i := 3) sc_l_taken.nd rfl (by first | exact Or.inl rfl | exact Or.inr rfl) (qe_ix ix_seq kIx_op kIx_mono (q2_e (qe_ix ix_seq kIx_op kIx_mono (q2v 0 (QE.qb qe_int)) (fun _ _ => rfl)) (QE.qb (qe_op op_sub (kI_op fun _ _ _ _ => .int _) kI_mono (q2_e (qe_ix ix_seq kIx_op kIx_mono (q2v 0 (QE.qb qe_int)) (fun _ _ => rfl)) (QE.qb qe_int))))) (fun _ _ => rfl)))
  (qss_cons (qs_setI (i := 0) (k := 2) rfl (by first | exact Or.inl rfl | exact Or.inr (Or.inl rfl) | exact Or.inr (Or.inr rfl)) (qe_op op_mod (kI2_op fun _ _ _ _ => .int _) kI2_mono (q2_e (qe_t1 call_int1 kInt_op kInt_mono (by rfl) z.int_ (by decide +kernel) (QE.qb (qe_op op_addA kAdd_op kAdd_mono (q2_e (qe_op op_addA kAdd_op kAdd_mono (q2_e (qe_op op_mul (kI2_op fun _ _ _ _ => .int _) kI2_mono (q2_e (qe_ix ix_seq kIx_op kIx_mono (q2v 0 (QE.qb qe_int)) (fun _ _ => rfl)) (QE.qb qe_int))) (qvb 3))) (QE.qb qe_int))))) (QE.qb qe_int))))
  (qss_cons (qs_if (qt_cmp op_ge (kI_op fun _ _ _ _ => .bl _) kI_mono (q2v 3 (QE.qb (qe_op op_pow (kI2_op fun _ _ _ _ => .int _) kI2_mono (q2_e qe_int (QE.qb qe_int))))) (nomark _)) (qss_one (qs_setI (i := 0) (k := 3) rfl (by first | exact Or.inl rfl | exact Or.inr (Or.inl rfl) | exact Or.inr (Or.inr rfl)) (qe_op op_fdiv (kI2_op fun _ _ _ _ => .int _) kI2_mono (q2v 3 (qvb 1))))) qss_nil)
  (qss_one (qs_ret (qe_op op_mod (kI2_op fun _ _ _ _ => .int _) kI2_mono (q2_e (qe_t1 call_int1 kInt_op kInt_mono (by rfl) z.int_ (by decide +kernel) (qvb 3)) (qvb 1)))))))))))
/-! ### _law_candles -/
abbrev s_l_candles : Stmt := topS 34
abbrev N_l_candles : List Str := ["_law_row", "_law_least", "_law_most_many", "_law_many", "_law_long", "_law_damp", "_law_found", "_law_k", "_law_length", "_law_soon"]
abbrev p_l_candles : List Str := ["_law_row", "_law_least", "_law_most_many"]
theorem sc_l_candles : FnScope N_l_candles p_l_candles (defScope s_l_candles) := ⟨rfl, rfl, rfl, by decide +kernel, rfl, by decide +kernel, by decide +kernel⟩
def w_l_candles : WS := (wSeq (wAsg (wOp kAdd (w2v 1 (wCallR sp_l_taken 0 (wCons (wOp kAdd (w2e (wOp kSub (w2v 2 (wVarB 1))) (wC (.int 1)))) wNil)))) (wName 3))
  (wSeq (wPar 4 5 (wCons (wOp kIx (w2e (fun ρ Q => (wLst (wCons (wC (.int 3)) (wCons (wC (.int 9)) (wCons (wC (.int 99)) wNil)))) ρ fun xs ρ' => Q (.lst xs) ρ') (wCallR sp_l_taken 0 (wCons (wC (.int 3)) wNil)))) (wCons (wOp kIx (w2e (fun ρ Q => (wLst (wCons (wC (.int 5)) (wCons (wC (.int 30)) (wCons (wC (.int 1000)) wNil)))) ρ fun xs ρ' => Q (.lst xs) ρ') (wCallR sp_l_taken 0 (wCons (wC (.int 3)) wNil)))) wNil)))
  (wSeq (wOwn (wLst wNil) 6)
  (wSeq (wFor (wRng1 (wCons (wVar 3) wNil)) (wName 7) (wSeq (wPar 8 9 (wCons (wOp kAdd (w2e (wC (.int 1)) (wCallR sp_l_taken 0 (wCons (wVar 4) wNil)))) (wCons (wCallR sp_l_taken 0 (wCons (wVar 5) wNil)) wNil)))
  (wDrop (wApp 6 (wTup (wCons (wVar 8) (wCons (wVar 9) (wCons (wOp kAdd (w2e (wC (.int 1)) (wCallR sp_l_taken 0 (wCons (wOp kIx (w2e (fun ρ Q => (wLst (wCons (wC (.int 3)) (wCons (wC (.int 99)) wNil))) ρ fun xs ρ' => Q (.lst xs) ρ') (wCallR sp_l_taken 0 (wCons (wC (.int 2)) wNil)))) wNil)))) wNil))))))))
  (wRet (wUn kTuple (wVarB 6)))))))
set_option maxHeartbeats 4000000 in
theorem b_l_candles {P : Program} {w : World} {K : PySem.W.Frag} {mg : Str → Option Value} {base : Heap} (z : Zs mg) (h_l_taken : Ok P w K mg base 1 "_law_taken" p_l_taken (liftRw K sp_l_taken)) (f : Addr) (cdv : Value) (A : Around) (outer : List PySem.Env) (s₀ : Shared) (H : Hp) (E : XK) (M W : Addr → Prop) (H0 T : Hp) [ClOk ⟨K, M, W, H0, T, noTb⟩] (hr : Room 1 (A.deeper (envOfC "_law_candles" (defScope s_l_candles) s₀.heap.objs.size f cdv))) :
    QSs (cxOf CX0 P w K mg base N_l_candles "_law_candles" (defScope s_l_candles) f cdv A outer s₀ H E).nox ⟨K, M, W, H0, T, noTb⟩ (defBody s_l_candles) w_l_candles := by
  obtain ⟨f_l_taken, fd_l_taken, F_l_taken, m_l_taken, k_l_taken, d_l_taken⟩ := h_l_taken.ex
  exact (qss_cons (qs_set (i := 3) sc_l_candles.nd rfl (by first | exact Or.inl rfl | exact Or.inr rfl) (qe_op op_addA kAdd_op kAdd_mono (q2v 1 (QE.qb (qe_callR (i := 0) mono_l_taken F_l_taken (hr.mono (by decide)) m_l_taken k_l_taken d_l_taken pass0 rfl (by first | exact Or.inl rfl | exact Or.inr (Or.inl rfl) | exact Or.inr (Or.inr rfl)) (qa_cons (qe_op op_addA kAdd_op kAdd_mono (q2_e (qe_op op_sub (kI_op fun _ _ _ _ => .int _) kI_mono (q2v 2 (qvb 1))) (QE.qb qe_int))) qa_nil))))))
  (qss_cons (qs_par (i := 4) (j := 5) rfl sc_l_candles.nd rfl rfl (by decide) rfl rfl (qa_cons (qe_ix ix_seq kIx_op kIx_mono (q2_e (QF.qe (qf_lst (qa_cons qe_int (qa_cons qe_int (qa_cons qe_int qa_nil))))) (QE.qb (qe_callR (i := 0) mono_l_taken F_l_taken (hr.mono (by decide)) m_l_taken k_l_taken d_l_taken pass0 rfl (by first | exact Or.inl rfl | exact Or.inr (Or.inl rfl) | exact Or.inr (Or.inr rfl)) (qa_cons qe_int qa_nil)))) (fun _ _ => rfl)) (qa_cons (qe_ix ix_seq kIx_op kIx_mono (q2_e (QF.qe (qf_lst (qa_cons qe_int (qa_cons qe_int (qa_cons qe_int qa_nil))))) (QE.qb (qe_callR (i := 0) mono_l_taken F_l_taken (hr.mono (by decide)) m_l_taken k_l_taken d_l_taken pass0 rfl (by first | exact Or.inl rfl | exact Or.inr (Or.inl rfl) | exact Or.inr (Or.inr rfl)) (qa_cons qe_int qa_nil)))) (fun _ _ => rfl)) qa_nil)) (by rfl))
  (qss_cons (qs_own (i := 6) sc_l_candles.nd rfl (by first | exact Or.inl rfl | exact Or.inr rfl) (qf_lst qa_nil))
  (qss_cons (qs_for PassesOwn.never rfl (qi_range1 (by rfl) z.range_ (qa_cons (qv 3) qa_nil)) (qg_name (i := 7) sc_l_candles.nd rfl (by first | exact Or.inl rfl | exact Or.inr rfl)) (qss_cons (qs_par (i := 8) (j := 9) rfl sc_l_candles.nd rfl rfl (by decide) rfl rfl (qa_cons (qe_op op_addA kAdd_op kAdd_mono (q2_e qe_int (QE.qb (qe_callR (i := 0) mono_l_taken F_l_taken (hr.mono (by decide)) m_l_taken k_l_taken d_l_taken pass0 rfl (by first | exact Or.inl rfl | exact Or.inr (Or.inl rfl) | exact Or.inr (Or.inr rfl)) (qa_cons (qv 4) qa_nil))))) (qa_cons (qe_callR (i := 0) mono_l_taken F_l_taken (hr.mono (by decide)) m_l_taken k_l_taken d_l_taken pass0 rfl (by first | exact Or.inl rfl | exact Or.inr (Or.inl rfl) | exact Or.inr (Or.inr rfl)) (qa_cons (qv 5) qa_nil)) qa_nil)) (by rfl))
  (qss_one (qs_expr (qe_app (i := 6) rfl (by first | exact Or.inl rfl | exact Or.inr (Or.inl rfl) | exact Or.inr (Or.inr rfl)) (qe_tup (qa_cons (qv 8) (qa_cons (qv 9) (qa_cons (qe_op op_addA kAdd_op kAdd_mono (q2_e qe_int (QE.qb (qe_callR (i := 0) mono_l_taken F_l_taken (hr.mono (by decide)) m_l_taken k_l_taken d_l_taken pass0 rfl (by first | exact Or.inl rfl | exact Or.inr (Or.inl rfl) | exact Or.inr (Or.inr rfl)) (qa_cons (qe_ix ix_seq kIx_op kIx_mono (q2_e (QF.qe (qf_lst (qa_cons qe_int (qa_cons qe_int qa_nil)))) (QE.qb (qe_callR (i := 0) mono_l_taken F_l_taken (hr.mono (by decide)) m_l_taken k_l_taken d_l_taken pass0 rfl (by first | exact Or.inl rfl | exact Or.inr (Or.inl rfl) | exact Or.inr (Or.inr rfl)) (qa_cons qe_int qa_nil)))) (fun _ _ => rfl)) qa_nil))))) qa_nil)))) (mk := fun _ _ h1 h2 => pe_bm PySem.F.plainAttrs_list PySem.F.slot_list_append PySem.F.type_list_append mt_append h1 h2))))))
  (qss_one (qs_ret (qe_t1 call_tuple_of kTuple_op kTuple_mono (by rfl) z.tuple_ (by decide +kernel) (qvb 6))))))))
end FW
set_option Elab.async false
set_option linter.all false
set_option maxRecDepth 100000
set_option maxHeartbeats 2000000
namespace FW
open PySem PySem.Spec PyProof.Rows L2 AL
theorem kb_ii : kitB "int" "int" = some true := by decide +kernel
theorem kb_bi : kitB "bool" "int" = some true := by decide +kernel
theorem kb_si : kitB "str" "int" = some false := by decide +kernel
theorem kb_ti : kitB "tuple" "int" = some false := by decide +kernel
theorem kb_li : kitB "list" "int" = some false := by decide +kernel
theorem kb_ni : kitB "NoneType" "int" = some false := by decide +kernel
theorem kb_ib : kitB "int" "bool" = some false := by decide +kernel
theorem kb_bb : kitB "bool" "bool" = some true := by decide +kernel
theorem kb_tb : kitB "tuple" "bool" = some false := by decide +kernel
theorem kb_nb : kitB "NoneType" "bool" = some false := by decide +kernel
theorem kb_lb : kitB "list" "bool" = some false := by decide +kernel
theorem kb_sb : kitB "str" "bool" = some false := by decide +kernel
theorem kb_tt : kitB "tuple" "tuple" = some true := by decide +kernel
theorem kb_lt : kitB "list" "tuple" = some false := by decide +kernel
theorem kb_it : kitB "int" "tuple" = some false := by decide +kernel
theorem kb_nt : kitB "NoneType" "tuple" = some false := by decide +kernel
theorem kb_ll : kitB "list" "list" = some true := by decide +kernel
theorem kb_tl : kitB "tuple" "list" = some false := by decide +kernel
theorem kb_il : kitB "int" "list" = some false := by decide +kernel
theorem kb_nl : kitB "NoneType" "list" = some false := by decide +kernel
theorem read_is_whole : ∀ xs Q, sp_is_whole xs Q → w_is_whole { nx := fun _ => Q .non, rt := fun y _ => Q y } (startE N_is_whole [] xs) := by
  rintro xs Q ⟨x, rfl, hx, q⟩
  cases x with
  | raw v => cases hx
  | dct v => cases hx
  | dkt v1 v2 => cases hx
  | thk v3 => cases hx
  | scr v => cases hx
  | bl b => exact ⟨rfl, true, kb_bi, ⟨rfl, true, kb_bb, q⟩⟩
  | int i => exact ⟨rfl, true, kb_ii, ⟨rfl, false, kb_ib, q⟩⟩
  | non => exact ⟨rfl, false, kb_ni, q⟩
  | str s => exact ⟨rfl, false, kb_si, q⟩
  | tup s => exact ⟨rfl, false, kb_ti, q⟩
  | lst s => exact ⟨rfl, false, kb_li, q⟩
theorem within_t {i lo hi : Int} (h1 : lo ≤ i) (h2 : i ≤ hi) : within (.int i) lo hi = true := by
  show (decide (lo ≤ i) && decide (i ≤ hi)) = true
  rw [decide_eq_true h1, decide_eq_true h2]; rfl
theorem read_is_within : ∀ xs Q, sp_is_within xs Q → w_is_within { nx := fun _ => Q .non, rt := fun y _ => Q y } (startE N_is_within [] xs) := by
  rintro xs Q ⟨⟨x, lo, hi⟩, rfl, hx, q⟩
  refine ⟨x, rfl, hx, ?_⟩
  cases x with
  | int i =>
    have q : Q (.bl (decide (lo ≤ i) && decide (i ≤ hi))) := q
    show if decide (lo ≤ i) = true then Q (.bl (decide (i ≤ hi))) else Q (.bl false)
    by_cases h : lo ≤ i
    · rw [decide_eq_true h] at q ⊢; exact q
    · rw [decide_eq_false h] at q ⊢; exact q
  | raw v => cases hx
  | dct v => cases hx
  | dkt v1 v2 => cases hx
  | thk v3 => cases hx
  | scr v => cases hx
  | _ => exact q
theorem read_is_candle : ∀ xs Q, sp_is_candle xs Q → w_is_candle { nx := fun _ => Q .non, rt := fun y _ => Q y } (startE N_is_candle [] xs) := by
  rintro xs Q ⟨⟨l, d, p⟩, rfl, ⟨h1, h2, h3⟩, q⟩
  refine ⟨rfl, true, kb_tt, ?_⟩
  refine ⟨rfl, rfl, ?_⟩
  refine ⟨rfl, ?_⟩
  refine ⟨(.int l, 1, 99), rfl, rfl, ?_⟩
  show isB (.bl (within (.int l) 1 99)) _
  rw [within_t h1.1 h1.2]
  refine ⟨(.int d, 0, 999), rfl, rfl, ?_⟩
  show isB (.bl (within (.int d) 0 999)) _
  rw [within_t h2.1 h2.2]
  refine ⟨(.int p, 1, 99), rfl, rfl, ?_⟩
  show Q (.bl (within (.int p) 1 99))
  rw [within_t h3.1 h3.2]
  exact q
theorem read_is_candle_number : ∀ xs Q, sp_is_candle_number xs Q → w_is_candle_number { nx := fun _ => Q .non, rt := fun y _ => Q y } (startE N_is_candle_number [] xs) := by
  rintro xs Q ⟨⟨cs, x⟩, rfl, hx, q⟩
  refine ⟨(x, 0, (cs.length : Int) - 1), ?_, hx, q⟩
  show [x, D.int 0, D.int (((cs.map cD).length : Int) - 1)] = _
  rw [List.length_map]
theorem at_get {cs : List Cd} {n : Nat} (h : n < cs.length) : cs[n]? = some (at' cs n) := by
  unfold at'
  rw [List.getD_eq_getElem?_getD, List.getElem?_eq_getElem h]; rfl
theorem at_mem {cs : List Cd} {n : Nat} (h : n < cs.length) : at' cs n ∈ cs := List.mem_of_getElem? (at_get h)
theorem at_good {cs : List Cd} (G : Goods cs) {n : Nat} (h : n < cs.length) : good (at' cs n) := G.all _ (at_mem h)
theorem at_csD {cs : List Cd} {n : Nat} (h : n < cs.length) : atI (cs.map cD) (n : Int) = some (cD (at' cs n)) := atI_nat (by rw [List.getElem?_map, at_get h]; rfl)
theorem small {n : Nat} (h : n ≤ 1000) : n ≤ sizeLine := Nat.le_of_lt (small1000 h)
theorem read_check_candles : ∀ xs Q, sp_check_candles xs Q → w_check_candles { nx := fun _ => Q .non, rt := fun y _ => Q y } (startE N_check_candles [] xs) := by
  rintro xs Q ⟨cs, rfl, G, q⟩
  refine ⟨rfl, true, kb_tt, ?_⟩
  show wLoop _ _ _ (enums 0 (cs.map cD)) _
  rw [enums_map]
  refine loop_inv (enc := fun p : Cd × Nat => .tup [.int (p.2 : Nat), cD p.1]) (I := fun _ ρ => ∃ a b, ρ = [.d (csD cs), a, b]) ?_ ?_ _ ⟨.un, .un, rfl⟩
  · rintro pre ⟨c, k⟩ post e K hK ρ ⟨a, b, rfl⟩
    have hm : (c, k) ∈ cs.zipIdx 0 := by rw [e]; exact List.mem_append_right _ List.mem_cons_self
    have h2 := List.mem_zipIdx hm
    have hk : k < 12 := by have := h2.2.1; have := G.len; omega
    have hc : c ∈ cs := by rw [h2.2.2]; exact List.getElem_mem _
    refine ⟨rfl, ?_⟩
    show if decide ((12 : Int) ≤ (k : Int)) = true then _ else _
    rw [decide_eq_false (show ¬ (12 : Int) ≤ (k : Int) by omega)]
    refine ⟨c, rfl, G.all c hc, ?_⟩
    exact hK _ ⟨_, _, rfl⟩
  · rintro ρ ⟨a, b, rfl⟩
    exact q
theorem read_latest_end : ∀ xs Q, sp_latest_end xs Q → w_latest_end { nx := fun _ => Q .non, rt := fun y _ => Q y } (startE N_latest_end [] xs) := by
  rintro xs Q ⟨⟨l, d, p⟩, rfl, _, q⟩
  exact ⟨rfl, q⟩
theorem filter_true {α : Type} (xs : List α) : xs.filter (fun _ => true) = xs := by
  induction xs with
  | nil => rfl
  | cons x r ih => rw [List.filter_cons_of_pos rfl, ih]
theorem map_int (f : Nat → Int) (ns : List Nat) : (ns.map fun n => D.int (f n)) = (ns.map f).map D.int := by rw [List.map_map]; rfl
theorem lot_len {n : Nat} : ∀ (lot : List Nat) (a : Nat), lot.Pairwise (· < ·) → (∀ k ∈ lot, a ≤ k ∧ k < n) → lot.length ≤ n - a
  | [], a, _, _ => Nat.zero_le _
  | x :: r, a, h, hk => by
    have h2 := List.pairwise_cons.mp h
    have hx := hk x List.mem_cons_self
    have ih := lot_len r (x + 1) h2.2 fun k hm => ⟨h2.1 k hm, (hk k (List.mem_cons_of_mem _ hm)).2⟩
    rw [List.length_cons]
    omega
theorem isLot.len {n : Nat} {lot : List Nat} (h : isLot n lot) : lot.length ≤ n := by
  have := lot_len lot 0 h.1 fun k hk => ⟨Nat.zero_le _, h.2 k hk⟩
  omega
theorem inD_lot {i : Int} : ∀ (lot : List Nat), 0 ≤ i → inD (.int i) (lot.map nD) = decide (i.toNat ∈ lot)
  | [], _ => by simp [inD, inV]
  | n :: r, h => by
    have ih := inD_lot r h
    unfold inD inV at ih ⊢
    rw [List.map_cons, List.map_cons, List.any_cons, ih]
    show ((n : Int) == i || decide (i.toNat ∈ r)) = _
    by_cases e : (n : Int) = i
    · have e2 : i.toNat = n := by omega
      rw [e2]; simp [e]
    · have e2 : ¬ i.toNat = n := by omega
      simp [e, e2]
theorem flat_nD (lot : List Nat) : (lot.map nD).all D.flat = true := by
  rw [List.all_map, List.all_eq_true]
  intro n _; rfl
theorem inD_ints {i : Int} : ∀ (ns : List Int), inD (.int i) (ns.map D.int) = decide (i ∈ ns)
  | [] => by simp [inD, inV]
  | n :: r => by
    have ih := inD_ints (i := i) r
    unfold inD inV at ih ⊢
    rw [List.map_cons, List.map_cons, List.any_cons, ih]
    show (n == i || decide (i ∈ r)) = _
    by_cases e : n = i
    · subst e; simp
    · have e2 : ¬ i = n := fun z => e z.symm
      simp [e, e2]
theorem flat_ints (ns : List Int) : (ns.map D.int).all D.flat = true := by
  rw [List.all_map, List.all_eq_true]
  intro n _; rfl
theorem emod_row {x many : Int} (h : 0 < many) : 0 ≤ x % many ∧ x % many < many := ⟨Int.emod_nonneg _ (by omega), Int.emod_lt_of_pos _ h⟩
theorem atI_menu {xs : List Int} {n : Int} (h0 : 0 ≤ n) (h1 : n < xs.length) : ∃ v, v ∈ xs ∧ atI (xs.map D.int) n = some (.int v) := by
  have hk : n.toNat < xs.length := by omega
  refine ⟨xs[n.toNat], List.getElem_mem _, ?_⟩
  have := atI_nat (xs := xs.map D.int) (j := n.toNat) (v := .int xs[n.toNat]) (by rw [List.getElem?_map, List.getElem?_eq_getElem hk]; rfl)
  rw [Int.toNat_of_nonneg h0] at this
  exact this
theorem read_l_taken : ∀ row xs Q, sp_l_taken row xs Q → w_l_taken { nx := fun ρ => ownE ρ[0]? fun w row' => w = true ∧ Q .non row', rt := fun y ρ => ownE ρ[0]? fun w row' => w = true ∧ Q y row' } (startR N_l_taken row xs) := by
  rintro row xs Q ⟨⟨ns, p, m, r, rfl, hp⟩, many, rfl, h0, h1, q⟩
  have hd : CDiv r many := ⟨h0, h1⟩
  refine ⟨.int r, rfl, ?_⟩
  show if decide (0 < r) = true then _ else _
  by_cases hr : 0 < r
  · rw [decide_eq_true hr]
    refine ⟨.int r, rfl, h0, ?_⟩
    refine ⟨.int r, rfl, ⟨h0, h1⟩, ?_⟩
    refine ⟨(by show (3 : Nat) < 4; decide), ?_⟩
    exact ⟨rfl, q _ _ (emod_row h0).1 (emod_row h0).2 ⟨ns, p, m, r / many, rfl, hp⟩⟩
  · rw [decide_eq_false hr]
    refine ⟨.int p, rfl, ?_⟩
    refine ⟨(by show (1 : Nat) < 4; decide), ?_⟩
    refine ⟨.int (p + 1), rfl, ?_⟩
    refine ⟨.scr ns, rfl, ?_⟩
    show if decide ((ns.length : Int) < p + 1) = true then _ else _
    by_cases hl : (ns.length : Int) < p + 1
    · rw [decide_eq_true hl]
      refine ⟨.int m, rfl, ⟨.inr ⟨by decide, by decide⟩, ?_⟩⟩
      refine ⟨(by show (0 : Int) < 2147483647; decide), ?_⟩
      refine ⟨(by show (2 : Nat) < 4; decide), ?_⟩
      refine ⟨.int _, rfl, ⟨by decide, by decide⟩, ?_⟩
      refine ⟨h0, ?_⟩
      exact ⟨rfl, q _ _ (emod_row h0).1 (emod_row h0).2 ⟨ns, p + 1, _, r, rfl, by omega⟩⟩
    · rw [decide_eq_false hl]
      refine ⟨.scr ns, rfl, ?_⟩
      refine ⟨.int (p + 1), rfl, ?_⟩
      have hk : p.toNat < ns.length := by omega
      refine ⟨ns[p.toNat], ?_, ?_⟩
      · have := atI_nat (xs := ns) (List.getElem?_eq_getElem hk)
        rw [Int.toNat_of_nonneg hp] at this
        rw [show p + 1 - 1 = p by omega]
        exact this
      generalize ns[p.toNat] = cell
      refine ⟨.int m, rfl, ⟨.inr ⟨by decide, by decide⟩, ?_⟩⟩
      refine ⟨(by show (0 : Int) < 2147483647; decide), ?_⟩
      refine ⟨(by show (2 : Nat) < 4; decide), ?_⟩
      refine ⟨⟨by decide, by decide, by decide⟩, ?_⟩
      show if decide ((10 : Int) ^ (18 : Int).toNat ≤ cell) = true then _ else _
      by_cases hc : (10 : Int) ^ (18 : Int).toNat ≤ cell
      · rw [decide_eq_true hc]
        refine ⟨⟨h0, h1⟩, ?_⟩
        refine ⟨(by show (3 : Nat) < 4; decide), ?_⟩
        refine ⟨h0, ?_⟩
        exact ⟨rfl, q _ _ (emod_row h0).1 (emod_row h0).2 ⟨ns, p + 1, _, _, rfl, by omega⟩⟩
      · rw [decide_eq_false hc]
        refine ⟨h0, ?_⟩
        exact ⟨rfl, q _ _ (emod_row h0).1 (emod_row h0).2 ⟨ns, p + 1, _, _, rfl, by omega⟩⟩
theorem read_l_candles : ∀ row xs Q, sp_l_candles row xs Q → w_l_candles { nx := fun ρ => ownE ρ[0]? fun w row' => w = true ∧ Q .non row', rt := fun y ρ => ownE ρ[0]? fun w row' => w = true ∧ Q y row' } (startR N_l_candles row xs) := by
  rintro row xs Q ⟨hrow, a, b, rfl, h0, h1, h2, q⟩
  refine ⟨hrow, b - a + 1, rfl, by omega, by omega, fun n row1 n0 n1 hrow1 => ?_⟩
  refine ⟨by decide, ?_⟩
  refine ⟨hrow1, 3, rfl, by decide, by decide, fun i row2 i0 i1 hrow2 => ?_⟩
  obtain ⟨lg, hlg, elg⟩ := atI_menu (xs := [3, 9, 99]) i0 i1
  refine ⟨.int lg, elg, ?_⟩
  refine ⟨by decide, ?_⟩
  refine ⟨hrow2, 3, rfl, by decide, by decide, fun j row3 j0 j1 hrow3 => ?_⟩
  obtain ⟨dm, hdm, edm⟩ := atI_menu (xs := [5, 30, 1000]) j0 j1
  refine ⟨.int dm, edm, ?_⟩
  refine ⟨by decide, ?_⟩
  refine ⟨⟨by omega, by omega⟩, ?_⟩
  have hlg2 : 0 < lg ∧ lg ≤ 99 := by
    rcases (show lg = 3 ∨ lg = 9 ∨ lg = 99 by simpa using hlg) with rfl | rfl | rfl <;> exact ⟨by decide, by decide⟩
  have hdm2 : 0 < dm ∧ dm ≤ 1000 := by
    rcases (show dm = 5 ∨ dm = 30 ∨ dm = 1000 by simpa using hdm) with rfl | rfl | rfl <;> exact ⟨by decide, by decide⟩
  rw [intsD_map]
  have hn : (a + n).toNat ≤ 12 := by omega
  refine loop_inv (enc := fun k : Nat => .int (k : Nat)) (I := fun pre ρ => ∃ (row : List D) (cs : List Cd) (x y z : En), ρ = [.own true row, .d (.int a), .d (.int b), .d (.int (a + n)), .d (.int lg), .d (.int dm), .own false (cs.map cD), x, y, z] ∧ isRow row ∧ cs.length = pre.length ∧ ∀ c ∈ cs, good c) ?_ ?_ _ ⟨row3, [], .un, .un, .un, rfl, hrow3, rfl, fun c h => nomatch h⟩
  · rintro pre k post e K hK ρ ⟨row, cs, x, y, z, rfl, hrow, hl, hg⟩
    have hp : pre.length < 12 := by
      have := congrArg List.length e
      rw [List.length_range, List.length_append, List.length_cons] at this
      omega
    refine ⟨hrow, lg, rfl, hlg2.1, by omega, fun u row4 u0 u1 hrow4 => ?_⟩
    refine ⟨hrow4, dm, rfl, hdm2.1, by omega, fun v row5 v0 v1 hrow5 => ?_⟩
    refine ⟨by decide, ?_⟩
    refine ⟨hrow5, 2, rfl, by decide, by decide, fun w row6 w0 w1 hrow6 => ?_⟩
    obtain ⟨pr, hpr, epr⟩ := atI_menu (xs := [3, 99]) w0 w1
    refine ⟨.int pr, epr, ?_⟩
    have hpr2 : 0 < pr ∧ pr ≤ 99 := by
      rcases (show pr = 3 ∨ pr = 99 by simpa using hpr) with rfl | rfl <;> exact ⟨by decide, by decide⟩
    refine ⟨hrow6, pr, rfl, hpr2.1, by omega, fun t row7 t0 t1 hrow7 => ?_⟩
    refine ⟨small (n := 3) (by decide), ?_⟩
    refine ⟨by rw [List.length_map]; exact Nat.lt_of_lt_of_le (show cs.length < 13 by omega) (small (by decide)), ?_⟩
    refine hK _ ⟨row7, cs ++ [(1 + u, v, 1 + t)], .d (.int (k : Nat)), .d (.int (1 + u)), .d (.int v), ?_, hrow7, by rw [List.length_append, List.length_append, hl]; rfl, fun c hc => ?_⟩
    · rw [List.map_append]; rfl
    · rcases List.mem_append.mp hc with hc | hc
      · exact hg c hc
      · rw [List.mem_singleton.mp hc]
        exact ⟨⟨by show 1 ≤ 1 + u; omega, by show 1 + u ≤ 99; omega⟩, ⟨v0, by show v ≤ 999; omega⟩, ⟨by show 1 ≤ 1 + t; omega, by show 1 + t ≤ 99; omega⟩⟩
  · rintro ρ ⟨row, cs, x, y, z, rfl, hrow, hl, hg⟩
    rw [List.length_range] at hl
    exact ⟨rfl, q cs row ⟨by omega, hg⟩ (by omega) (by omega) hrow⟩
theorem eqv_self {x : D} (h : okD x = true) : eqD x x = true := by
  unfold okD at h
  rw [Bool.and_eq_true] at h
  exact PySem.SeqAt.eqv_refl _ (PySem.SeqAt.canLay_of_shaped h.2)
theorem okD_bl (b : Bool) : okD (.bl b) = true := rfl
theorem okD_int (b : Int) : okD (.int b) = true := rfl
theorem kit_bool {x : D} (h : x.isRaw = false) : ∃ b, kitB x.ty "bool" = some b := by
  cases x <;> first | exact ⟨_, kb_nb⟩ | exact ⟨_, kb_bb⟩ | exact ⟨_, kb_ib⟩ | exact ⟨_, kb_sb⟩ | exact ⟨_, kb_tb⟩ | exact ⟨_, kb_lb⟩ | cases h
theorem kb_st : kitB "str" "tuple" = some false := by decide +kernel
theorem kb_sl : kitB "str" "list" = some false := by decide +kernel
theorem kb_bt : kitB "bool" "tuple" = some false := by decide +kernel
theorem kb_bl : kitB "bool" "list" = some false := by decide +kernel
theorem perm_map_inv {α β : Type} {f : α → β} (g : β → α) (hg : ∀ a, g (f a) = a) {l : List α} {m : List β} (h : m.Perm (l.map f)) : ∃ l' : List α, m = l'.map f ∧ l'.Perm l := by
  refine ⟨m.map g, ?_, ?_⟩
  · rw [List.map_map]
    have e : ∀ x ∈ m, (f ∘ g) x = x := fun x hx => by
      obtain ⟨a, _, e⟩ := List.mem_map.mp (h.mem_iff.mp hx)
      show f (g x) = x
      rw [← e, hg]
    clear h
    induction m with
    | nil => rfl
    | cons x r ih => rw [List.map_cons, e x List.mem_cons_self, ← ih fun y hy => e y (List.mem_cons_of_mem _ hy)]
  · have h2 := h.map g
    rw [List.map_map] at h2
    have e : l.map (g ∘ f) = l := by
      have : (g ∘ f) = id := by funext a; exact hg a
      rw [this, List.map_id]
    rw [e] at h2
    exact h2
/-- the pairs (latest end, number) -/
def endP (cs : List Cd) (n : Nat) : Int × Int := (endC (at' cs n), (n : Int))
theorem read_by_latest_end : ∀ xs Q, sp_by_latest_end xs Q → w_by_latest_end { nx := fun _ => Q .non, rt := fun y _ => Q y } (startE N_by_latest_end [] xs) := by
  rintro xs Q ⟨cs, ns, d, rfl, hd, N, q⟩
  have h12 := small (n := 26) (by decide)
  have hg := N.len
  have main : ∀ d, wMake (wName 3) wYes (wTup (wCons (wCallS sp_latest_end (wCons (wOp kIx (w2v 0 (wVarB 3))) wNil)) (wCons (wVar 3) wNil))) [3] (fun zs ρ' => (wRet (fun ρ Q => (wLc (wSeqI (fun ρ Q => (wUnF kSortP (wVarB 2)) ρ fun xs ρ' => Q (.lst xs) ρ')) (wgTup 2 (wgCons (wName 4) (wgCons (wName 3) wgNil))) wYes (wVar 3) [4, 3]) ρ fun xs ρ' => Q (.lst xs) ρ')) { nx := fun _ => Q .non, rt := fun y _ => Q y } (ρ'.set 2 (.d (.lst zs)))) (ns.map nD) [] [.d (csD cs), .d d, .un, .un, .un] := by
    intro d
    refine make_map (enc := nD) (fun _ => true) (fun n => AL.pairD (endP cs n)) ns [] ?_ (by simp; omega) ?_
    · intro n hn C N' h1 h2
      refine ⟨cD (at' cs n), at_csD (N.lt n hn), ?_⟩
      refine ⟨at' cs n, rfl, trivial, ?_⟩
      exact ⟨small (n := 2) (by decide), h1 rfl _ rfl⟩
    · rw [List.nil_append, filter_true]
      refine ⟨ns.map (endP cs), by rw [List.map_map]; rfl, fun qs hp hs => ?_⟩
      obtain ⟨ms, rfl, hns⟩ := perm_map_inv (fun p : Int × Int => p.2.toNat) (fun a => Int.toNat_natCast a) hp
      have hlen : ms.length ≤ 13 := by rw [hns.length_eq]; exact hg
      show wMake _ _ _ _ _ ((ms.map (endP cs)).map AL.pairD) [] _
      rw [List.map_map]
      refine make_map (enc := fun n => AL.pairD (endP cs n)) (fun _ => true) nD ms [] ?_ (by simp; omega) ?_
      · intro n hn C N' h1 h2
        refine ⟨rfl, ?_⟩
        exact h1 rfl _ rfl
      · rw [List.nil_append, filter_true]
        exact q ms hns (List.pairwise_map.mp hs)
  rcases hd with rfl | rfl
  · exact main _
  · exact main _
theorem turn_len (cs : List Cd) : ∀ (ns : List Nat) (s : Int × List (Int × Int)), (ns.foldl (turn1 cs) s).2.length ≤ s.2.length + ns.length
  | [], s => Nat.le_refl _
  | n :: r, s => by
    have ih := turn_len cs r (turn1 cs s n)
    have h1 : (turn1 cs s n).2.length ≤ s.2.length + 1 := by
      unfold turn1
      simp only
      generalize (if (at' cs n).2.1 < s.1 then (at' cs n).2.1 else s.1) = t
      split
      · show (s.2 ++ [_]).length ≤ _
        rw [List.length_append]; exact Nat.le_refl _
      · exact Nat.le_succ _
    rw [List.foldl_cons, List.length_cons]
    omega
theorem read_lit_in_turn : ∀ xs Q, sp_lit_in_turn xs Q → w_lit_in_turn { nx := fun _ => Q .non, rt := fun y _ => Q y } (startE N_lit_in_turn [] xs) := by
  rintro xs Q ⟨cs, ns, d, T, rfl, hd, N, q⟩
  have h12 := small (n := 26) (by decide)
  have hl := N.len
  have main : ∀ d, wLoop (wName 4) (wSeq (wAsg (wOp kIx (w2v 0 (wVarB 4))) (wgTup 3 (wgCons (wName 5) (wgCons (wName 6) (wgCons (wName 7) wgNil)))))
      (wSeq (wAsg (wCl kMin2 (wCons (wVar 2) (wCons (wVar 6) wNil))) (wName 8))
      (wIfS (wTest (wOp kGt (w2e (wOp kAdd (w2v 8 (wVarB 5))) (wVarB 2)))) (wSeq (wDrop (wApp 3 (wTup (wCons (wVar 8) (wCons (wVar 4) wNil)))))
      (wAsg (wOp kAdd (w2v 8 (wVarB 5))) (wName 2))) wNext)))
      { nx := fun ρ => (wRet (wTup (wCons (wVar 2) (wCons (wVar 3) wNil)))) { nx := fun _ => Q .non, rt := fun y _ => Q y } ρ, rt := fun y _ => Q y } (ns.map nD) [.d (csD cs), .d d, .d (.int T), .own false [], .un, .un, .un, .un, .un] := by
    intro d
    refine loop_inv (enc := nD) (I := fun pre ρ => ∃ a b c e f, ρ = [.d (csD cs), .d d, .d (.int (pre.foldl (turn1 cs) (T, [])).1), .own false ((pre.foldl (turn1 cs) (T, [])).2.map AL.pairD), a, b, c, e, f]) ?_ ?_ _ ⟨.un, .un, .un, .un, .un, rfl⟩
    · rintro pre n post e K hK ρ ⟨a, b, c, e', f, rfl⟩
      have hm : n ∈ ns := by rw [e]; exact List.mem_append_right _ List.mem_cons_self
      have hp : pre.length < ns.length := by rw [e, List.length_append, List.length_cons]; omega
      have hb := turn_len cs pre (T, [])
      generalize hs : pre.foldl (turn1 cs) (T, []) = s at hK hb ⊢
      have hf : (pre ++ [n]).foldl (turn1 cs) (T, []) = turn1 cs s n := by rw [List.foldl_append, hs]; rfl
      refine ⟨cD (at' cs n), at_csD (N.lt n hm), ?_⟩
      refine ⟨rfl, ?_⟩
      generalize ht : (if (at' cs n).2.1 < s.1 then (at' cs n).2.1 else s.1) = t
      show if decide (s.1 < (if (at' cs n).2.1 < s.1 then (at' cs n).2.1 else s.1) + (at' cs n).1) = true then _ else _
      rw [ht]
      by_cases hd : s.1 < t + (at' cs n).1
      · rw [decide_eq_true hd]
        have hb1 : turn1 cs s n = (t + (at' cs n).1, s.2 ++ [(t, (n : Int))]) := by unfold turn1; simp only; rw [ht, if_pos hd]
        refine ⟨small (n := 2) (by decide), ?_⟩
        refine ⟨by rw [List.length_map]; exact Nat.lt_of_lt_of_le (show s.2.length < 14 by simp at hb; omega) (small (by decide)), ?_⟩
        refine hK _ ⟨.d (nD n), .d (.int (at' cs n).1), .d (.int (at' cs n).2.1), .d (.int (at' cs n).2.2), .d (.int t), ?_⟩
        rw [hf, hb1, List.map_append, ← ht]; rfl
      · rw [decide_eq_false hd]
        have hb1 : turn1 cs s n = s := by unfold turn1; simp only; rw [ht, if_neg hd]
        refine hK _ ⟨.d (nD n), .d (.int (at' cs n).1), .d (.int (at' cs n).2.1), .d (.int (at' cs n).2.2), .d (.int t), ?_⟩
        rw [hf, hb1, ← ht]; rfl
    · rintro ρ ⟨a, b, c, e', f, rfl⟩
      exact ⟨small (n := 2) (by decide), q⟩
  rcases hd with rfl | rfl
  · exact ⟨Nat.zero_le _, main _⟩
  · exact ⟨Nat.zero_le _, main _⟩
theorem read_all_numbers : ∀ xs Q, sp_all_numbers xs Q → w_all_numbers { nx := fun _ => Q .non, rt := fun y _ => Q y } (startE N_all_numbers [] xs) := by
  rintro xs Q ⟨cs, rfl, G, q⟩
  have hl := G.len
  have hlen : ((cs.map cD).length : Int) = (cs.length : Int) := by rw [List.length_map]
  refine ⟨⟨by omega, by show ((cs.map cD).length : Int) ≤ 1000; omega⟩, ?_⟩
  have e : intsD 0 ((cs.map cD).length : Int).toNat = (List.range cs.length).map nD := by
    rw [hlen, Int.toNat_natCast, intsD_map]; rfl
  show Q (.tup (intsD 0 ((cs.map cD).length : Int).toNat))
  rw [e]
  exact q
theorem read_planned : ∀ xs Q, sp_planned xs Q → w_planned { nx := fun _ => Q .non, rt := fun y _ => Q y } (startE N_planned [] xs) := by
  rintro xs Q ⟨cs, ns, d, rfl, hd, N, q⟩
  have h12 := small (n := 26) (by decide)
  have hl := N.len
  refine ⟨cs, ns, d, 0, rfl, hd, N, ?_⟩
  refine ⟨rfl, ?_⟩
  refine ⟨(turnL cs 0 ns).2, rfl, fun qs hp hs => ?_⟩
  have hlen : qs.length ≤ 13 := by
    rw [hp.length_eq]
    have := turn_len cs ns (0, [])
    unfold turnL
    simp at this
    omega
  show wMake _ _ _ _ _ (qs.map AL.pairD) [] _
  refine make_map (enc := AL.pairD) (fun _ => true) stepD qs [] ?_ (by simp; omega) ?_
  · rintro ⟨t, n⟩ hm C N h1 h2
    refine ⟨rfl, ?_⟩
    exact ⟨small (n := 2) (by decide), h1 rfl _ rfl⟩
  · rw [List.nil_append, filter_true]
    exact ⟨small (n := 2) (by decide), q qs hp hs⟩
theorem nums_all {cs : List Cd} (G : Gd cs) : Nums cs (List.range cs.length) := ⟨fun n h => List.mem_range.mp h, by rw [List.length_range]; exact G.len⟩
theorem nums_perm {cs : List Cd} {a b : List Nat} (N : Nums cs a) (p : b.Perm a) : Nums cs b := ⟨fun n h => N.lt n (p.mem_iff.mp h), by rw [p.length_eq]; exact N.len⟩
theorem nums_lot {cs : List Cd} (G : Gd cs) {lot : List Nat} (h : isLot cs.length lot) : Nums cs lot := ⟨h.2, Nat.le_trans h.len G.len⟩
theorem read_longest : ∀ xs Q, sp_longest xs Q → w_longest { nx := fun _ => Q .non, rt := fun y _ => Q y } (startE N_longest [] xs) := by
  rintro xs Q ⟨cs, rfl, G, q⟩
  have N := nums_all G.gd
  refine ⟨cs, rfl, G, ?_⟩
  refine ⟨cs, rfl, G.gd, ?_⟩
  refine ⟨cs, List.range cs.length, lotD (List.range cs.length), rfl, .inr rfl, N, fun ns hp hr => ?_⟩
  exact ⟨cs, ns, _, rfl, .inl rfl, nums_perm N hp, fun qs h1 h2 => q _ qs ⟨ns, ⟨hp, hr⟩, rfl, h1, h2⟩⟩
theorem read_check_few : ∀ xs Q, sp_check_few xs Q → w_check_few { nx := fun _ => Q .non, rt := fun y _ => Q y } (startE N_check_few [] xs) := by
  rintro xs Q ⟨cs, rfl, h, q⟩
  show if decide ((8 : Int) < (((cs.map cD).length : Nat) : Int)) = true then _ else _
  rw [List.length_map, decide_eq_false (show ¬ (8 : Int) < (cs.length : Int) by omega)]
  exact q
end FW
set_option Elab.async false
set_option linter.all false
set_option maxRecDepth 100000
set_option maxHeartbeats 2000000
namespace FW
open PySem PySem.Spec PyProof.Rows L2 AL
theorem at_goodG {cs : List Cd} (G : Gd cs) {n : Nat} (h : n < cs.length) : good (at' cs n) := G.all _ (at_mem h)
/-! ### the mathematics of turns -/
theorem turn1_eq (cs : List Cd) (s : Int × List (Int × Int)) (n : Nat) : ∃ t, (t = if (at' cs n).2.1 < s.1 then (at' cs n).2.1 else s.1) ∧ ((s.1 < t + (at' cs n).1 ∧ turn1 cs s n = (t + (at' cs n).1, s.2 ++ [(t, (n : Int))])) ∨ (¬ s.1 < t + (at' cs n).1 ∧ turn1 cs s n = s)) := by
  refine ⟨_, rfl, ?_⟩
  unfold turn1
  simp only
  generalize (if (at' cs n).2.1 < s.1 then (at' cs n).2.1 else s.1) = t
  by_cases h : s.1 < t + (at' cs n).1
  · exact .inl ⟨h, by rw [if_pos h]⟩
  · exact .inr ⟨h, by rw [if_neg h]⟩
/-- the lengths of those that end later -/
def later (cs : List Cd) (e : Int) (ns : List Nat) : Int := lens cs (ns.filter fun n => decide (e < endC (at' cs n)))
theorem later_app (cs : List Cd) (e : Int) (a b : List Nat) : later cs e (a ++ b) = later cs e a + later cs e b := by
  unfold later lens
  rw [List.filter_append, List.map_append, List.sum_append]
theorem later_one (cs : List Cd) (e : Int) (n : Nat) : later cs e [n] = if e < endC (at' cs n) then (at' cs n).1 else 0 := by
  unfold later lens
  by_cases h : e < endC (at' cs n)
  · rw [if_pos h, List.filter_cons_of_pos (by simp [h])]; simp
  · rw [if_neg h, List.filter_cons_of_neg (by simp [h])]; rfl
/-- no turn passes a bound -/
theorem turn_le {cs : List Cd} (G : Gd cs) {e : Int} (he : 0 ≤ e) : ∀ (r : List Nat) (B : Int) (s : Int × List (Int × Int)), (∀ n ∈ r, n < cs.length) → 0 ≤ B → s.1 ≤ e + B → (r.foldl (turn1 cs) s).1 ≤ e + B + later cs e r
  | [], B, s, _, _, h => by show s.1 ≤ e + B + later cs e []; unfold later lens; simp; exact h
  | n :: r, B, s, hn, hB, h => by
    have g := at_goodG G (hn n List.mem_cons_self)
    have g1 := g.1.1
    obtain ⟨t, ht, hc⟩ := turn1_eq cs s n
    have e1 : later cs e (n :: r) = later cs e [n] + later cs e r := later_app cs e [n] r
    rw [List.foldl_cons, e1, later_one]
    have hend : endC (at' cs n) = (at' cs n).2.1 + (at' cs n).1 := rfl
    have ht2 : t ≤ s.1 ∧ t ≤ (at' cs n).2.1 := by rw [ht]; split <;> omega
    by_cases hd : e < endC (at' cs n)
    · rw [if_pos hd]
      have ih := turn_le G he r (B + (at' cs n).1) (turn1 cs s n) (fun m hm => hn m (List.mem_cons_of_mem _ hm)) (by omega) (by
        rcases hc with ⟨_, hc⟩ | ⟨_, hc⟩
        · rw [hc]; show t + (at' cs n).1 ≤ _; omega
        · rw [hc]; omega)
      omega
    · rw [if_neg hd]
      have ih := turn_le G he r B (turn1 cs s n) (fun m hm => hn m (List.mem_cons_of_mem _ hm)) hB (by
        rcases hc with ⟨_, hc⟩ | ⟨_, hc⟩
        · rw [hc]; show t + (at' cs n).1 ≤ _; omega
        · rw [hc]; exact h)
      omega
theorem turn_ge {cs : List Cd} (G : Gd cs) : ∀ (r pre : List Nat), (∀ n ∈ pre ++ r, n < cs.length) → (pre ++ r).Pairwise (fun i j => endC (at' cs i) ≤ endC (at' cs j)) →
    (∃ e, (e = 0 ∨ ∃ n ∈ pre, e = endC (at' cs n)) ∧ (pre.foldl (turn1 cs) (0, [])).1 = e + later cs e pre) →
    ∃ e, (e = 0 ∨ ∃ n ∈ pre ++ r, e = endC (at' cs n)) ∧ ((pre ++ r).foldl (turn1 cs) (0, [])).1 = e + later cs e (pre ++ r)
  | [], pre, _, _, h => by rw [List.append_nil]; exact h
  | n :: r, pre, hn, hp, ⟨e, he, hT⟩ => by
    have hnl : n < cs.length := hn n (List.mem_append_right _ List.mem_cons_self)
    have g := at_goodG G hnl
    have g1 := g.1.1
    have g2 := g.2.1.1
    have hend : endC (at' cs n) = (at' cs n).2.1 + (at' cs n).1 := rfl
    have hle : ∀ j ∈ pre, endC (at' cs j) ≤ endC (at' cs n) := fun j hj => (List.pairwise_append.mp hp).2.2 j hj n List.mem_cons_self
    have hz : later cs (endC (at' cs n)) pre = 0 := by
      unfold later
      have : pre.filter (fun k => decide (endC (at' cs n) < endC (at' cs k))) = [] := by
        rw [List.filter_eq_nil_iff]
        intro k hk
        have := hle k hk
        simp; omega
      rw [this]; rfl
    have hTE : (pre.foldl (turn1 cs) (0, [])).1 ≤ endC (at' cs n) := by
      have := turn_le G (e := endC (at' cs n)) (by omega) pre 0 (0, []) (fun m hm => hn m (List.mem_append_left _ hm)) (by omega) (by show (0 : Int) ≤ _; omega)
      omega
    have e2 : pre ++ n :: r = (pre ++ [n]) ++ r := by rw [List.append_assoc]; rfl
    rw [e2]
    refine turn_ge G r (pre ++ [n]) (by rw [← e2]; exact hn) (by rw [← e2]; exact hp) ?_
    obtain ⟨t, ht, hc⟩ := turn1_eq cs (pre.foldl (turn1 cs) (0, [])) n
    rw [List.foldl_append]
    show ∃ e, _ ∧ (turn1 cs (pre.foldl (turn1 cs) (0, [])) n).1 = _
    generalize pre.foldl (turn1 cs) (0, []) = s at *
    by_cases hd : s.1 ≤ (at' cs n).2.1
    · have ht2 : t = s.1 := by rw [ht, if_neg (by omega)]
      rcases hc with ⟨h1, hc⟩ | ⟨h1, _⟩
      · have hlt : e < endC (at' cs n) := by
          have h3 : e ≤ endC (at' cs n) := by
            rcases he with rfl | ⟨j, hj, rfl⟩
            · omega
            · exact hle j hj
          by_cases h4 : e = endC (at' cs n)
          · rw [h4, hz] at hT; omega
          · omega
        refine ⟨e, ?_, ?_⟩
        · rcases he with h | ⟨j, hj, h⟩
          · exact .inl h
          · exact .inr ⟨j, List.mem_append_left _ hj, h⟩
        · rw [hc, later_app, later_one, if_pos hlt]
          show t + _ = _
          omega
      · omega
    · have ht2 : t = (at' cs n).2.1 := by rw [ht, if_pos (by omega)]
      refine ⟨endC (at' cs n), .inr ⟨n, List.mem_append_right _ List.mem_cons_self, rfl⟩, ?_⟩
      rw [later_app, later_one, if_neg (by omega), hz]
      rcases hc with ⟨h1, hc⟩ | ⟨h1, hc⟩
      · rw [hc]; show t + _ = _; omega
      · rw [hc]; omega
theorem cs_eq (cs : List Cd) : (List.range cs.length).map (at' cs) = cs := by
  apply List.ext_getElem?
  intro i
  rw [List.getElem?_map]
  by_cases h : i < cs.length
  · rw [List.getElem?_range h, at_get h]; rfl
  · rw [List.getElem?_eq_none_iff.mpr (Nat.le_of_not_lt h), List.getElem?_eq_none_iff.mpr (by rw [List.length_range]; omega)]; rfl
theorem perm_sum : ∀ {a b : List Int}, a.Perm b → a.sum = b.sum := fun h => by
  induction h with
  | nil => rfl
  | cons x _ ih => rw [List.sum_cons, List.sum_cons, ih]
  | swap x y l => simp only [List.sum_cons]; omega
  | trans _ _ h1 h2 => exact h1.trans h2
theorem later_all {cs : List Cd} {ns : List Nat} (h : ns.Perm (List.range cs.length)) (e : Int) : e + later cs e ns = bndE cs e := by
  unfold later lens bndE
  have h1 : ((ns.filter fun n => decide (e < endC (at' cs n))).map fun n => (at' cs n).1).sum = (((List.range cs.length).filter fun n => decide (e < endC (at' cs n))).map fun n => (at' cs n).1).sum := perm_sum ((h.filter _).map _)
  rw [h1]
  have h2 : (cs.filter fun c => decide (e < endC c)).map (·.1) = ((List.range cs.length).filter fun n => decide (e < endC (at' cs n))).map fun n => (at' cs n).1 := by
    have h3 : cs.filter (fun c => decide (e < endC c)) = (((List.range cs.length).map (at' cs)).filter fun c => decide (e < endC c)) := by rw [cs_eq]
    rw [h3, List.filter_map, List.map_map]
    rfl
  rw [h2]

/-! ### the best of candles -/
def oneE (e : Int) (c : Cd) : Int := if e < endC c then c.1 else 0
def sumE (cs : List Cd) (e : Int) : Int := (cs.map (oneE e)).sum
theorem bndE_eq (cs : List Cd) (e : Int) : bndE cs e = e + sumE cs e := by
  unfold bndE sumE
  congr 1
  induction cs with
  | nil => rfl
  | cons c r ih =>
    rw [List.map_cons, List.sum_cons]
    unfold oneE
    by_cases h : e < endC c
    · rw [List.filter_cons_of_pos (by simp [h]), if_pos h, List.map_cons, List.sum_cons, ih]; rfl
    · rw [List.filter_cons_of_neg (by simp [h]), if_neg h, ih]; unfold oneE; omega
theorem sumE_app (a b : List Cd) (e : Int) : sumE (a ++ b) e = sumE a e + sumE b e := by unfold sumE; rw [List.map_append, List.sum_append]
theorem sumE_one (c : Cd) (e : Int) : sumE [c] e = oneE e c := by unfold sumE; simp
theorem sumE_cons (c : Cd) (r : List Cd) (e : Int) : sumE (c :: r) e = oneE e c + sumE r e := by unfold sumE; simp
theorem sumE_perm {a b : List Cd} (h : a.Perm b) (e : Int) : sumE a e = sumE b e := perm_sum (h.map _)
theorem oneE_nn {c : Cd} (g : good c) (e : Int) : 0 ≤ oneE e c ∧ oneE e c ≤ c.1 := by
  have := g.1.1
  unfold oneE
  split <;> constructor <;> omega
abbrev Alls (cs : List Cd) : Prop := ∀ c ∈ cs, good c
theorem sumE_nn : ∀ {cs : List Cd}, Alls cs → ∀ e, 0 ≤ sumE cs e ∧ sumE cs e ≤ 99 * cs.length
  | [], _, e => by unfold sumE; simp
  | c :: r, h, e => by
    have ih := sumE_nn (cs := r) (fun x hx => h x (List.mem_cons_of_mem _ hx)) e
    have g := h c List.mem_cons_self
    have := oneE_nn g e
    have := g.1.2
    rw [sumE_cons, List.length_cons]
    constructor <;> omega
theorem min_foldl : ∀ (l : List Int) (a : Int), (l.foldl (fun a b => if b < a then b else a) a ≤ a ∧ ∀ x ∈ l, l.foldl (fun a b => if b < a then b else a) a ≤ x) ∧ (l.foldl (fun a b => if b < a then b else a) a ∈ a :: l)
  | [], a => ⟨⟨Int.le_refl _, fun _ h => nomatch h⟩, List.mem_cons_self⟩
  | b :: l, a => by
    obtain ⟨⟨h1, h2⟩, h3⟩ := min_foldl l (if b < a then b else a)
    rw [List.foldl_cons]
    generalize l.foldl (fun a b => if b < a then b else a) (if b < a then b else a) = m at *
    refine ⟨⟨?_, fun x hx => ?_⟩, ?_⟩
    · split at h1 <;> omega
    · rcases List.mem_cons.mp hx with rfl | hx
      · split at h1 <;> omega
      · exact h2 x hx
    · rcases List.mem_cons.mp h3 with h3 | h3
      · by_cases z : b < a
        · rw [if_pos z] at h3; rw [h3]; exact List.mem_cons_of_mem _ List.mem_cons_self
        · rw [if_neg z] at h3; rw [h3]; exact List.mem_cons_self
      · exact List.mem_cons_of_mem _ (List.mem_cons_of_mem _ h3)
theorem best_is (cs : List Cd) : isBest cs (best cs) := by
  unfold best
  obtain ⟨⟨h1, h2⟩, h3⟩ := min_foldl (cs.map fun c => bndE cs (endC c)) (bndE cs 0)
  refine ⟨fun e he => ?_, ?_⟩
  · rcases List.mem_cons.mp he with rfl | he
    · exact h1
    · obtain ⟨c, hc, rfl⟩ := List.mem_map.mp he
      exact h2 _ (List.mem_map.mpr ⟨c, hc, rfl⟩)
  · rcases List.mem_cons.mp h3 with h | h
    · exact ⟨0, List.mem_cons_self, h⟩
    · obtain ⟨c, hc, e⟩ := List.mem_map.mp h
      exact ⟨endC c, List.mem_cons_of_mem _ (List.mem_map.mpr ⟨c, hc, rfl⟩), e.symm⟩
theorem best_uniq {cs : List Cd} {a b : Int} (h1 : isBest cs a) (h2 : isBest cs b) : a = b := by
  obtain ⟨e1, m1, q1⟩ := h1.2
  obtain ⟨e2, m2, q2⟩ := h2.2
  have := h1.1 e2 m2
  have := h2.1 e1 m1
  omega
theorem max_of {α : Type} (f : α → Int) : ∀ (l : List α), l ≠ [] → ∃ m ∈ l, ∀ x ∈ l, f x ≤ f m
  | [], h => absurd rfl h
  | [a], _ => ⟨a, List.mem_cons_self, fun x hx => by rw [List.mem_singleton.mp hx]; exact Int.le_refl _⟩
  | a :: b :: r, _ => by
    obtain ⟨m, hm, h⟩ := max_of f (b :: r) (by simp)
    by_cases z : f a ≤ f m
    · exact ⟨m, List.mem_cons_of_mem _ hm, fun x hx => (List.mem_cons.mp hx).elim (fun e => by rw [e]; exact z) (h x)⟩
    · exact ⟨a, List.mem_cons_self, fun x hx => (List.mem_cons.mp hx).elim (fun e => by rw [e]; exact Int.le_refl _) (fun hx => by have := h x hx; omega)⟩
theorem end_pos {c : Cd} (g : good c) : 0 < endC c := by
  have := g.1.1
  have := g.2.1.1
  show 0 < c.2.1 + c.1
  omega
theorem bnd_down {cs : List Cd} (G : Alls cs) {e : Int} (he : 0 ≤ e) : ∃ e' ∈ (0 : Int) :: cs.map endC, bndE cs e' ≤ bndE cs e := by
  by_cases h : cs.filter (fun c => decide (endC c ≤ e)) = []
  · refine ⟨0, List.mem_cons_self, ?_⟩
    have e1 : ∀ c ∈ cs, oneE 0 c = oneE e c := fun c hc => by
      have h1 := List.filter_eq_nil_iff.mp h c hc
      have := end_pos (G c hc)
      unfold oneE
      rw [if_pos this, if_pos (by simp at h1; exact h1)]
    rw [bndE_eq, bndE_eq]
    unfold sumE
    rw [List.map_congr_left e1]
    omega
  · obtain ⟨m, hm, hx⟩ := max_of endC _ h
    have hm := List.mem_filter.mp hm
    have hme : endC m ≤ e := by simpa using hm.2
    refine ⟨endC m, List.mem_cons_of_mem _ (List.mem_map.mpr ⟨m, hm.1, rfl⟩), ?_⟩
    have e1 : ∀ c ∈ cs, oneE (endC m) c = oneE e c := fun c hc => by
      unfold oneE
      by_cases z : e < endC c
      · rw [if_pos z, if_pos (by omega)]
      · have := hx c (List.mem_filter.mpr ⟨hc, by simp; omega⟩)
        rw [if_neg z, if_neg (by omega)]
    rw [bndE_eq, bndE_eq]
    unfold sumE
    rw [List.map_congr_left e1]
    omega
theorem le_best {cs : List Cd} (G : Alls cs) {t : Int} : t ≤ best cs ↔ ∀ e, 0 ≤ e → t ≤ bndE cs e := by
  obtain ⟨h1, e, he, h2⟩ := best_is cs
  constructor
  · intro h e he
    obtain ⟨e', m, hl⟩ := bnd_down G he
    have := h1 e' m
    omega
  · intro h
    rw [h2]
    refine h e ?_
    rcases List.mem_cons.mp he with rfl | he
    · exact Int.le_refl _
    · obtain ⟨c, hc, rfl⟩ := List.mem_map.mp he
      exact Int.le_of_lt (end_pos (G c hc))
theorem best_at {cs : List Cd} (G : Alls cs) : ∃ e, 0 ≤ e ∧ best cs = bndE cs e := by
  obtain ⟨_, e, he, h2⟩ := best_is cs
  refine ⟨e, ?_, h2⟩
  rcases List.mem_cons.mp he with rfl | he
  · exact Int.le_refl _
  · obtain ⟨c, hc, rfl⟩ := List.mem_map.mp he
    exact Int.le_of_lt (end_pos (G c hc))
theorem best_nn {cs : List Cd} (G : Alls cs) : 0 ≤ best cs := (le_best G).mpr fun e he => by
  rw [bndE_eq]
  have := (sumE_nn G e).1
  omega
theorem best_le {cs : List Cd} (G : Alls cs) {e : Int} (he : 0 ≤ e) : best cs ≤ bndE cs e := (le_best G).mp (Int.le_refl _) e he
theorem best_hi {cs : List Cd} (G : Alls cs) : best cs ≤ 99 * cs.length := by
  have := best_le G (Int.le_refl 0)
  rw [bndE_eq] at this
  have := (sumE_nn G 0).2
  omega
theorem best_mono {a b : List Cd} (Ga : Alls a) (Gb : Alls b) {k : Int} (h : ∀ e, 0 ≤ e → ∃ e', 0 ≤ e' ∧ bndE a e' ≤ bndE b e + k) : best a ≤ best b + k := by
  obtain ⟨e, he, h2⟩ := best_at Gb
  obtain ⟨e', he', h3⟩ := h e he
  have := best_le Ga he'
  omega
theorem best_mono0 {a b : List Cd} (Ga : Alls a) (Gb : Alls b) (h : ∀ e, 0 ≤ e → sumE a e ≤ sumE b e) : best a ≤ best b := by
  have := best_mono (k := 0) Ga Gb fun e he => ⟨e, he, by rw [bndE_eq, bndE_eq]; have := h e he; omega⟩
  omega
theorem best_perm {a b : List Cd} (Ga : Alls a) (h : a.Perm b) : best a = best b := by
  have Gb : Alls b := fun c hc => Ga c (h.mem_iff.mpr hc)
  have h1 := best_mono0 Ga Gb fun e _ => Int.le_of_eq (sumE_perm h e)
  have h2 := best_mono0 Gb Ga fun e _ => Int.le_of_eq (sumE_perm h.symm e)
  omega
theorem best_nil : best [] = 0 := by unfold best; rfl
theorem pick_all (cs : List Cd) : pick cs (List.range cs.length) = cs := cs_eq cs
theorem alls_pick {cs : List Cd} (G : Alls cs) {ns : List Nat} (h : ∀ n ∈ ns, n < cs.length) : Alls (pick cs ns) := fun c hc => by
  obtain ⟨n, hn, rfl⟩ := List.mem_map.mp hc
  exact G _ (at_mem (h n hn))
theorem later_pick (cs : List Cd) (e : Int) : ∀ ns : List Nat, later cs e ns = sumE (pick cs ns) e
  | [] => rfl
  | n :: r => by
    have h := later_app cs e [n] r
    rw [List.singleton_append] at h
    rw [h, later_one, later_pick cs e r]
    show _ = sumE (at' cs n :: pick cs r) e
    rw [sumE_cons]; rfl
theorem turn_le_best {cs : List Cd} (G : Gd cs) {ns : List Nat} (hn : ∀ n ∈ ns, n < cs.length) : (turnM cs ns).1 ≤ best (pick cs ns) := by
  refine (le_best (alls_pick G.all hn)).mpr fun e he => ?_
  have := turn_le G he ns 0 (0, []) hn (by omega) (by show (0 : Int) ≤ _; omega)
  rw [bndE_eq, ← later_pick]
  unfold turnM
  omega
theorem rising_le {cs : List Cd} {ns : List Nat} (h : risingE cs ns) : ns.Pairwise fun i j => endC (at' cs i) ≤ endC (at' cs j) :=
  h.imp fun {i j} q => by
    rcases q with q | q
    · exact Int.le_of_lt q
    · exact Int.le_of_eq q.1
theorem turn_best {cs : List Cd} (G : Gd cs) {ns : List Nat} (hn : ∀ n ∈ ns, n < cs.length) (h : ns.Pairwise fun i j => endC (at' cs i) ≤ endC (at' cs j)) : (turnM cs ns).1 = best (pick cs ns) := by
  have h1 := turn_le_best G hn
  obtain ⟨e, he, hT⟩ := turn_ge G ns [] (by simpa using hn) (by simpa using h) ⟨0, .inl rfl, rfl⟩
  rw [List.nil_append] at he hT
  have h0 : 0 ≤ e := by
    rcases he with rfl | ⟨n, hm, rfl⟩
    · exact Int.le_refl _
    · exact Int.le_of_lt (end_pos (at_goodG G (hn n hm)))
  have h2 := best_le (alls_pick G.all hn) h0
  rw [bndE_eq, ← later_pick] at h2
  unfold turnM at h1 ⊢
  omega
theorem pick_perm {cs : List Cd} {a b : List Nat} (h : a.Perm b) : (pick cs a).Perm (pick cs b) := h.map _
theorem turn_best_perm {cs : List Cd} (G : Gd cs) {ms ns : List Nat} (hn : ∀ n ∈ ns, n < cs.length) (p : ms.Perm ns) (h : risingE cs ms) : (turnM cs ms).1 = best (pick cs ns) := by
  have hm : ∀ n ∈ ms, n < cs.length := fun n h => hn n (p.mem_iff.mp h)
  rw [turn_best G hm (rising_le h), best_perm (alls_pick G.all hm) (pick_perm p)]
theorem longestR_best {cs : List Cd} (G : Goods cs) {t : Int} {qs : List (Int × Int)} (h : LongestR cs t qs) : t = best cs := by
  obtain ⟨ns, hr, rfl, _, _⟩ := h
  have e := turn_best_perm G.gd (fun n hn => List.mem_range.mp hn) hr.1 hr.2
  rw [pick_all] at e
  exact e
/-! ### candles told otherwise -/
theorem csd_app (cs : List Cd) (c : Cd) : D.tup (cs.map cD ++ [cD c]) = csD (cs ++ [c]) := by unfold csD; rw [List.map_append]; rfl
theorem alls_app {a b : List Cd} (Ga : Alls a) (Gb : Alls b) : Alls (a ++ b) := fun c hc => (List.mem_append.mp hc).elim (Ga c) (Gb c)
theorem alls_one {c : Cd} (g : good c) : Alls [c] := fun x hx => by rw [List.mem_singleton.mp hx]; exact g
theorem oneE_mono {c c' : Cd} (g : good c') (h1 : c.1 ≤ c'.1) (h2 : c.2.1 ≤ c'.2.1) (e : Int) : oneE e c ≤ oneE e c' := by
  have := g.1.1
  have a1 : endC c = c.2.1 + c.1 := rfl
  have a2 : endC c' = c'.2.1 + c'.1 := rfl
  unfold oneE
  split <;> split <;> omega
theorem best_app_mono {cs : List Cd} (G : Alls cs) {c c' : Cd} (g : good c) (g' : good c') (h1 : c.1 ≤ c'.1) (h2 : c.2.1 ≤ c'.2.1) : best (cs ++ [c]) ≤ best (cs ++ [c']) :=
  best_mono0 (alls_app G (alls_one g)) (alls_app G (alls_one g')) fun e _ => by
    rw [sumE_app, sumE_app, sumE_one, sumE_one]
    have := oneE_mono g' h1 h2 e
    omega
theorem best_app_ge {cs : List Cd} (G : Alls cs) {c : Cd} (g : good c) : best cs ≤ best (cs ++ [c]) ∧ best (cs ++ [c]) ≤ best cs + c.1 := by
  have G2 := alls_app G (alls_one g)
  refine ⟨best_mono0 G G2 fun e _ => ?_, best_mono G2 G fun e he => ⟨e, he, ?_⟩⟩
  · rw [sumE_app, sumE_one]
    have := oneE_nn g e
    omega
  · rw [bndE_eq, bndE_eq, sumE_app, sumE_one]
    have := oneE_nn g e
    omega
theorem eqD_int (a b : Int) : eqD (.int a) (.int b) = decide (a = b) := by
  by_cases h : a = b
  · subst h; rw [eqv_self (okD_int a), decide_eq_true rfl]
  · rw [decide_eq_false h]
    show (a == b) = false
    simp [h]
theorem eqD_bl (a b : Bool) : eqD (.bl a) (.bl b) = (a == b) := by cases a <;> cases b <;> rfl
theorem good1 {m d : Int} (h1 : 1 ≤ m) (h2 : m ≤ 99) (h3 : 0 ≤ d) (h4 : d ≤ 999) : good (m, d, 1) := ⟨⟨h1, h2⟩, ⟨h3, h4⟩, ⟨Int.le_refl _, by show (1 : Int) ≤ 99; decide⟩⟩
/-- max(0, a), min(b, a) as they are told -/
def mx (a : Int) : Int := if a > 0 then a else 0
def mn (b a : Int) : Int := if a < b then a else b
def wo (l : List Nat) (n : Nat) : List Nat := l.filter fun k => !decide (k = n)
theorem wo_perm {n : Nat} : ∀ {l : List Nat}, l.Nodup → n ∈ l → (n :: wo l n).Perm l
  | [], _, h => by cases h
  | a :: l, hd, h => by
    have hd' := List.nodup_cons.mp hd
    by_cases e : a = n
    · subst e
      have : wo (a :: l) a = l := by
        unfold wo
        rw [List.filter_cons_of_neg (by simp), List.filter_eq_self.mpr fun k hk => ?_]
        have : k ≠ a := fun z => hd'.1 (by rw [← z]; exact hk)
        simp [this]
      rw [this]
    · have e2 : wo (a :: l) n = a :: wo l n := by
        unfold wo
        rw [List.filter_cons_of_pos (by simp [e])]
      rw [e2]
      rcases List.mem_cons.mp h with z | z
      · exact absurd z.symm e
      · exact (List.Perm.swap a n _).trans ((wo_perm hd'.2 z).cons a)
theorem later_perm {cs : List Cd} {e : Int} {a b : List Nat} (h : a.Perm b) : later cs e a = later cs e b := by
  unfold later lens
  exact perm_sum ((h.filter _).map _)
theorem later_nn {cs : List Cd} (G : Gd cs) {e : Int} : ∀ {l : List Nat}, (∀ n ∈ l, n < cs.length) → 0 ≤ later cs e l
  | [], _ => Int.le_refl _
  | a :: l, h => by
    have := later_app cs e [a] l
    rw [List.singleton_append] at this
    rw [this, later_one]
    have h1 := later_nn G (e := e) fun n hn => h n (List.mem_cons_of_mem _ hn)
    have h2 := (at_goodG G (h a List.mem_cons_self)).1.1
    split <;> omega
theorem sub_le {cs : List Cd} (G : Gd cs) {e : Int} : ∀ {l m : List Nat}, l.Nodup → (∀ x ∈ l, x ∈ m) → m.Nodup → (∀ x ∈ m, x < cs.length) → later cs e l ≤ later cs e m := by
  intro l
  induction l with
  | nil => intro m _ _ _ hm; exact later_nn G hm
  | cons a l ih =>
    intro m hl hs hm hb
    have hl' := List.nodup_cons.mp hl
    have pm := wo_perm hm (hs a List.mem_cons_self)
    have q := ih (m := wo m a) hl'.2 (fun x hx => List.mem_filter.mpr ⟨hs x (List.mem_cons_of_mem _ hx), by
      have : x ≠ a := fun z => hl'.1 (by rw [← z]; exact hx)
      simp [this]⟩) ((List.nodup_cons.mp (pm.nodup_iff.mpr hm)).2) fun x hx => hb x (List.mem_filter.mp hx).1
    have a1 := later_app cs e [a] l
    have a2 := later_app cs e [a] (wo m a)
    rw [List.singleton_append] at a1 a2
    rw [← later_perm pm, a1, a2]
    omega
theorem pick_sub {cs : List Cd} (G : Gd cs) {l : List Nat} (nd : l.Nodup) (h : ∀ n ∈ l, n < cs.length) (e : Int) : sumE (pick cs l) e ≤ sumE cs e := by
  have := sub_le G (e := e) nd (fun x hx => List.mem_range.mpr (h x hx)) List.nodup_range fun x hx => List.mem_range.mp hx
  rw [later_pick, later_pick, pick_all] at this
  exact this
theorem isLot.nd {n : Nat} {l : List Nat} (h : isLot n l) : l.Nodup := h.1.imp fun {a b} h => Nat.ne_of_lt h
theorem best_pick_le {cs : List Cd} (G : Gd cs) {l : List Nat} (nd : l.Nodup) (h : ∀ n ∈ l, n < cs.length) : best (pick cs l) ≤ best cs := best_mono0 (alls_pick G.all h) G.all fun e _ => pick_sub G nd h e
theorem range_at {n k : Nat} {pre post : List Nat} (e : List.range n = pre ++ k :: post) : pre = List.range k ∧ k = pre.length ∧ k < n := by
  have h1 : (List.range n)[pre.length]? = some k := by rw [e, List.getElem?_append_right (Nat.le_refl _), Nat.sub_self]; rfl
  have hlt : pre.length < n := by
    have := congrArg List.length e
    rw [List.length_range, List.length_append, List.length_cons] at this
    omega
  rw [List.getElem?_range hlt] at h1
  have hk : pre.length = k := Option.some.inj h1
  have h2 := congrArg (List.take pre.length) e
  rw [List.take_left, List.take_range, Nat.min_eq_left (by omega)] at h2
  rw [← hk]
  exact ⟨h2.symm, rfl, hlt⟩
/-! ### one candle exchanged -/
theorem repl_sum {cs : List Cd} {n : Nat} (h : n < cs.length) (c : Cd) (e : Int) : sumE (repl cs n c) e = sumE cs e - oneE e (at' cs n) + oneE e c := by
  have e1 : cs = cs.take n ++ at' cs n :: cs.drop (n + 1) := by
    have e : cs.drop n = at' cs n :: cs.drop (n + 1) := by
      rw [List.drop_eq_getElem_cons h]
      have := at_get h
      rw [List.getElem?_eq_getElem h] at this
      rw [Option.some.inj this]
    rw [← e, List.take_append_drop]
  have e2 := congrArg (fun l => sumE l e) e1
  simp only [sumE_app, sumE_cons] at e2
  unfold repl
  rw [sumE_app, sumE_cons]
  omega
theorem repl_alls {cs : List Cd} (G : Alls cs) {n : Nat} {c : Cd} (g : good c) : Alls (repl cs n c) := fun x hx => by
  rcases List.mem_append.mp hx with z | z
  · exact G x (List.mem_of_mem_take z)
  · rcases List.mem_cons.mp z with rfl | z
    · exact g
    · exact G x (List.mem_of_mem_drop z)
theorem best_repl_mono {cs : List Cd} (G : Alls cs) {n : Nat} (h : n < cs.length) {c c' : Cd} (g : good c) (g' : good c') (h1 : c.1 ≤ c'.1) (h2 : c.2.1 ≤ c'.2.1) : best (repl cs n c) ≤ best (repl cs n c') :=
  best_mono0 (repl_alls G g) (repl_alls G g') fun e _ => by
    rw [repl_sum h, repl_sum h]
    have := oneE_mono g' h1 h2 e
    omega
theorem repl_same {cs : List Cd} (G : Alls cs) {n : Nat} (h : n < cs.length) {c : Cd} (g : good c) (h1 : c.1 = (at' cs n).1) (h2 : c.2.1 = (at' cs n).2.1) : best (repl cs n c) = best cs := by
  have e : ∀ e, sumE (repl cs n c) e = sumE cs e := fun e => by
    rw [repl_sum h]
    have a1 : endC c = c.2.1 + c.1 := rfl
    have a2 : endC (at' cs n) = (at' cs n).2.1 + (at' cs n).1 := rfl
    unfold oneE
    rw [a1, a2, h1, h2]
    omega
  have b1 := best_mono0 (repl_alls G g) G fun x _ => Int.le_of_eq (e x)
  have b2 := best_mono0 G (repl_alls (n := n) G g) fun x _ => Int.le_of_eq (e x).symm
  omega
theorem best_repl_ge {cs : List Cd} (G : Alls cs) {n : Nat} (h : n < cs.length) {c : Cd} (g : good c) (h1 : (at' cs n).1 ≤ c.1) (h2 : (at' cs n).2.1 ≤ c.2.1) : best cs ≤ best (repl cs n c) := best_mono0 G (repl_alls G g) fun e _ => by
  rw [repl_sum h]
  have := oneE_mono g h1 h2 e
  omega
theorem best_repl_le {cs : List Cd} (G : Alls cs) {n : Nat} (h : n < cs.length) {c : Cd} (g : good c) {k : Int} (hk : 0 ≤ k) (h1 : (at' cs n).1 ≤ c.1) (h2 : (at' cs n).2.1 ≤ c.2.1) (h3 : endC c ≤ endC (at' cs n) + k) (h4 : c.1 ≤ (at' cs n).1 + k) : best (repl cs n c) ≤ best cs + k :=
  best_mono (repl_alls G g) G fun e he => by
    by_cases z : e < endC (at' cs n)
    · refine ⟨e, he, ?_⟩
      rw [bndE_eq, bndE_eq, repl_sum h]
      have := oneE_nn g e
      have o : oneE e (at' cs n) = (at' cs n).1 := by unfold oneE; rw [if_pos z]
      omega
    · refine ⟨e + k, by omega, ?_⟩
      rw [bndE_eq, bndE_eq, repl_sum h]
      have o : oneE (e + k) c = 0 := by unfold oneE; rw [if_neg (by omega)]
      have o2 : oneE (e + k) (at' cs n) = 0 := by unfold oneE; rw [if_neg (by omega)]
      have dn : ∀ l : List Cd, Alls l → sumE l (e + k) ≤ sumE l e := fun l => by
        induction l with
        | nil => intro _; exact Int.le_refl _
        | cons a r ih =>
          intro hl
          have ih := ih fun x hx => hl x (List.mem_cons_of_mem _ hx)
          have g1 := (hl a List.mem_cons_self).1.1
          rw [sumE_cons, sumE_cons]
          have : oneE (e + k) a ≤ oneE e a := by unfold oneE; split <;> split <;> omega
          omega
      have := dn cs G
      omega
theorem sIx_nat (len d n : Nat) : HT.sIx len d (some (n : Int)) = min n len := by
  unfold HT.sIx
  simp only
  rw [if_neg (by omega), Int.toNat_natCast]
theorem sIx_none (len d : Nat) : HT.sIx len d none = d := rfl
theorem cut_take {xs : List D} {n : Nat} : AL.cutD xs none (some (n : Int)) = xs.take n := by
  unfold AL.cutD
  rw [sIx_none, sIx_nat, List.drop_zero, Nat.sub_zero]
  by_cases h : n ≤ xs.length
  · rw [Nat.min_eq_left h]
  · rw [Nat.min_eq_right (by omega), List.take_of_length_le (Nat.le_refl _), List.take_of_length_le (by omega)]
theorem cut_drop {xs : List D} {n : Nat} (h : n ≤ xs.length) : AL.cutD xs (some (n : Int)) none = xs.drop n := by
  unfold AL.cutD
  rw [sIx_nat, sIx_none, Nat.min_eq_left h, List.take_of_length_le (by rw [List.length_drop]; exact Nat.le_refl _)]
theorem cut_len (xs : List D) (a b : Option Int) : (AL.cutD xs a b).length ≤ xs.length := by
  unfold AL.cutD
  rw [List.length_take, List.length_drop]
  omega
theorem repl_csD {cs : List Cd} {n : Nat} (h : n < cs.length) (c : Cd) : D.tup (AL.cutD (cs.map cD) none (some (n : Int)) ++ [cD c] ++ AL.cutD (cs.map cD) (some ((n : Int) + 1)) none) = csD (repl cs n c) := by
  have e : ((n : Int) + 1) = ((n + 1 : Nat) : Int) := rfl
  rw [e, cut_take, cut_drop (by rw [List.length_map]; omega)]
  unfold csD repl
  rw [List.map_append, List.map_cons, List.map_take, List.map_drop, List.append_assoc]; rfl
theorem repl_len {cs : List Cd} {n : Nat} (h : n < cs.length) (c : Cd) : (repl cs n c).length = cs.length := by unfold repl; rw [List.length_append, List.length_cons, List.length_take, List.length_drop]; omega
theorem sum_lens {cs : List Cd} (G : Alls cs) : best cs ≤ (cs.map fun c => c.1).sum := by
  have h := best_le G (Int.le_refl 0)
  have e : ∀ c ∈ cs, oneE 0 c = c.1 := fun c hc => by unfold oneE; rw [if_pos (end_pos (G c hc))]
  rw [bndE_eq] at h
  unfold sumE at h
  rw [List.map_congr_left e, Int.zero_add] at h
  exact h
theorem take_goods {cs : List Cd} (G : Goods cs) (n : Nat) : Goods (cs.take n) := ⟨by rw [List.length_take]; have := G.len; omega, fun c hc => G.all c (List.mem_of_mem_take hc)⟩
theorem nums_plain : ∀ l : List Nat, D.plains (l.map nD) = true
  | [] => rfl
  | _ :: l => by show (true && D.plains (l.map nD)) = true; rw [nums_plain l]; rfl
theorem nums_lay : ∀ l : List Nat, PyData.canLayAll0 (D.pys (l.map nD)) = true
  | [] => rfl
  | _ :: l => by show (true && PyData.canLayAll0 (D.pys (l.map nD))) = true; rw [nums_lay l]; rfl
theorem nums_depthP : ∀ l : List Nat, PyData.depthAll (D.pys (l.map nD)) = 0
  | [] => rfl
  | _ :: l => by show max 0 (PyData.depthAll (D.pys (l.map nD))) = 0; rw [nums_depthP l]; rfl
theorem okD_nums (ns : List Nat) : okD (.lst (ns.map nD)) = true ∧ okD (lotD ns) = true := by
  have h1 : D.plains (ns.map nD) = true := nums_plain ns
  have h2 : PyData.canLayAll0 (D.pys (ns.map nD)) = true := nums_lay ns
  have h3 : decide (PyData.depthAll (D.pys (ns.map nD)) + 1 ≤ 64) = true := decide_eq_true (by rw [nums_depthP]; decide)
  constructor
  · show (D.plains (ns.map nD) && (PyData.canLayAll0 (D.pys (ns.map nD)) && decide (PyData.depthAll (D.pys (ns.map nD)) + 1 ≤ 64))) = true
    rw [h1, h2, h3]; rfl
  · show (D.plains (ns.map nD) && (PyData.canLayAll0 (D.pys (ns.map nD)) && decide (PyData.depthAll (D.pys (ns.map nD)) + 1 ≤ 64))) = true
    rw [h1, h2, h3]; rfl
/-! ### without one -/
theorem minus_wo (l : List Nat) (n : Nat) : minus l [n] = wo l n := by
  unfold minus wo
  refine List.filter_congr fun k _ => ?_
  by_cases h : k = n <;> simp [h]
theorem minus_sum {cs : List Cd} {l : List Nat} (nd : l.Nodup) {n : Nat} (h : n ∈ l) (e : Int) : sumE (pick cs (minus l [n])) e = sumE (pick cs l) e - oneE e (at' cs n) := by
  have p := sumE_perm (pick_perm (cs := cs) (wo_perm nd h)) e
  rw [minus_wo]
  have q : sumE (pick cs (n :: wo l n)) e = oneE e (at' cs n) + sumE (pick cs (wo l n)) e := sumE_cons _ _ _
  omega
theorem split_at {cs : List Cd} {n : Nat} (h : n < cs.length) : cs = cs.take n ++ at' cs n :: cs.drop (n + 1) := by
  have e : cs.drop n = at' cs n :: cs.drop (n + 1) := by
    rw [List.drop_eq_getElem_cons h]
    have := at_get h
    rw [List.getElem?_eq_getElem h] at this
    rw [Option.some.inj this]
  rw [← e, List.take_append_drop]
/-- without the candle n -/
def cutOut (cs : List Cd) (n : Nat) : List Cd := cs.take n ++ cs.drop (n + 1)
theorem cutOut_alls {cs : List Cd} (G : Alls cs) (n : Nat) : Alls (cutOut cs n) := fun x hx => (List.mem_append.mp hx).elim (fun z => G x (List.mem_of_mem_take z)) fun z => G x (List.mem_of_mem_drop z)
theorem cutOut_len {cs : List Cd} {n : Nat} : (cutOut cs n).length ≤ cs.length := by unfold cutOut; rw [List.length_append, List.length_take, List.length_drop]; omega
theorem cutOut_sum {cs : List Cd} {n : Nat} (h : n < cs.length) (e : Int) : sumE (cutOut cs n) e = sumE cs e - oneE e (at' cs n) := by
  have e2 := congrArg (fun l => sumE l e) (split_at h)
  simp only [sumE_app, sumE_cons] at e2
  unfold cutOut
  rw [sumE_app]
  omega
theorem best_same {a b : List Cd} (Ga : Alls a) (Gb : Alls b) (h : ∀ e, sumE a e = sumE b e) : best a = best b := by
  have h1 := best_mono0 Ga Gb fun e _ => Int.le_of_eq (h e)
  have h2 := best_mono0 Gb Ga fun e _ => Int.le_of_eq (h e).symm
  omega
theorem cutOut_best {cs : List Cd} (G : Alls cs) {n : Nat} (h : n < cs.length) : best (cutOut cs n) = best (pick cs (minus (List.range cs.length) [n])) := by
  refine best_same (cutOut_alls G n) (alls_pick G fun k hk => List.mem_range.mp (List.mem_filter.mp hk).1) fun e => ?_
  rw [cutOut_sum h, minus_sum List.nodup_range (List.mem_range.mpr h), pick_all]
theorem cutOut_csD {cs : List Cd} {n : Nat} (h : n < cs.length) : D.tup (AL.cutD (cs.map cD) none (some (n : Int)) ++ AL.cutD (cs.map cD) (some ((n : Int) + 1)) none) = csD (cutOut cs n) := by
  have e : ((n : Int) + 1) = ((n + 1 : Nat) : Int) := rfl
  rw [e, cut_take, cut_drop (by rw [List.length_map]; omega)]
  unfold csD cutOut
  rw [List.map_append, List.map_take, List.map_drop]
theorem best_pos {cs : List Cd} (G : Alls cs) (h : cs ≠ []) : 1 ≤ best cs := (le_best G).mpr fun e he => by
  rw [bndE_eq]
  cases cs with
  | nil => exact absurd rfl h
  | cons c r =>
    have g := G c List.mem_cons_self
    have g1 := g.1.1
    have nn := (sumE_nn (cs := r) (fun x hx => G x (List.mem_cons_of_mem _ hx)) e).1
    rw [sumE_cons]
    have o := oneE_nn g e
    by_cases z : e = 0
    · have : oneE e c = c.1 := by unfold oneE; rw [z, if_pos (end_pos g)]
      omega
    · omega
theorem best_price {cs : List Cd} (G : Alls cs) {n : Nat} (h : n < cs.length) {a b p q : Int} (g : good (a, b, p)) (g' : good (a, b, q)) : best (repl cs n (a, b, p)) = best (repl cs n (a, b, q)) :=
  best_same (repl_alls G g) (repl_alls G g') fun e => by rw [repl_sum h, repl_sum h]; rfl
theorem minus_minus (l a : List Nat) (n : Nat) : minus (minus l a) [n] = minus l (a ++ [n]) := by
  unfold minus
  rw [List.filter_filter]
  refine List.filter_congr fun k _ => ?_
  by_cases h : k = n <;> by_cases h2 : k ∈ a <;> simp [h, h2]
theorem minus_nil (l : List Nat) : minus l [] = l := by
  unfold minus
  rw [List.filter_eq_self]
  intro k _; rfl
end FW
set_option Elab.async false
set_option linter.all false
set_option maxRecDepth 100000
set_option maxHeartbeats 2000000
namespace FW
open PySem PySem.Spec PyProof.Rows L2 AL
theorem read_longest_from : ∀ xs Q, sp_longest_from xs Q → w_longest_from { nx := fun _ => Q .non, rt := fun y _ => Q y } (startE N_longest_from [] xs) := by
  rintro xs Q ⟨cs, ns, d, rfl, hd, G, N, q⟩
  refine ⟨cs, ns, d, rfl, hd, N, fun ms hp hr => ?_⟩
  refine ⟨cs, ms, _, 0, rfl, .inl rfl, nums_perm N hp, ?_⟩
  refine ⟨.int (turnL cs 0 ms).1, rfl, ?_⟩
  show Q (.int (turnM cs ms).1)
  rw [turn_best_perm G N.lt hp hr]
  exact q
theorem read_longest_of : ∀ xs Q, sp_longest_of xs Q → w_longest_of { nx := fun _ => Q .non, rt := fun y _ => Q y } (startE N_longest_of [] xs) := by
  rintro xs Q ⟨cs, ns, d, rfl, hd, G, N, q⟩
  exact ⟨cs, ns, d, rfl, hd, G, N, q⟩
theorem keep_t {cs : List Cd} {t : Int} (h : t ≤ best cs) : keepB cs t = true := decide_eq_true h
theorem keep_f {cs : List Cd} {t : Int} (h : best cs < t) : keepB cs t = false := decide_eq_false (by omega)
theorem gd_app {cs : List Cd} (G : Goods cs) {c : Cd} (g : good c) : Gd (cs ++ [c]) := ⟨by have := G.len; rw [List.length_append, List.length_singleton]; omega, fun x hx => by
  rcases List.mem_append.mp hx with h | h
  · exact G.all x h
  · rw [List.mem_singleton.mp h]; exact g⟩
theorem lotD_int (a : List Nat) : lotD a = intsT (lotI a) := by
  unfold lotD intsT lotI
  rw [List.map_map]
  rfl
theorem turnsM_app (cs : List Cd) (pre : List (List Nat)) (t : List Nat) : (((pre ++ [t]).filter fun t => decide ((turnM cs t).1 = best cs)).length : Int) = if (turnM cs t).1 = best cs then ((pre.filter fun t => decide ((turnM cs t).1 = best cs)).length : Int) + 1 else ((pre.filter fun t => decide ((turnM cs t).1 = best cs)).length : Int) := by
  rw [List.filter_append, List.length_append]
  by_cases h : (turnM cs t).1 = best cs
  · rw [if_pos h, List.filter_cons_of_pos (p := fun t => decide ((turnM cs t).1 = best cs)) (decide_eq_true h)]; rfl
  · rw [if_neg h, List.filter_cons_of_neg (p := fun t => decide ((turnM cs t).1 = best cs)) (by rw [decide_eq_false h]; exact Bool.false_ne_true)]; rfl
theorem read_turns : ∀ xs Q, sp_turns xs Q → w_turns { nx := fun _ => Q .non, rt := fun y _ => Q y } (startE N_turns [] xs) := by
  rintro xs Q ⟨cs, rfl, G, h8, q⟩
  have hg := G.len
  have hlen : ((cs.map cD).length : Int) = (cs.length : Int) := by rw [List.length_map]
  refine ⟨cs, rfl, G, ?_⟩
  refine ⟨cs, rfl, h8, ?_⟩
  refine ⟨cs, rfl, G.gd, ?_⟩
  refine ⟨cs, List.range cs.length, _, rfl, .inr rfl, G.gd, nums_all G.gd, ?_⟩
  rw [pick_all]
  refine ⟨⟨by omega, by show ((cs.map cD).length : Int) ≤ 1000; omega⟩, ?_⟩
  show wLoop _ _ _ ((PRM.permL ((cs.map cD).length : Int).toNat (List.range ((cs.map cD).length : Int).toNat)).map lotD) [.d (csD cs), .d (.int (best cs)), .d (.int 0), .un]
  rw [hlen, Int.toNat_natCast]
  refine loop_inv (enc := lotD) (I := fun pre ρ => ∃ a3, ρ = [.d (csD cs), .d (.int (best cs)), .d (.int ((pre.filter fun t => decide ((turnM cs t).1 = best cs)).length : Int)), a3]) ?_ ?_ _ ⟨.un, rfl⟩
  · rintro pre t post e K hK ρ ⟨a3, rfl⟩
    have ht : t ∈ PRM.permL cs.length (List.range cs.length) := by rw [e]; exact List.mem_append_right _ List.mem_cons_self
    have hp := (PRM.mem_permL cs.length (List.range cs.length) List.length_range t).mp ht
    have ha := turnsM_app cs pre t
    generalize ((pre.filter fun t => decide ((turnM cs t).1 = best cs)).length : Int) = k at ha ⊢
    refine ⟨cs, t, lotD t, 0, rfl, .inr rfl, nums_perm (nums_all G.gd) hp, ?_⟩
    refine ⟨.int (turnL cs 0 t).1, rfl, ?_⟩
    refine ⟨rfl, rfl, ?_⟩
    show isB (.bl (eqD (.int (turnM cs t).1) (.int (best cs)))) _
    rw [eqD_int]
    by_cases z : (turnM cs t).1 = best cs
    · rw [decide_eq_true z]
      rw [if_pos z] at ha
      refine hK _ ⟨.d (lotD t), ?_⟩
      rw [ha]
      rfl
    · rw [decide_eq_false z]
      rw [if_neg z] at ha
      refine hK _ ⟨.d (lotD t), ?_⟩
      rw [ha]
      rfl
  · rintro ρ ⟨a3, rfl⟩
    exact q
end FW
set_option Elab.async false
set_option linter.all false
set_option maxRecDepth 100000
set_option maxHeartbeats 2000000
namespace FW
open PySem PySem.Spec PyProof.Rows L2 AL
/-- few numbers, each once -/
def fewN : Nat → List Nat → Prop
  | 0, _ => False
  | d + 1, ns => ns.length ≤ d ∧ ns.length ≤ 5
def sp_l_all (d : Nat) : ASp := fsp (fun ns : List Nat => [.lst (ns.map nD)]) (fewN d) fun ns => .lst ((PRM.permL ns.length ns).map lotD)
theorem mono_l_all {d : Nat} : MonoA (sp_l_all d) := fsp_mono
def sp_law : ASp := fun xs Q => ∃ ns, xs = [.scr ns] ∧ Q (.bl true)
/-! ### _law_all -/
abbrev s_l_all : Stmt := topS 35
abbrev N_l_all : List Str := ["_law_names", "_law_found", "_law_k", "_law_rest"]
abbrev p_l_all : List Str := ["_law_names"]
theorem sc_l_all : FnScope N_l_all p_l_all (defScope s_l_all) := ⟨rfl, rfl, rfl, by decide +kernel, rfl, by decide +kernel, by decide +kernel⟩
def w_l_all (d : Nat) : WS := (wSeq (wIfS (wTest (wOp kEq (w2v 0 (fun ρ Q => (wLst wNil) ρ fun xs ρ' => Q (.lst xs) ρ')))) (wRet (fun ρ Q => (wLst (wCons (wTup wNil) wNil)) ρ fun xs ρ' => Q (.lst xs) ρ')) wNext)
  (wSeq (wAsg (fun ρ Q => (wLst wNil) ρ fun xs ρ' => Q (.lst xs) ρ') (wName 1))
  (wSeq (wFor (wRng1 (wCons (wUn kLen (wVarB 0)) wNil)) (wName 2) (wAsg (wOp kAdd (w2v 1 (fun ρ Q => (wLc (wSeqI (wCallS (sp_l_all d) (wCons (wOp kAdd (w2e (wSl (wVar 0) wNoPart (wPart (wVar 2))) (wSl (wVar 0) (wPart (wOp kAdd (w2v 2 (wC (.int 1))))) wNoPart))) wNil))) (wName 3) wYes (wOp kAdd (w2e (wTup (wCons (wOp kIx (w2v 0 (wVarB 2))) wNil)) (wVarB 3))) [3]) ρ fun xs ρ' => Q (.lst xs) ρ'))) (wName 1)))
  (wRet (wVar 1)))))
set_option maxHeartbeats 4000000 in
theorem b_l_all {P : Program} {w : World} {K : PySem.W.Frag} {mg : Str → Option Value} {base : Heap} {j d : Nat} (z : Zs mg) (h_l_all : Ok P w K mg base j "_law_all" p_l_all (liftSp K (sp_l_all d))) (f : Addr) (cdv : Value) (A : Around) (outer : List PySem.Env) (s₀ : Shared) (H : Hp) (E : XK) (M W : Addr → Prop) (H0 T : Hp) [ClOk ⟨K, M, W, H0, T, noTb⟩] (hr : Room j (A.deeper (envOfC "_law_all" (defScope s_l_all) s₀.heap.objs.size f cdv))) :
    QSs (cxOf CX0 P w K mg base N_l_all "_law_all" (defScope s_l_all) f cdv A outer s₀ H E).nox ⟨K, M, W, H0, T, noTb⟩ (defBody s_l_all) (w_l_all d) := by
  obtain ⟨f_l_all, fd_l_all, F_l_all, m_l_all, k_l_all, d_l_all⟩ := h_l_all.ex
  exact (qss_cons (qs_if (qt_cmp (op_eqD hr.units) kEq_op kEq_mono (q2v 0 (QE.qb (QF.qe (qf_lst qa_nil)))) (nomark _)) (qss_one (qs_ret (QF.qe (qf_lst (qa_cons (qe_tup qa_nil) qa_nil))))) qss_nil)
  (qss_cons (qs_set (i := 1) sc_l_all.nd rfl (by first | exact Or.inl rfl | exact Or.inr rfl) (QF.qe (qf_lst qa_nil)))
  (qss_cons (qs_for PassesOwn.never rfl (qi_range1 (by rfl) z.range_ (qa_cons (qe_b1 call_len_seq kLen_op kLen_mono (by rfl) z.len_ (by decide +kernel) (qvb 0)) qa_nil)) (qg_name (i := 2) sc_l_all.nd rfl (by first | exact Or.inl rfl | exact Or.inr rfl)) (qss_one (qs_set (i := 1) sc_l_all.nd rfl (by first | exact Or.inl rfl | exact Or.inr rfl) (qe_op op_addA kAdd_op kAdd_mono (q2v 1 (QE.qb (QF.qe (qf_lc rfl sc_l_all.nd (qi_seq (qe_call mono_l_all F_l_all hr m_l_all k_l_all d_l_all pass0 (qa_cons (qe_op op_addA kAdd_op kAdd_mono (q2_e (qe_sl (qv 0) qo_none (qo_some (qv 2))) (QE.qb (qe_sl (qv 0) (qo_some (qe_op op_addA kAdd_op kAdd_mono (q2v 2 (QE.qb qe_int)))) qo_none)))) qa_nil))) (blkOk_by (N := N_l_all) (sc := defScope s_l_all) (own := [("_law_rest", 3)]) (by decide +kernel)) ⟨fun _ _ _ _ _ _ => (qc_name (i := 3) sc_l_all.nd rfl (by first | exact Or.inl rfl | exact Or.inr rfl) (by decide)), fun _ _ _ _ _ _ => qts_nil, fun _ _ _ _ _ _ => (qe_op op_addA kAdd_op kAdd_mono (q2_e (qe_tup (qa_cons (qe_ix ix_seq kIx_op kIx_mono (q2v 0 (qvb 2)) (fun _ _ => rfl)) qa_nil)) (qvb 3)))⟩))))))))
  (qss_one (qs_ret (qv 1))))))
/-! ### law -/
abbrev s_law : Stmt := topS 36
abbrev N_law : List Str := ["_law_script", "_law_row", "_law_turn", "_law_some", "_law_time", "_law_told", "_law_ends", "_law_one", "_law_end", "_law_few", "_law_more", "_law_long", "_law_length", "_law_damp", "_law_price", "_law_candle", "_law_due", "_law_k"]
abbrev p_law : List Str := ["_law_script"]
theorem sc_law : FnScope N_law p_law (defScope s_law) := ⟨rfl, rfl, rfl, by decide +kernel, rfl, by decide +kernel, by decide +kernel⟩
def w_law : WS := (wSeq (wOwn (wLst (wCons (wVar 0) (wCons (wC (.int 0)) (wCons (wC (.int 0)) (wCons (wC (.int 0)) wNil))))) 1)
  (wSeq (wFor (wRng1 (wCons (wC (.int 2)) wNil)) (wName 2) (wSeq (wAsg (wCallR sp_l_candles 1 (wCons (wC (.int 0)) (wCons (wC (.int 5)) wNil))) (wName 3))
  (wSeq (wAsg (wTup (wCons (wOp kIx (w2e (wCallS sp_longest (wCons (wVar 3) wNil)) (wC (.int 0)))) (wCons (wCallS (sp_l_all 6) (wCons (fun ρ Q => (wLstRg (wUn kLen (wVarB 3))) ρ fun xs ρ' => Q (.lst xs) ρ') wNil)) wNil))) (wgTup 2 (wgCons (wName 4) (wgCons (wName 5) wgNil))))
  (wSeq (wAsg (fun ρ Q => (wLc (wSeqI (wVar 5)) (wName 7) wYes (wOp kIx (w2e (wCallS sp_by_turn (wCons (wVar 3) (wCons (wVar 7) wNil))) (wC (.int 0)))) [7]) ρ fun xs ρ' => Q (.lst xs) ρ') (wName 6))
  (wSeq (wIfS (wOr (wTest (wOp kNe (w2e (wCallS sp_turns (wCons (wVar 3) wNil)) (wUn kLen (fun ρ Q => (wLc (wSeqI (wVar 6)) (wName 8) (wTest (wOp kEq (w2v 8 (wVarB 4)))) (wVar 8) [8]) ρ fun xs ρ' => Q (.lst xs) ρ'))))) (wTest (wOp kNe (w2e (wUn kMax (wVarB 6)) (wVarB 4))))) (wRet (wC (.bl false))) wNext)
  (wSeq (wAsg (wUn kTuple (fun ρ Q => (wRevL (fun ρ Q => (wUnF kList (wVarB 3)) ρ fun xs ρ' => Q (.lst xs) ρ')) ρ fun xs ρ' => Q (.lst xs) ρ')) (wName 9))
  (wSeq (wIfS (wTest (wOp kNe (w2e (wCallS sp_turns (wCons (wVar 9) wNil)) (wCallS sp_turns (wCons (wVar 3) wNil))))) (wRet (wC (.bl false))) wNext)
  (wSeq (wAsg (wCallR sp_l_candles 1 (wCons (wC (.int 6)) (wCons (wC (.int 8)) wNil))) (wName 10))
  (wSeq (wIfS (wNot (wTest (wChain kLe kLe (wC (.int 1)) (wCallS sp_turns (wCons (wVar 10) wNil)) (wC (.int 40320))))) (wRet (wC (.bl false))) wNext)
  (wSeq (wAsg (wUn kTuple (fun ρ Q => (wLc (wSeqI (wVar 10)) (wgTup 3 (wgCons (wName 12) (wgCons (wName 13) (wgCons (wName 14) wgNil)))) wYes (wTup (wCons (wVar 12) (wCons (wC (.int 999)) (wCons (wVar 14) wNil)))) [12, 13, 14]) ρ fun xs ρ' => Q (.lst xs) ρ')) (wName 11))
  (wSeq (wIfS (wTest (wOp kNe (w2e (wOp kIx (w2e (wCallS sp_longest (wCons (wVar 11) wNil)) (wC (.int 0)))) (wUn kSum (fun ρ Q => (wLc (wSeqI (wVar 10)) (wName 15) wYes (wOp kIx (w2v 15 (wC (.int 0)))) [15]) ρ fun xs ρ' => Q (.lst xs) ρ'))))) (wRet (wC (.bl false))) wNext)
  (wSeq (wAsg (wC (.int 1)) (wName 16))
  (wSeq (wFor (wRng1 (wCons (wUn kLen (wVarB 10)) wNil)) (wName 17) (wAsg (wOp kMul (w2v 16 (wOp kAdd (w2v 17 (wC (.int 1)))))) (wName 16)))
  (wIfS (wTest (wOp kNe (w2e (wCallS sp_turns (wCons (wVar 11) wNil)) (wVarB 16)))) (wRet (wC (.bl false))) wNext))))))))))))))
  (wRet (wC (.bl true)))))
set_option maxHeartbeats 4000000 in
theorem b_law {P : Program} {w : World} {K : PySem.W.Frag} {mg : Str → Option Value} {base : Heap} (z : Zs mg) (h_l_all : Ok P w K mg base 6 "_law_all" p_l_all (liftSp K (sp_l_all 6))) (h_l_candles : Ok P w K mg base 2 "_law_candles" p_l_candles (liftRw K sp_l_candles)) (h_by_turn : Ok P w K mg base 5 "by_turn" p_by_turn (liftSp K sp_by_turn)) (h_longest : Ok P w K mg base 5 "longest" p_longest (liftSp K sp_longest)) (h_turns : Ok P w K mg base 5 "turns" p_turns (liftSp K sp_turns)) (f : Addr) (cdv : Value) (A : Around) (outer : List PySem.Env) (s₀ : Shared) (H : Hp) (E : XK) (M W : Addr → Prop) (H0 T : Hp) [ClOk ⟨K, M, W, H0, T, noTb⟩] (hr : Room 6 (A.deeper (envOfC "law" (defScope s_law) s₀.heap.objs.size f cdv))) :
    QSs (cxOf CX0 P w K mg base N_law "law" (defScope s_law) f cdv A outer s₀ H E).nox ⟨K, M, W, H0, T, noTb⟩ (defBody s_law) w_law := by
  obtain ⟨f_l_all, fd_l_all, F_l_all, m_l_all, k_l_all, d_l_all⟩ := h_l_all.ex
  obtain ⟨f_l_candles, fd_l_candles, F_l_candles, m_l_candles, k_l_candles, d_l_candles⟩ := h_l_candles.ex
  obtain ⟨f_by_turn, fd_by_turn, F_by_turn, m_by_turn, k_by_turn, d_by_turn⟩ := h_by_turn.ex
  obtain ⟨f_longest, fd_longest, F_longest, m_longest, k_longest, d_longest⟩ := h_longest.ex
  obtain ⟨f_turns, fd_turns, F_turns, m_turns, k_turns, d_turns⟩ := h_turns.ex
  exact (qss_cons (qs_own (i := 1) sc_law.nd rfl (by first | exact Or.inl rfl | exact Or.inr rfl) (qf_lst (qa_cons (qv 0) (qa_cons qe_int (qa_cons qe_int (qa_cons qe_int qa_nil))))))
  (qss_cons (qs_for PassesOwn.never rfl (qi_range1 (by rfl) z.range_ (qa_cons qe_int qa_nil)) (qg_name (i := 2) sc_law.nd rfl (by first | exact Or.inl rfl | exact Or.inr rfl)) (qss_cons (qs_set (i := 3) sc_law.nd rfl (by first | exact Or.inl rfl | exact Or.inr rfl) (qe_callR (i := 1) mono_l_candles F_l_candles (hr.mono (by decide)) m_l_candles k_l_candles d_l_candles pass0 rfl (by first | exact Or.inl rfl | exact Or.inr (Or.inl rfl) | exact Or.inr (Or.inr rfl)) (qa_cons qe_int (qa_cons qe_int qa_nil))))
  (qss_cons (qs_asg (qe_tup (qa_cons (qe_ix ix_seq kIx_op kIx_mono (q2_e (qe_call mono_longest F_longest (hr.mono (by decide)) m_longest k_longest d_longest pass0 (qa_cons (qv 3) qa_nil)) (QE.qb qe_int)) (fun _ _ => rfl)) (qa_cons (qe_call mono_l_all F_l_all (hr.mono (by decide)) m_l_all k_l_all d_l_all pass0 (qa_cons (QF.qe (qf_lstRg rfl (by rfl) z.list_ (by rfl) z.range_ (qe_b1 call_len_seq kLen_op kLen_mono (by rfl) z.len_ (by decide +kernel) (qvb 3)))) qa_nil)) qa_nil))) (qg_tup rfl (qgs_cons (qg_name (i := 4) sc_law.nd rfl (by first | exact Or.inl rfl | exact Or.inr rfl)) (qgs_cons (qg_name (i := 5) sc_law.nd rfl (by first | exact Or.inl rfl | exact Or.inr rfl)) qgs_nil))))
  (qss_cons (qs_setLc (i := 6) rfl sc_law.nd rfl rfl (sw_true rfl rfl rfl (by decide +kernel)) (qi_seq (qv 5)) (blkOk_by (N := N_law) (sc := defScope s_law) (own := [("_law_one", 7)]) (by decide +kernel)) ⟨fun _ _ _ _ _ _ => (qc_name (i := 7) sc_law.nd rfl (by first | exact Or.inl rfl | exact Or.inr rfl) (by decide)), fun _ _ _ _ _ _ => qts_nil, fun _ _ _ _ _ _ => (qe_ix ix_seq kIx_op kIx_mono (q2_e (qe_call mono_by_turn F_by_turn (hr.mono (by decide)) m_by_turn k_by_turn d_by_turn pass0 (qa_cons (qv 3) (qa_cons (qv 7) qa_nil))) (QE.qb qe_int)) (fun _ _ => rfl))⟩)
  (qss_cons (qs_if (QW.qt (qw_or (qt_cmp (op_neD hr.units) kNe_op kNe_mono (q2_e (qe_call mono_turns F_turns (hr.mono (by decide)) m_turns k_turns d_turns pass0 (qa_cons (qv 3) qa_nil)) (QE.qb (qe_b1 call_len_seq kLen_op kLen_mono (by rfl) z.len_ (by decide +kernel) (QE.qb (QF.qe (qf_lc rfl sc_law.nd (qi_seq (qv 6)) (blkOk_by (N := N_law) (sc := defScope s_law) (own := [("_law_end", 8)]) (by decide +kernel)) ⟨fun _ _ _ _ _ _ => (qc_name (i := 8) sc_law.nd rfl (by first | exact Or.inl rfl | exact Or.inr rfl) (by decide)), fun _ _ _ _ _ _ => qts_one (qt_cmp (op_eqD hr.units) kEq_op kEq_mono (q2v 8 (qvb 4)) (nomark _)), fun _ _ _ _ _ _ => (qv 8)⟩)))))) (nomark _)) (qw_or1 (qt_cmp (op_neD hr.units) kNe_op kNe_mono (q2_e (qe_b1 (cr_max rfl) kMax_op kMax_mono (by rfl) z.max_ (by decide +kernel) (qvb 6)) (qvb 4)) (nomark _))))) (qss_one (qs_ret qe_bl)) qss_nil)
  (qss_cons (qs_set (i := 9) sc_law.nd rfl (by first | exact Or.inl rfl | exact Or.inr rfl) (qe_t1 call_tuple_of kTuple_op kTuple_mono (by rfl) z.tuple_ (by decide +kernel) (QE.qb (QF.qe (qf_revL (QF.qe (qf_t1 call_list_of kList_op kList_mono (by rfl) z.list_ (by decide +kernel) (qvb 3))))))))
  (qss_cons (qs_if (qt_cmp (op_neD hr.units) kNe_op kNe_mono (q2_e (qe_call mono_turns F_turns (hr.mono (by decide)) m_turns k_turns d_turns pass0 (qa_cons (qv 9) qa_nil)) (QE.qb (qe_call mono_turns F_turns (hr.mono (by decide)) m_turns k_turns d_turns pass0 (qa_cons (qv 3) qa_nil)))) (nomark _)) (qss_one (qs_ret qe_bl)) qss_nil)
  (qss_cons (qs_set (i := 10) sc_law.nd rfl (by first | exact Or.inl rfl | exact Or.inr rfl) (qe_callR (i := 1) mono_l_candles F_l_candles (hr.mono (by decide)) m_l_candles k_l_candles d_l_candles pass0 rfl (by first | exact Or.inl rfl | exact Or.inr (Or.inl rfl) | exact Or.inr (Or.inr rfl)) (qa_cons qe_int (qa_cons qe_int qa_nil))))
  (qss_cons (qs_if (qt_not (qt_chain op_le op_le (kI_op fun _ _ _ _ => .bl _) (kI_op fun _ _ _ _ => .bl _) kI_mono kI_mono qe_int (qe_call mono_turns F_turns (hr.mono (by decide)) m_turns k_turns d_turns pass0 (qa_cons (qv 10) qa_nil)) qe_int)) (qss_one (qs_ret qe_bl)) qss_nil)
  (qss_cons (qs_set (i := 11) sc_law.nd rfl (by first | exact Or.inl rfl | exact Or.inr rfl) (qe_t1 call_tuple_of kTuple_op kTuple_mono (by rfl) z.tuple_ (by decide +kernel) (QE.qb (QF.qe (qf_lc rfl sc_law.nd (qi_seq (qv 10)) (blkOk_by (N := N_law) (sc := defScope s_law) (own := [("_law_length", 12), ("_law_damp", 13), ("_law_price", 14)]) (by decide +kernel)) ⟨fun _ _ _ _ _ _ => (qc_tup rfl (qcs_cons (qc_name (i := 12) sc_law.nd rfl (by first | exact Or.inl rfl | exact Or.inr rfl) (by decide)) (qcs_cons (qc_name (i := 13) sc_law.nd rfl (by first | exact Or.inl rfl | exact Or.inr rfl) (by decide)) (qcs_cons (qc_name (i := 14) sc_law.nd rfl (by first | exact Or.inl rfl | exact Or.inr rfl) (by decide)) qcs_nil)))), fun _ _ _ _ _ _ => qts_nil, fun _ _ _ _ _ _ => (qe_tup (qa_cons (qv 12) (qa_cons qe_int (qa_cons (qv 14) qa_nil))))⟩)))))
  (qss_cons (qs_if (qt_cmp (op_neD hr.units) kNe_op kNe_mono (q2_e (qe_ix ix_seq kIx_op kIx_mono (q2_e (qe_call mono_longest F_longest (hr.mono (by decide)) m_longest k_longest d_longest pass0 (qa_cons (qv 11) qa_nil)) (QE.qb qe_int)) (fun _ _ => rfl)) (QE.qb (qe_b1 (cr_sum rfl) kSum_op kSum_mono (by rfl) z.sum_ (by decide +kernel) (QE.qb (QF.qe (qf_lc rfl sc_law.nd (qi_seq (qv 10)) (blkOk_by (N := N_law) (sc := defScope s_law) (own := [("_law_candle", 15)]) (by decide +kernel)) ⟨fun _ _ _ _ _ _ => (qc_name (i := 15) sc_law.nd rfl (by first | exact Or.inl rfl | exact Or.inr rfl) (by decide)), fun _ _ _ _ _ _ => qts_nil, fun _ _ _ _ _ _ => (qe_ix ix_seq kIx_op kIx_mono (q2v 15 (QE.qb qe_int)) (fun _ _ => rfl))⟩)))))) (nomark _)) (qss_one (qs_ret qe_bl)) qss_nil)
  (qss_cons (qs_set (i := 16) sc_law.nd rfl (by first | exact Or.inl rfl | exact Or.inr rfl) qe_int)
  (qss_cons (qs_for PassesOwn.never rfl (qi_range1 (by rfl) z.range_ (qa_cons (qe_b1 call_len_seq kLen_op kLen_mono (by rfl) z.len_ (by decide +kernel) (qvb 10)) qa_nil)) (qg_name (i := 17) sc_law.nd rfl (by first | exact Or.inl rfl | exact Or.inr rfl)) (qss_one (qs_set (i := 16) sc_law.nd rfl (by first | exact Or.inl rfl | exact Or.inr rfl) (qe_op op_mul (kI2_op fun _ _ _ _ => .int _) kI2_mono (q2v 16 (QE.qb (qe_op op_addA kAdd_op kAdd_mono (q2v 17 (QE.qb qe_int)))))))))
  (qss_one (qs_if (qt_cmp (op_neD hr.units) kNe_op kNe_mono (q2_e (qe_call mono_turns F_turns (hr.mono (by decide)) m_turns k_turns d_turns pass0 (qa_cons (qv 11) qa_nil)) (qvb 16)) (nomark _)) (qss_one (qs_ret qe_bl)) qss_nil)))))))))))))))
  (qss_one (qs_ret qe_bl))))
end FW
set_option Elab.async false
set_option linter.all false
set_option maxRecDepth 100000
set_option maxHeartbeats 8000000
namespace FW
open PySem PySem.Spec PyProof.Rows L2 AL
theorem nodup_len1 : ∀ (n : Nat) (l : List Nat), l.Nodup → (∀ x ∈ l, x < n) → l.length ≤ n
  | 0, [], _, _ => Nat.le_refl _
  | 0, x :: l, _, h => absurd (h x List.mem_cons_self) (Nat.not_lt_zero _)
  | n + 1, l, nd, h => by
    have := nodup_len1 n (l.erase n) (nd.erase n) fun x hx => by
      have h1 := h x (List.mem_of_mem_erase hx)
      have h2 := (nd.mem_erase_iff.mp hx).1
      omega
    rw [List.length_erase] at this
    split at this <;> omega
theorem read_check_turn : ∀ xs Q, sp_check_turn xs Q → w_check_turn { nx := fun _ => Q .non, rt := fun y _ => Q y } (startE N_check_turn [] xs) := by
  rintro xs Q ⟨⟨cs, ns⟩, rfl, ⟨G, nd, lt⟩, q⟩
  have nd' : ns.Nodup := nd
  have lt' : ∀ n ∈ ns, n < cs.length := lt
  refine ⟨rfl, true, kb_tt, ?_⟩
  show wLoop _ _ _ (enums 0 (ns.map nD)) _
  rw [enums_map]
  refine loop_inv (enc := fun p : Nat × Nat => .tup [.int (p.2 : Nat), nD p.1]) (I := fun pre ρ => ∃ (a b : En), ρ = [.d (csD cs), .d (lotD ns), a, b]) ?_ ?_ _ ⟨.un, .un, rfl⟩
  · rintro pre ⟨n, k⟩ post e K hK ρ ⟨a, b, rfl⟩
    have hlen : pre.length < ns.length := by
      have := congrArg List.length e
      rw [List.length_zipIdx, List.length_append, List.length_cons] at this
      omega
    have hm : (ns.zipIdx 0)[pre.length]? = some (n, k) := by rw [e, List.getElem?_append_right (Nat.le_refl _), Nat.sub_self]; rfl
    rw [List.getElem?_zipIdx, List.getElem?_eq_getElem hlen] at hm
    have hn : ns[pre.length] = n := congrArg Prod.fst (Option.some.inj hm)
    have hk : pre.length = k := by
      have := congrArg Prod.snd (Option.some.inj hm)
      have h2 : 0 + pre.length = k := this
      omega
    have hmem : n ∈ ns := by rw [← hn]; exact List.getElem_mem _
    have hlt := lt' n hmem
    refine ⟨rfl, ?_⟩
    refine ⟨(cs, nD n), rfl, rfl, ?_⟩
    show isB (.bl (within (nD n) 0 ((cs.length : Int) - 1))) _
    have hw : within (nD n) 0 ((cs.length : Int) - 1) = true := within_t (by omega) (by omega)
    rw [hw]
    have hc : AL.cutD (ns.map nD) none (some (k : Int)) = (ns.take k).map nD := by rw [cut_take, List.map_take]
    have hnot : n ∉ ns.take k := fun z => by
      rw [← hk] at z
      have hd := List.take_append_drop pre.length ns
      rw [List.drop_eq_getElem_cons hlen, hn] at hd
      rw [← hd] at nd'
      exact (List.nodup_append.mp nd').2.2 n z n List.mem_cons_self rfl
    refine ⟨rfl, (by show (AL.cutD (ns.map nD) none (some (k : Int))).all D.flat = true; rw [hc]; exact flat_nD _), ?_⟩
    have hin : inD (nD n) ((ns.take k).map nD) = false := by
      have e1 : inD (nD n) ((ns.take k).map nD) = decide ((n : Int).toNat ∈ ns.take k) := inD_lot _ (by omega)
      rw [e1, Int.toNat_natCast, decide_eq_false hnot]
    show isB (.bl (inD (nD n) (AL.cutD (ns.map nD) none (some (k : Int))))) _
    rw [hc, hin]
    exact hK _ ⟨_, _, rfl⟩
  · rintro ρ ⟨a, b, rfl⟩
    exact q
theorem read_by_turn : ∀ xs Q, sp_by_turn xs Q → w_by_turn { nx := fun _ => Q .non, rt := fun y _ => Q y } (startE N_by_turn [] xs) := by
  rintro xs Q ⟨cs, ns, rfl, G, nd, lt, q⟩
  refine ⟨cs, rfl, G, ?_⟩
  refine ⟨(cs, ns), rfl, ⟨G, nd, lt⟩, ?_⟩
  refine ⟨cs, ns, lotD ns, rfl, .inr rfl, ⟨lt, ?_⟩, q⟩
  have := nodup_len1 cs.length ns nd lt
  have := G.len
  omega
/-! ### candles in another turn -/
/-- the index list of another turn -/
structure Ord (cs : List Cd) (σ : List Nat) : Prop where
  p : σ.Perm (List.range cs.length)
def gO (σ : List Nat) (k : Nat) : Nat := σ.getD k 0
theorem ord_len {cs : List Cd} {σ : List Nat} (h : σ.Perm (List.range cs.length)) : σ.length = cs.length := by rw [h.length_eq, List.length_range]
theorem ord_nd {cs : List Cd} {σ : List Nat} (h : σ.Perm (List.range cs.length)) : σ.Nodup := h.nodup_iff.mpr List.nodup_range
theorem ord_map {σ : List Nat} : (List.range σ.length).map (gO σ) = σ := by
  apply List.ext_getElem?
  intro i
  rw [List.getElem?_map]
  by_cases h : i < σ.length
  · rw [List.getElem?_range h, List.getElem?_eq_getElem h]
    show some (σ.getD i 0) = _
    rw [List.getD_eq_getElem?_getD, List.getElem?_eq_getElem h]; rfl
  · rw [List.getElem?_eq_none_iff.mpr (by rw [List.length_range]; omega), List.getElem?_eq_none_iff.mpr (by omega)]; rfl
theorem gO_mem {σ : List Nat} {k : Nat} (h : k < σ.length) : gO σ k ∈ σ := by
  show σ.getD k 0 ∈ σ
  rw [List.getD_eq_getElem?_getD, List.getElem?_eq_getElem h]
  exact List.getElem_mem h
theorem gO_lt {cs : List Cd} {σ : List Nat} (h : σ.Perm (List.range cs.length)) {k : Nat} (hk : k < cs.length) : gO σ k < cs.length := List.mem_range.mp (h.mem_iff.mp (gO_mem (by rw [ord_len h]; exact hk)))
theorem gO_inj {σ : List Nat} (nd : σ.Nodup) {i j : Nat} (hi : i < σ.length) (hj : j < σ.length) (h : gO σ i = gO σ j) : i = j := by
  have h1 : σ[i]? = σ[j]? := by
    have e : ∀ k, k < σ.length → σ[k]? = some (gO σ k) := fun k hk => by
      show _ = some (σ.getD k 0)
      rw [List.getD_eq_getElem?_getD, List.getElem?_eq_getElem hk]; rfl
    rw [e i hi, e j hj, h]
  exact (List.getElem?_inj hi nd).mp h1
theorem gO_surj {cs : List Cd} {σ : List Nat} (h : σ.Perm (List.range cs.length)) {x : Nat} (hx : x < cs.length) : ∃ k, k < cs.length ∧ gO σ k = x := by
  have hm : x ∈ σ := h.mem_iff.mpr (List.mem_range.mpr hx)
  rw [← ord_map (σ := σ)] at hm
  obtain ⟨k, hk, e⟩ := List.mem_map.mp hm
  exact ⟨k, by rw [← ord_len h]; exact List.mem_range.mp hk, e⟩
theorem pick_len (cs : List Cd) (σ : List Nat) : (pick cs σ).length = σ.length := by unfold pick; rw [List.length_map]
theorem gO_eq {σ : List Nat} {k : Nat} (h : k < σ.length) : gO σ k = σ[k] := by
  show σ.getD k 0 = _
  rw [List.getD_eq_getElem?_getD, List.getElem?_eq_getElem h]; rfl
theorem at_pick {cs : List Cd} {σ : List Nat} {k : Nat} (h : k < σ.length) : at' (pick cs σ) k = at' cs (gO σ k) := by
  rw [gO_eq h]
  show (pick cs σ).getD k _ = _
  rw [List.getD_eq_getElem?_getD]
  unfold pick
  rw [List.getElem?_map, List.getElem?_eq_getElem h]
  rfl
theorem pick_pick {cs : List Cd} {σ l : List Nat} (h : ∀ k ∈ l, k < σ.length) : pick (pick cs σ) l = pick cs (l.map (gO σ)) := by
  unfold pick
  rw [List.map_map]
  exact List.map_congr_left fun k hk => at_pick (h k hk)
theorem ord_perm {cs : List Cd} {σ : List Nat} (h : σ.Perm (List.range cs.length)) : (pick cs σ).Perm cs := by
  have := pick_perm (cs := cs) h
  rwa [pick_all] at this
theorem ord_goods {cs : List Cd} (G : Goods cs) {σ : List Nat} (h : σ.Perm (List.range cs.length)) : Goods (pick cs σ) := ⟨by rw [pick_len, ord_len h]; exact G.len, alls_pick G.all fun n hn => List.mem_range.mp (h.mem_iff.mp hn)⟩
theorem ord_best {cs : List Cd} (G : Goods cs) {σ : List Nat} (h : σ.Perm (List.range cs.length)) : best (pick cs σ) = best cs := best_perm (ord_goods G h).all (ord_perm h)
theorem eqD_nil (ds : List D) : eqD (.lst ds) (.lst []) = decide (ds = []) := by
  cases ds with
  | nil => rfl
  | cons a r => rfl
def fct : Nat → Nat
  | 0 => 1
  | m + 1 => (m + 1) * fct m
theorem blkL_len {f : List Nat → List (List Nat)} {m k : Nat} (h : ∀ s : List Nat, s.length = m → (f s).length = k) : ∀ (rem done : List Nat), done.length + rem.length = m + 1 → (PRM.blkL f done rem).length = rem.length * k
  | [], _, _ => by show 0 = 0 * k; rw [Nat.zero_mul]
  | x :: rem, done, e => by
    rw [List.length_cons] at e
    rw [PRM.blkL_cons, List.length_append, List.length_map, h (done ++ rem) (by rw [List.length_append]; omega), blkL_len h rem (done ++ [x]) (by rw [List.length_append, List.length_singleton]; omega), List.length_cons, Nat.succ_mul, Nat.add_comm]
theorem permL_len : ∀ (m : Nat) (s : List Nat), s.length = m → (PRM.permL m s).length = fct m
  | 0, [], _ => rfl
  | m + 1, s, h => by
    show (PRM.blkL (PRM.permL m) [] s).length = (m + 1) * fct m
    rw [blkL_len (k := fct m) (permL_len m) s [] (by rw [List.length_nil, Nat.zero_add]; exact h), h]
theorem fct5 : ∀ {m : Nat}, m ≤ 5 → fct m ≤ 120
  | 0, _ => by decide
  | 1, _ => by decide
  | 2, _ => by decide
  | 3, _ => by decide
  | 4, _ => by decide
  | 5, _ => by decide
  | m + 6, h => absurd h (by omega)
/-! ### as many turns -/
theorem turn_ord {cs : List Cd} {σ : List Nat} : ∀ (t : List Nat) (s s' : Int × List (Int × Int)), (∀ k ∈ t, k < σ.length) → s.1 = s'.1 → (t.foldl (turn1 (pick cs σ)) s).1 = ((t.map (gO σ)).foldl (turn1 cs) s').1
  | [], s, s', _, e => e
  | k :: t, s, s', h, e => by
    rw [List.foldl_cons, List.map_cons, List.foldl_cons]
    refine turn_ord t _ _ (fun j hj => h j (List.mem_cons_of_mem _ hj)) ?_
    unfold turn1
    simp only
    rw [at_pick (h k List.mem_cons_self), e]
    generalize (if (at' cs (gO σ k)).2.1 < s'.1 then (at' cs (gO σ k)).2.1 else s'.1) = u
    split
    · rfl
    · exact e
theorem turns_ord {cs : List Cd} (G : Goods cs) {σ : List Nat} (h : σ.Perm (List.range cs.length)) : turnsM (pick cs σ) = turnsM cs := by
  unfold turnsM
  have hl : (pick cs σ).length = cs.length := by rw [pick_len, ord_len h]
  rw [hl, ord_best G h]
  have hc : ∀ t ∈ PRM.permL cs.length (List.range cs.length), decide ((turnM (pick cs σ) t).1 = best cs) = ((fun u => decide ((turnM cs u).1 = best cs)) ∘ List.map (gO σ)) t := fun t ht => by
    have hp := (PRM.mem_permL cs.length (List.range cs.length) List.length_range t).mp ht
    show decide ((turnM (pick cs σ) t).1 = best cs) = decide ((turnM cs (t.map (gO σ))).1 = best cs)
    unfold turnM
    rw [turn_ord t (0, []) (0, []) (fun k hk => by rw [ord_len h]; exact List.mem_range.mp (hp.mem_iff.mp hk)) rfl]
  rw [List.filter_congr hc]
  have e1 : ((PRM.permL cs.length (List.range cs.length)).filter ((fun u => decide ((turnM cs u).1 = best cs)) ∘ List.map (gO σ))).length = (((PRM.permL cs.length (List.range cs.length)).map (List.map (gO σ))).filter fun u => decide ((turnM cs u).1 = best cs)).length := by
    rw [List.filter_map, List.length_map]
  rw [e1, ← PRM.permL_map]
  have e2 : (List.range cs.length).map (gO σ) = σ := by rw [← ord_len h]; exact ord_map
  rw [e2]
  have := PRM.count_permL (p := fun u => decide ((turnM cs u).1 = best cs)) (ord_nd h) h
  rw [ord_len h, List.length_range] at this
  exact this
theorem pick_rev (cs : List Cd) : pick cs (List.range cs.length).reverse = cs.reverse := by
  have := pick_all cs
  unfold pick at this ⊢
  rw [List.map_reverse, this]
theorem rev_perm (n : Nat) : (List.range n).reverse.Perm (List.range n) := List.reverse_perm _
theorem ends_count (cs : List Cd) : (((PRM.permL cs.length (List.range cs.length)).map fun t => (turnM cs t).1).count (best cs) : Nat) = turnsM cs := by
  unfold turnsM
  rw [List.count, List.countP_map, List.countP_eq_length_filter]
  congr 1
theorem ends_top {cs : List Cd} (G : Goods cs) {m : Int} (h1 : m ∈ (PRM.permL cs.length (List.range cs.length)).map fun t => (turnM cs t).1) (h2 : ∀ y, y ∈ ((PRM.permL cs.length (List.range cs.length)).map fun t => (turnM cs t).1) → y ≤ m) : m = best cs := by
  have hm := fun t => PRM.mem_permL cs.length (List.range cs.length) List.length_range t
  have le1 : m ≤ best cs := by
    obtain ⟨t, ht, rfl⟩ := List.mem_map.mp h1
    have hp := (hm t).mp ht
    have := turn_le_best G.gd (ns := t) fun n hn => List.mem_range.mp (hp.mem_iff.mp hn)
    rw [best_perm (alls_pick G.all fun n hn => List.mem_range.mp (hp.mem_iff.mp hn)) (pick_perm hp), pick_all] at this
    exact this
  have le2 : best cs ≤ m := by
    have hp : ((List.range cs.length).mergeSort fun i j => decide (endC (at' cs i) ≤ endC (at' cs j))).Perm (List.range cs.length) := List.mergeSort_perm _ _
    have hs : ((List.range cs.length).mergeSort fun i j => decide (endC (at' cs i) ≤ endC (at' cs j))).Pairwise fun i j => decide (endC (at' cs i) ≤ endC (at' cs j)) = true := List.pairwise_mergeSort (fun a b c h1 h2 => by simp only [decide_eq_true_eq] at h1 h2 ⊢; omega) (fun a b => by simp only [Bool.or_eq_true, decide_eq_true_eq]; omega) _
    generalize ((List.range cs.length).mergeSort fun i j => decide (endC (at' cs i) ≤ endC (at' cs j))) = ms at hp hs
    have hn : ∀ n ∈ ms, n < cs.length := fun n h => List.mem_range.mp (hp.mem_iff.mp h)
    have hb := turn_best G.gd hn (hs.imp fun {a b} h => of_decide_eq_true h)
    rw [best_perm (alls_pick G.all hn) (pick_perm hp), pick_all] at hb
    rw [← hb]
    exact h2 _ (List.mem_map.mpr ⟨ms, (hm ms).mpr hp, rfl⟩)
  omega
theorem fct8 : ∀ {m : Nat}, m ≤ 8 → fct m ≤ 40320
  | 0, _ => by decide
  | 1, _ => by decide
  | 2, _ => by decide
  | 3, _ => by decide
  | 4, _ => by decide
  | 5, _ => by decide
  | 6, _ => by decide
  | 7, _ => by decide
  | 8, _ => by decide
  | m + 9, h => absurd h (by omega)
theorem map_ints {α : Type} (f : α → Int) (xs : List α) : (xs.map fun x => D.int (f x)) = (xs.map f).map D.int := by rw [List.map_map]; rfl
/-! ### all damps late -/
def longC (cs : List Cd) : List Cd := cs.map fun c => (c.1, 999, c.2.2)
theorem long_goods {cs : List Cd} (G : Goods cs) : Goods (longC cs) := ⟨by unfold longC; rw [List.length_map]; exact G.len, fun c hc => by
  obtain ⟨d, hd, rfl⟩ := List.mem_map.mp hc
  obtain ⟨h1, _, h3⟩ := G.all d hd
  exact ⟨h1, ⟨by show (0 : Int) ≤ 999; decide, by show (999 : Int) ≤ 999; decide⟩, h3⟩⟩
theorem at_long {cs : List Cd} {n : Nat} (h : n < cs.length) : at' (longC cs) n = ((at' cs n).1, 999, (at' cs n).2.2) := by
  show (longC cs).getD n _ = _
  unfold longC
  rw [List.getD_eq_getElem?_getD, List.getElem?_map, at_get h]
  rfl
theorem late_fold {cs : List Cd} (A : ∀ c ∈ cs, good c) : ∀ (t : List Nat) (s : Int × List (Int × Int)), (∀ n ∈ t, n < cs.length) → s.1 + 99 * (t.length : Int) ≤ 999 → (t.foldl (turn1 (longC cs)) s).1 = s.1 + (t.map fun n => (at' cs n).1).sum
  | [], s, _, _ => by show s.1 = s.1 + 0; omega
  | n :: r, s, h, hs => by
    have hn := h n List.mem_cons_self
    obtain ⟨⟨g1, g2⟩, _⟩ := A _ (at_mem hn)
    rw [List.length_cons] at hs
    rw [List.foldl_cons, List.map_cons, List.sum_cons]
    have e : (turn1 (longC cs) s n).1 = s.1 + (at' cs n).1 := by
      unfold turn1
      simp only
      rw [at_long hn]
      have e1 : (if (999 : Int) < s.1 then 999 else s.1) = s.1 := if_neg (by omega)
      show (if s.1 < (if (999 : Int) < s.1 then 999 else s.1) + (at' cs n).1 then _ else _ : Int × List (Int × Int)).1 = _
      rw [e1, if_pos (by omega)]
    rw [late_fold A r _ (fun m hm => h m (List.mem_cons_of_mem _ hm)) (by rw [e]; omega), e]
    omega
theorem late_turn {cs : List Cd} (G : Goods cs) (h8 : cs.length ≤ 8) {t : List Nat} (ht : t.Perm (List.range cs.length)) : (turnM (longC cs) t).1 = (cs.map (·.1)).sum := by
  have hl := ht.length_eq
  rw [List.length_range] at hl
  have := late_fold G.all t (0, []) (fun n hn => List.mem_range.mp (ht.mem_iff.mp hn)) (by show (0 : Int) + 99 * (t.length : Int) ≤ 999; omega)
  show (t.foldl (turn1 (longC cs)) (0, [])).1 = _
  rw [this, perm_sum (ht.map _)]
  have e : (List.range cs.length).map (fun n => (at' cs n).1) = cs.map (·.1) := by
    have := congrArg (List.map (fun c : Cd => c.1)) (cs_eq cs)
    rw [List.map_map] at this
    exact this
  rw [e]
  show (0 : Int) + _ = _
  omega
theorem long_len (cs : List Cd) : (longC cs).length = cs.length := by unfold longC; rw [List.length_map]
theorem long_best {cs : List Cd} (G : Goods cs) (h8 : cs.length ≤ 8) : best (longC cs) = (cs.map (·.1)).sum := by
  have G' := long_goods G
  have hm := fun t => PRM.mem_permL (longC cs).length (List.range (longC cs).length) List.length_range t
  have hl : (PRM.permL (longC cs).length (List.range (longC cs).length)) ≠ [] := List.ne_nil_of_mem ((hm _).mpr (List.Perm.refl _))
  refine (ends_top G' (m := (cs.map (·.1)).sum) ?_ ?_).symm
  · exact List.mem_map.mpr ⟨_, (hm _).mpr (List.Perm.refl _), late_turn G h8 (by rw [long_len])⟩
  · intro y hy
    obtain ⟨t, ht, rfl⟩ := List.mem_map.mp hy
    have hp := (hm t).mp ht
    rw [long_len] at hp
    rw [late_turn G h8 hp]
    exact Int.le_refl _
theorem long_turns {cs : List Cd} (G : Goods cs) (h8 : cs.length ≤ 8) : turnsM (longC cs) = fct cs.length := by
  unfold turnsM
  rw [long_best G h8, long_len, List.filter_eq_self.mpr, permL_len _ _ List.length_range]
  intro t ht
  rw [late_turn G h8 ((PRM.mem_permL cs.length (List.range cs.length) List.length_range t).mp ht), decide_eq_true rfl]
theorem turns_some {cs : List Cd} (G : Goods cs) : 1 ≤ turnsM cs := by
  have hp : ((List.range cs.length).mergeSort fun i j => decide (endC (at' cs i) ≤ endC (at' cs j))).Perm (List.range cs.length) := List.mergeSort_perm _ _
  have hs : ((List.range cs.length).mergeSort fun i j => decide (endC (at' cs i) ≤ endC (at' cs j))).Pairwise fun i j => decide (endC (at' cs i) ≤ endC (at' cs j)) = true := List.pairwise_mergeSort (fun a b c h1 h2 => by simp only [decide_eq_true_eq] at h1 h2 ⊢; omega) (fun a b => by simp only [Bool.or_eq_true, decide_eq_true_eq]; omega) _
  generalize ((List.range cs.length).mergeSort fun i j => decide (endC (at' cs i) ≤ endC (at' cs j))) = ms at hp hs
  have hn : ∀ n ∈ ms, n < cs.length := fun n h => List.mem_range.mp (hp.mem_iff.mp h)
  have hb := turn_best G.gd hn (hs.imp fun {a b} h => of_decide_eq_true h)
  rw [best_perm (alls_pick G.all hn) (pick_perm hp), pick_all] at hb
  unfold turnsM
  exact List.length_pos_of_mem (List.mem_filter.mpr ⟨(PRM.mem_permL cs.length (List.range cs.length) List.length_range ms).mpr hp, decide_eq_true hb⟩)
theorem turns_most {cs : List Cd} (h8 : cs.length ≤ 8) : turnsM cs ≤ 40320 := by
  have h1 : turnsM cs ≤ fct cs.length := by
    unfold turnsM
    rw [← permL_len cs.length (List.range cs.length) List.length_range]
    exact List.length_filter_le _ _
  exact Nat.le_trans h1 (fct8 h8)
/-! ### all turns -/
theorem atI_num {ns : List Nat} {pre post : List Nat} {n : Nat} (e : ns = pre ++ n :: post) : atI (ns.map nD) ((pre.length : Nat) : Int) = some (nD n) := atI_nat (by
  rw [List.getElem?_map, e, List.getElem?_append_right (Nat.le_refl _), Nat.sub_self]; rfl)
theorem read_l_all (d : Nat) : ∀ xs Q, sp_l_all (d + 1) xs Q → w_l_all d { nx := fun _ => Q .non, rt := fun y _ => Q y } (startE N_l_all [] xs) := by
  rintro xs Q ⟨ns, rfl, ⟨hd, h5⟩, q⟩
  have hs := small (n := 130) (by decide)
  refine ⟨Nat.zero_le _, (okD_nums ns).1, rfl, ?_⟩
  show (fun c => if c = true then _ else _) (eqD (.lst (ns.map nD)) (.lst []))
  rw [eqD_nil]
  cases hns : ns with
  | nil =>
    subst hns
    rw [List.map_nil, decide_eq_true rfl]
    exact ⟨Nat.zero_le _, small (n := 1) (by decide), q⟩
  | cons n0 r0 =>
    rw [← hns, decide_eq_false (fun z => by rw [hns] at z; cases z)]
    have hlen : ns.length = r0.length + 1 := by rw [hns]; rfl
    refine ⟨Nat.zero_le _, ?_⟩
    have hml : ((ns.map nD).length : Int) = (ns.length : Int) := by rw [List.length_map]
    refine ⟨⟨by omega, by omega⟩, ?_⟩
    show wLoop (wName 2) _ _ (intsD 0 ((ns.map nD).length : Int).toNat) [.d (.lst (ns.map nD)), .d (.lst ([].map lotD)), .un, .un]
    rw [hml, Int.toNat_natCast, intsD_map]
    have tot : (PRM.blkL (PRM.permL r0.length) [] ns).length ≤ 120 := by
      rw [blkL_len (k := fct r0.length) (permL_len _) ns [] (by rw [List.length_nil]; omega), hlen]
      exact fct5 (m := r0.length + 1) (by omega)
    refine loop_inv (enc := fun k : Nat => .int (k : Nat)) (I := fun pre ρ => ∃ (A : List (List Nat)) (a2 a3 : En), ρ = [.d (.lst (ns.map nD)), .d (.lst (A.map lotD)), a2, a3] ∧ PRM.blkL (PRM.permL r0.length) [] ns = A ++ PRM.blkL (PRM.permL r0.length) (ns.take pre.length) (ns.drop pre.length)) ?_ ?_ _ ⟨[], _, _, rfl, rfl⟩
    · rintro pre k post e K hK ρ ⟨A, a2, a3, rfl, hA⟩
      obtain ⟨_, hk, hk2⟩ := range_at e
      subst hk
      obtain ⟨n, hn⟩ : ∃ n, ns[pre.length]? = some n := ⟨_, List.getElem?_eq_getElem hk2⟩
      have hdr : ns.drop pre.length = n :: ns.drop (pre.length + 1) := by
        rw [List.drop_eq_getElem_cons hk2]
        rw [List.getElem?_eq_getElem hk2] at hn
        rw [Option.some.inj hn]
      have htk : ns.take (pre.length + 1) = ns.take pre.length ++ [n] := by
        rw [List.take_succ, hn]; rfl
      have hat : atI (ns.map nD) ((pre.length : Nat) : Int) = some (nD n) := atI_nat (by rw [List.getElem?_map, hn]; rfl)
      have hl2 : (ns.take pre.length ++ ns.drop (pre.length + 1)).length = r0.length := by
        rw [List.length_append, List.length_take, List.length_drop]; omega
      obtain ⟨d', rfl⟩ : ∃ d', d = d' + 1 := ⟨d - 1, by omega⟩
      refine ⟨by rw [cut_take, List.length_take]; have := cut_len (ns.map nD) (some (((pre.length : Nat) : Int) + 1)) none; rw [List.length_map] at this ⊢; omega, ?_⟩
      have e3 : AL.cutD (ns.map nD) none (some ((pre.length : Nat) : Int)) ++ AL.cutD (ns.map nD) (some (((pre.length : Nat) : Int) + 1)) none = (ns.take pre.length ++ ns.drop (pre.length + 1)).map nD := by
        rw [show (((pre.length : Nat) : Int) + 1) = ((pre.length + 1 : Nat) : Int) from rfl, cut_take, cut_drop (by rw [List.length_map]; omega), List.map_append, List.map_take, List.map_drop]
      refine ⟨ns.take pre.length ++ ns.drop (pre.length + 1), by show [D.lst _] = _; rw [e3], ⟨by omega, by omega⟩, ?_⟩
      rw [hdr, PRM.blkL_cons, ← htk] at hA
      have tot2 := tot
      rw [hA, List.length_append, List.length_append, List.length_map] at tot2
      show wMake _ _ _ _ _ ((PRM.permL (ns.take pre.length ++ ns.drop (pre.length + 1)).length (ns.take pre.length ++ ns.drop (pre.length + 1))).map lotD) [] [.d (.lst (ns.map nD)), .d (.lst (A.map lotD)), .d (.int (pre.length : Nat)), .un]
      rw [hl2]
      refine make_map (enc := lotD) (fun _ => true) (fun s => lotD (n :: s)) _ [] ?_ (by rw [List.length_nil]; omega) ?_
      · intro s hs' C N g1 g2
        have hsl : s.length ≤ 5 := by
          have := ((PRM.mem_permL r0.length (ns.take pre.length ++ ns.drop (pre.length + 1)) hl2 s).mp hs').length_eq
          omega
        refine ⟨_, hat, small (n := 1) (by decide), by rw [List.length_map]; show 1 + s.length ≤ _; omega, ?_⟩
        exact g1 rfl _ rfl
      rw [List.nil_append, filter_true]
      refine ⟨by rw [List.length_map, List.length_map]; omega, ?_⟩
      refine hK _ ⟨A ++ (PRM.permL r0.length (ns.take pre.length ++ ns.drop (pre.length + 1))).map (fun s => n :: s), _, _, by rw [List.map_append, List.map_map]; rfl, ?_⟩
      rw [hA, List.append_assoc, List.length_append]; rfl
    · rintro ρ ⟨A, a2, a3, rfl, hA⟩
      have e : PRM.permL ns.length ns = A := by
        rw [hlen]
        show PRM.blkL (PRM.permL r0.length) [] ns = A
        rw [hA, List.length_range, List.drop_length]
        show A ++ [] = A
        rw [List.append_nil]
      have q' : Q (.lst ((PRM.permL ns.length ns).map lotD)) := q
      rw [e] at q'
      exact q'
end FW
set_option Elab.async false
set_option linter.all false
set_option maxRecDepth 100000
set_option maxHeartbeats 8000000
namespace FW
open PySem PySem.Spec PyProof.Rows L2 AL
/-! ### the law -/
theorem rev_csD (cs : List Cd) : D.tup (cs.map cD).reverse = csD (pick cs (List.range cs.length).reverse) := by
  rw [pick_rev]
  unfold csD
  rw [List.map_reverse]
theorem read_law : ∀ xs Q, sp_law xs Q → w_law { nx := fun _ => Q .non, rt := fun y _ => Q y } (startE N_law [] xs) := by
  rintro xs Q ⟨ns, rfl, hQ⟩
  have hs := small (n := 130) (by decide)
  refine ⟨small (n := 4) (by decide), ?_⟩
  refine ⟨⟨by decide, by decide⟩, ?_⟩
  show wLoop _ _ _ (intsD 0 (2 : Int).toNat) _
  rw [intsD_map]
  refine loop_inv (enc := fun k : Nat => .int (k : Nat)) (I := fun pre ρ => ∃ (row : List D) (a2 a3 a4 a5 a6 a7 a8 a9 a10 a11 a12 a13 a14 a15 a16 a17 : En), ρ = [.d (.scr ns), .own false row, a2, a3, a4, a5, a6, a7, a8, a9, a10, a11, a12, a13, a14, a15, a16, a17] ∧ isRow row) ?_ ?_ _ ⟨_, _, _, _, _, _, _, _, _, _, _, _, _, _, _, _, _, rfl, ⟨ns, 0, 0, 0, rfl, Int.le_refl _⟩⟩
  · rintro pre k0 post e K0 hK0 ρ ⟨row, a2, a3, a4, a5, a6, a7, a8, a9, a10, a11, a12, a13, a14, a15, a16, a17, rfl, hrow⟩
    refine ⟨hrow, 0, 5, rfl, by decide, by decide, by decide, fun cs row0 G l0 l1 hrow0 => ?_⟩
    have h5 : cs.length ≤ 5 := by omega
    refine ⟨cs, rfl, G, fun t qs hL => ?_⟩
    have ht := longestR_best G hL
    subst ht
    refine ⟨_, rfl, ?_⟩
    have hlen : ((cs.map cD).length : Int) = (cs.length : Int) := by rw [List.length_map]
    refine ⟨⟨by omega, by show ((cs.map cD).length : Int) ≤ 1000; omega⟩, ?_⟩
    have e0 : intsD 0 ((cs.map cD).length : Int).toNat = (List.range cs.length).map nD := by rw [hlen, Int.toNat_natCast, intsD_map]; rfl
    refine ⟨List.range cs.length, by show [D.lst (intsD 0 ((cs.map cD).length : Int).toNat)] = _; rw [e0], ⟨by show (List.range cs.length).length ≤ 5; rw [List.length_range]; omega, by rw [List.length_range]; omega⟩, ?_⟩
    have hpl := permL_len cs.length (List.range cs.length) List.length_range
    have h120 := fct5 (m := cs.length) h5
    have hm := fun t => PRM.mem_permL cs.length (List.range cs.length) List.length_range t
    refine ⟨small (n := 2) (by decide), rfl, ?_⟩
    have hpl2 : PRM.permL (List.range cs.length).length (List.range cs.length) = PRM.permL cs.length (List.range cs.length) := by rw [List.length_range]
    show wMake _ _ _ _ _ ((PRM.permL (List.range cs.length).length (List.range cs.length)).map lotD) [] [.d (.scr ns), .own false row0, .d (.int (k0 : Nat)), .d (csD cs), .d (.int (best cs)), .d (.lst ((PRM.permL (List.range cs.length).length (List.range cs.length)).map lotD)), a6, .un, a8, a9, a10, a11, a12, a13, a14, a15, a16, a17]
    rw [hpl2]
    refine make_map (enc := lotD) (fun _ => true) (fun t => .int (turnM cs t).1) _ [] ?_ (by rw [List.length_nil]; omega) ?_
    · intro t ht C N g1 g2
      have hp := (hm t).mp ht
      refine ⟨cs, t, rfl, G, hp.nodup_iff.mpr List.nodup_range, fun n hn => List.mem_range.mp (hp.mem_iff.mp hn), fun qs _ _ => ?_⟩
      refine ⟨_, rfl, ?_⟩
      exact g1 rfl _ rfl
    rw [List.nil_append, filter_true, map_ints]
    have hcount := ends_count cs
    have htop := fun m h1 h2 => ends_top G (m := m) h1 h2
    have hpos : 0 < ((PRM.permL cs.length (List.range cs.length)).map fun t => (turnM cs t).1).length := by
      rw [List.length_map]
      exact List.length_pos_of_mem ((hm (List.range cs.length)).mpr (List.Perm.refl _))
    have hle : ((PRM.permL cs.length (List.range cs.length)).map fun t => (turnM cs t).1).length ≤ 120 := by
      rw [List.length_map, hpl]; exact h120
    clear hpl2
    generalize ((PRM.permL cs.length (List.range cs.length)).map fun t => (turnM cs t).1) = E at hcount htop hpos hle
    refine ⟨cs, rfl, G, by omega, ?_⟩
    refine make_map (enc := D.int) (fun e => decide (e = best cs)) D.int E [] ?_ (by rw [List.length_nil]; omega) ?_
    · intro e he C N g1 g2
      refine ⟨rfl, rfl, ?_⟩
      show (fun c => if c = true then _ else _) (eqD (.int e) (.int (best cs)))
      rw [eqD_int]
      by_cases z : e = best cs
      · rw [decide_eq_true z]
        exact g1 (decide_eq_true z) _ rfl
      · rw [decide_eq_false z]
        exact g2 (decide_eq_false z) _ rfl
    rw [List.nil_append]
    have hc2 : (((E.filter fun e => decide (e = best cs)).map D.int).length : Int) = (turnsM cs : Int) := by
      rw [List.length_map, ← hcount, List.count, List.countP_eq_length_filter]
      congr 2
    refine ⟨rfl, rfl, ?_⟩
    show (fun c => if c = true then _ else _) (!eqD (.int (turnsM cs : Int)) (.int (((E.filter fun e => decide (e = best cs)).map D.int).length : Int)))
    rw [hc2, eqD_int, decide_eq_true rfl]
    refine ⟨_, rfl, hpos, fun m h1 h2 => ?_⟩
    obtain rfl := htop m h1 h2
    refine ⟨rfl, rfl, ?_⟩
    show (fun c => if c = true then _ else _) (!eqD (.int (best cs)) (.int (best cs)))
    rw [eqD_int, decide_eq_true rfl]
    refine ⟨pick cs (List.range cs.length).reverse, by show [D.tup _] = _; rw [rev_csD], ord_goods G (rev_perm _), by rw [pick_len, List.length_reverse, List.length_range]; omega, ?_⟩
    refine ⟨cs, rfl, G, by omega, ?_⟩
    rw [turns_ord G (rev_perm _)]
    refine ⟨rfl, rfl, ?_⟩
    show (fun c => if c = true then _ else _) (!eqD (.int (turnsM cs : Int)) (.int (turnsM cs : Int)))
    rw [eqD_int, decide_eq_true rfl]
    refine ⟨hrow0, 6, 8, rfl, by decide, by decide, by decide, fun ds row2 G2 m0 m1 hrow2 => ?_⟩
    have h8 : ds.length ≤ 8 := by omega
    refine ⟨ds, rfl, G2, h8, ?_⟩
    have t1 := turns_some G2
    have t2 := turns_most h8
    show (fun b => if b = true then _ else _) (decide ((1 : Int) ≤ (turnsM ds : Int)))
    rw [decide_eq_true (show (1 : Int) ≤ (turnsM ds : Int) by omega)]
    show (fun b => if b = true then _ else _) (!decide ((turnsM ds : Int) ≤ 40320))
    rw [decide_eq_true (show (turnsM ds : Int) ≤ 40320 by omega)]
    refine make_map (enc := cD) (fun _ => true) (fun c => cD (c.1, 999, c.2.2)) ds [] ?_ (by rw [List.length_nil]; omega) ?_
    · intro c hc C N g1 g2
      refine ⟨rfl, ?_⟩
      exact ⟨small (n := 3) (by decide), g1 rfl _ rfl⟩
    rw [List.nil_append, filter_true]
    have el : D.tup (ds.map fun c => cD (c.1, 999, c.2.2)) = csD (longC ds) := by unfold csD longC; rw [List.map_map]; rfl
    refine ⟨longC ds, by show [D.tup _] = _; rw [el], long_goods G2, fun t qs hL2 => ?_⟩
    have ht := longestR_best (long_goods G2) hL2
    rw [long_best G2 h8] at ht
    subst ht
    refine ⟨_, rfl, ?_⟩
    refine make_map (enc := cD) (fun _ => true) (fun c => .int c.1) ds [] ?_ (by rw [List.length_nil]; omega) ?_
    · intro c hc C N g1 g2
      refine ⟨_, rfl, ?_⟩
      exact g1 rfl _ rfl
    rw [List.nil_append, filter_true, map_ints]
    refine ⟨_, rfl, ?_⟩
    refine ⟨rfl, rfl, ?_⟩
    show (fun c => if c = true then _ else _) (!eqD (.int (ds.map (·.1)).sum) (.int (ds.map (·.1)).sum))
    rw [eqD_int, decide_eq_true rfl]
    have hlen2 : ((ds.map cD).length : Int) = (ds.length : Int) := by rw [List.length_map]
    refine ⟨⟨by omega, by omega⟩, ?_⟩
    show wLoop (wName 17) _ _ (intsD 0 ((ds.map cD).length : Int).toNat) _
    rw [hlen2, Int.toNat_natCast, intsD_map]
    refine loop_inv (enc := fun k : Nat => .int (k : Nat)) (I := fun pre ρ => ∃ (a2 a3 a4 a5 a6 a7 a8 a9 a12 a13 a14 a15 a17 : En), ρ = [.d (.scr ns), .own false row2, a2, a3, a4, a5, a6, a7, a8, a9, .d (csD ds), .d (csD (longC ds)), a12, a13, a14, a15, .d (.int (fct pre.length : Nat)), a17]) ?_ ?_ _ ⟨_, _, _, _, _, _, _, _, _, _, _, _, _, by rw [el]; rfl⟩
    · rintro pre k post e K hK ρ ⟨a2, a3, a4, a5, a6, a7, a8, a9, a12, a13, a14, a15, a17, rfl⟩
      obtain ⟨_, hk, hk2⟩ := range_at e
      subst hk
      refine ⟨.inr ⟨by omega, by omega⟩, ?_⟩
      refine hK _ ⟨a2, a3, a4, a5, a6, a7, a8, a9, a12, a13, a14, a15, .d (.int (pre.length : Nat)), ?_⟩
      have ef : ((fct pre.length : Nat) : Int) * (((pre.length : Nat) : Int) + 1) = ((fct (pre ++ [pre.length]).length : Nat) : Int) := by
        rw [List.length_append]
        show _ = (((pre.length + 1) * fct pre.length : Nat) : Int)
        rw [Int.natCast_mul, Int.mul_comm]; rfl
      rw [← ef]; rfl
    · rintro ρ ⟨a2, a3, a4, a5, a6, a7, a8, a9, a12, a13, a14, a15, a17, rfl⟩
      rw [List.length_range]
      refine ⟨longC ds, rfl, long_goods G2, by rw [long_len]; omega, ?_⟩
      rw [long_turns G2 h8]
      refine ⟨rfl, rfl, ?_⟩
      show (fun c => if c = true then _ else _) (!eqD (.int (fct ds.length : Nat)) (.int (fct ds.length : Nat)))
      rw [eqD_int, decide_eq_true rfl]
      exact hK0 _ ⟨row2, _, _, _, _, _, _, _, _, _, _, _, _, _, _, _, _, rfl, hrow2⟩
  · rintro ρ ⟨row, a2, a3, a4, a5, a6, a7, a8, a9, a10, a11, a12, a13, a14, a15, a16, a17, rfl, hrow⟩
    exact hQ
end FW
set_option Elab.async false
set_option linter.all false
set_option maxRecDepth 100000
set_option maxHeartbeats 4000000
namespace FW
open PySem PySem.Spec PyProof.Rows L2 AL
section
variable {P : Program} {w : World} {K : PySem.W.Frag} {mg : Str → Option Value} {base : Heap}
theorem ok_is_whole (z : Zs mg)  (dn : Dn K mg "is_whole" p_is_whole s_is_whole) : Ok P w K mg base 1 "is_whole" p_is_whole (liftSp K sp_is_whole) := by
  obtain ⟨f, fd, F, m, B⟩ := dn.ex
  exact ⟨f, fd, fn_ok F sc_is_whole (by rintro _ _ h; first | (obtain ⟨_, rfl, _⟩ := h; rfl) | (obtain ⟨_, _, rfl, _⟩ := h; rfl) | (obtain ⟨_, _, _, rfl, _⟩ := h; rfl) | (obtain ⟨_, _, _, _, rfl, _⟩ := h; rfl) | (obtain ⟨_, _, _, _, _, rfl, _⟩ := h; rfl) | (obtain ⟨_, _, _, _, _, _, rfl, _⟩ := h; rfl)) (fun cdv A outer s₀ H E M W H0 T _ hr => b_is_whole z  f cdv A outer s₀ H E M W H0 T hr) read_is_whole, m, F.kp, B⟩
theorem ok_is_within (z : Zs mg) (h_is_whole : Ok P w K mg base 1 "is_whole" p_is_whole (liftSp K sp_is_whole)) (dn : Dn K mg "is_within" p_is_within s_is_within) : Ok P w K mg base 2 "is_within" p_is_within (liftSp K sp_is_within) := by
  obtain ⟨f, fd, F, m, B⟩ := dn.ex
  exact ⟨f, fd, fn_ok F sc_is_within (by rintro _ _ h; first | (obtain ⟨_, rfl, _⟩ := h; rfl) | (obtain ⟨_, _, rfl, _⟩ := h; rfl) | (obtain ⟨_, _, _, rfl, _⟩ := h; rfl) | (obtain ⟨_, _, _, _, rfl, _⟩ := h; rfl) | (obtain ⟨_, _, _, _, _, rfl, _⟩ := h; rfl) | (obtain ⟨_, _, _, _, _, _, rfl, _⟩ := h; rfl)) (fun cdv A outer s₀ H E M W H0 T _ hr => b_is_within z h_is_whole f cdv A outer s₀ H E M W H0 T hr) read_is_within, m, F.kp, B⟩
theorem ok_is_candle (z : Zs mg) (h_is_within : Ok P w K mg base 2 "is_within" p_is_within (liftSp K sp_is_within)) (dn : Dn K mg "is_candle" p_is_candle s_is_candle) : Ok P w K mg base 3 "is_candle" p_is_candle (liftSp K sp_is_candle) := by
  obtain ⟨f, fd, F, m, B⟩ := dn.ex
  exact ⟨f, fd, fn_ok F sc_is_candle (by rintro _ _ h; first | (obtain ⟨_, rfl, _⟩ := h; rfl) | (obtain ⟨_, _, rfl, _⟩ := h; rfl) | (obtain ⟨_, _, _, rfl, _⟩ := h; rfl) | (obtain ⟨_, _, _, _, rfl, _⟩ := h; rfl) | (obtain ⟨_, _, _, _, _, rfl, _⟩ := h; rfl) | (obtain ⟨_, _, _, _, _, _, rfl, _⟩ := h; rfl)) (fun cdv A outer s₀ H E M W H0 T _ hr => b_is_candle z h_is_within f cdv A outer s₀ H E M W H0 T hr) read_is_candle, m, F.kp, B⟩
theorem ok_check_candles (z : Zs mg) (h_is_candle : Ok P w K mg base 3 "is_candle" p_is_candle (liftSp K sp_is_candle)) (dn : Dn K mg "check_candles" p_check_candles s_check_candles) : Ok P w K mg base 4 "check_candles" p_check_candles (liftSp K sp_check_candles) := by
  obtain ⟨f, fd, F, m, B⟩ := dn.ex
  exact ⟨f, fd, fn_ok F sc_check_candles (by rintro _ _ h; first | (obtain ⟨_, rfl, _⟩ := h; rfl) | (obtain ⟨_, _, rfl, _⟩ := h; rfl) | (obtain ⟨_, _, _, rfl, _⟩ := h; rfl) | (obtain ⟨_, _, _, _, rfl, _⟩ := h; rfl) | (obtain ⟨_, _, _, _, _, rfl, _⟩ := h; rfl) | (obtain ⟨_, _, _, _, _, _, rfl, _⟩ := h; rfl)) (fun cdv A outer s₀ H E M W H0 T _ hr => b_check_candles z h_is_candle f cdv A outer s₀ H E M W H0 T hr) read_check_candles, m, F.kp, B⟩
theorem ok_check_few (z : Zs mg)  (dn : Dn K mg "check_few" p_check_few s_check_few) : Ok P w K mg base 1 "check_few" p_check_few (liftSp K sp_check_few) := by
  obtain ⟨f, fd, F, m, B⟩ := dn.ex
  exact ⟨f, fd, fn_ok F sc_check_few (by rintro _ _ h; first | (obtain ⟨_, rfl, _⟩ := h; rfl) | (obtain ⟨_, _, rfl, _⟩ := h; rfl) | (obtain ⟨_, _, _, rfl, _⟩ := h; rfl) | (obtain ⟨_, _, _, _, rfl, _⟩ := h; rfl) | (obtain ⟨_, _, _, _, _, rfl, _⟩ := h; rfl) | (obtain ⟨_, _, _, _, _, _, rfl, _⟩ := h; rfl)) (fun cdv A outer s₀ H E M W H0 T _ hr => b_check_few z  f cdv A outer s₀ H E M W H0 T hr) read_check_few, m, F.kp, B⟩
theorem ok_lit_in_turn (z : Zs mg)  (dn : Dn K mg "lit_in_turn" p_lit_in_turn s_lit_in_turn) : Ok P w K mg base 1 "lit_in_turn" p_lit_in_turn (liftSp K sp_lit_in_turn) := by
  obtain ⟨f, fd, F, m, B⟩ := dn.ex
  exact ⟨f, fd, fn_ok F sc_lit_in_turn (by rintro _ _ h; first | (obtain ⟨_, rfl, _⟩ := h; rfl) | (obtain ⟨_, _, rfl, _⟩ := h; rfl) | (obtain ⟨_, _, _, rfl, _⟩ := h; rfl) | (obtain ⟨_, _, _, _, rfl, _⟩ := h; rfl) | (obtain ⟨_, _, _, _, _, rfl, _⟩ := h; rfl) | (obtain ⟨_, _, _, _, _, _, rfl, _⟩ := h; rfl)) (fun cdv A outer s₀ H E M W H0 T _ hr => b_lit_in_turn z  f cdv A outer s₀ H E M W H0 T hr) read_lit_in_turn, m, F.kp, B⟩
theorem ok_latest_end (z : Zs mg)  (dn : Dn K mg "latest_end" p_latest_end s_latest_end) : Ok P w K mg base 1 "latest_end" p_latest_end (liftSp K sp_latest_end) := by
  obtain ⟨f, fd, F, m, B⟩ := dn.ex
  exact ⟨f, fd, fn_ok F sc_latest_end (by rintro _ _ h; first | (obtain ⟨_, rfl, _⟩ := h; rfl) | (obtain ⟨_, _, rfl, _⟩ := h; rfl) | (obtain ⟨_, _, _, rfl, _⟩ := h; rfl) | (obtain ⟨_, _, _, _, rfl, _⟩ := h; rfl) | (obtain ⟨_, _, _, _, _, rfl, _⟩ := h; rfl) | (obtain ⟨_, _, _, _, _, _, rfl, _⟩ := h; rfl)) (fun cdv A outer s₀ H E M W H0 T _ hr => b_latest_end z  f cdv A outer s₀ H E M W H0 T hr) read_latest_end, m, F.kp, B⟩
theorem ok_by_latest_end (z : Zs mg) (h_latest_end : Ok P w K mg base 1 "latest_end" p_latest_end (liftSp K sp_latest_end)) (dn : Dn K mg "by_latest_end" p_by_latest_end s_by_latest_end) : Ok P w K mg base 2 "by_latest_end" p_by_latest_end (liftSp K sp_by_latest_end) := by
  obtain ⟨f, fd, F, m, B⟩ := dn.ex
  exact ⟨f, fd, fn_ok F sc_by_latest_end (by rintro _ _ h; first | (obtain ⟨_, rfl, _⟩ := h; rfl) | (obtain ⟨_, _, rfl, _⟩ := h; rfl) | (obtain ⟨_, _, _, rfl, _⟩ := h; rfl) | (obtain ⟨_, _, _, _, rfl, _⟩ := h; rfl) | (obtain ⟨_, _, _, _, _, rfl, _⟩ := h; rfl) | (obtain ⟨_, _, _, _, _, _, rfl, _⟩ := h; rfl)) (fun cdv A outer s₀ H E M W H0 T _ hr => b_by_latest_end z h_latest_end f cdv A outer s₀ H E M W H0 T hr) read_by_latest_end, m, F.kp, B⟩
theorem ok_longest_from (z : Zs mg) (h_by_latest_end : Ok P w K mg base 2 "by_latest_end" p_by_latest_end (liftSp K sp_by_latest_end)) (h_lit_in_turn : Ok P w K mg base 1 "lit_in_turn" p_lit_in_turn (liftSp K sp_lit_in_turn)) (dn : Dn K mg "longest_from" p_longest_from s_longest_from) : Ok P w K mg base 3 "longest_from" p_longest_from (liftSp K sp_longest_from) := by
  obtain ⟨f, fd, F, m, B⟩ := dn.ex
  exact ⟨f, fd, fn_ok F sc_longest_from (by rintro _ _ h; first | (obtain ⟨_, rfl, _⟩ := h; rfl) | (obtain ⟨_, _, rfl, _⟩ := h; rfl) | (obtain ⟨_, _, _, rfl, _⟩ := h; rfl) | (obtain ⟨_, _, _, _, rfl, _⟩ := h; rfl) | (obtain ⟨_, _, _, _, _, rfl, _⟩ := h; rfl) | (obtain ⟨_, _, _, _, _, _, rfl, _⟩ := h; rfl)) (fun cdv A outer s₀ H E M W H0 T _ hr => b_longest_from z h_by_latest_end h_lit_in_turn f cdv A outer s₀ H E M W H0 T hr) read_longest_from, m, F.kp, B⟩
theorem ok_longest_of (z : Zs mg) (h_longest_from : Ok P w K mg base 3 "longest_from" p_longest_from (liftSp K sp_longest_from)) (dn : Dn K mg "longest_of" p_longest_of s_longest_of) : Ok P w K mg base 4 "longest_of" p_longest_of (liftSp K sp_longest_of) := by
  obtain ⟨f, fd, F, m, B⟩ := dn.ex
  exact ⟨f, fd, fn_ok F sc_longest_of (by rintro _ _ h; first | (obtain ⟨_, rfl, _⟩ := h; rfl) | (obtain ⟨_, _, rfl, _⟩ := h; rfl) | (obtain ⟨_, _, _, rfl, _⟩ := h; rfl) | (obtain ⟨_, _, _, _, rfl, _⟩ := h; rfl) | (obtain ⟨_, _, _, _, _, rfl, _⟩ := h; rfl) | (obtain ⟨_, _, _, _, _, _, rfl, _⟩ := h; rfl)) (fun cdv A outer s₀ H E M W H0 T _ hr => b_longest_of z h_longest_from f cdv A outer s₀ H E M W H0 T hr) read_longest_of, m, F.kp, B⟩
theorem ok_all_numbers (z : Zs mg)  (dn : Dn K mg "all_numbers" p_all_numbers s_all_numbers) : Ok P w K mg base 1 "all_numbers" p_all_numbers (liftSp K sp_all_numbers) := by
  obtain ⟨f, fd, F, m, B⟩ := dn.ex
  exact ⟨f, fd, fn_ok F sc_all_numbers (by rintro _ _ h; first | (obtain ⟨_, rfl, _⟩ := h; rfl) | (obtain ⟨_, _, rfl, _⟩ := h; rfl) | (obtain ⟨_, _, _, rfl, _⟩ := h; rfl) | (obtain ⟨_, _, _, _, rfl, _⟩ := h; rfl) | (obtain ⟨_, _, _, _, _, rfl, _⟩ := h; rfl) | (obtain ⟨_, _, _, _, _, _, rfl, _⟩ := h; rfl)) (fun cdv A outer s₀ H E M W H0 T _ hr => b_all_numbers z  f cdv A outer s₀ H E M W H0 T hr) read_all_numbers, m, F.kp, B⟩
theorem ok_turns (z : Zs mg) (h_all_numbers : Ok P w K mg base 1 "all_numbers" p_all_numbers (liftSp K sp_all_numbers)) (h_check_candles : Ok P w K mg base 4 "check_candles" p_check_candles (liftSp K sp_check_candles)) (h_check_few : Ok P w K mg base 1 "check_few" p_check_few (liftSp K sp_check_few)) (h_lit_in_turn : Ok P w K mg base 1 "lit_in_turn" p_lit_in_turn (liftSp K sp_lit_in_turn)) (h_longest_of : Ok P w K mg base 4 "longest_of" p_longest_of (liftSp K sp_longest_of)) (dn : Dn K mg "turns" p_turns s_turns) : Ok P w K mg base 5 "turns" p_turns (liftSp K sp_turns) := by
  obtain ⟨f, fd, F, m, B⟩ := dn.ex
  exact ⟨f, fd, fn_ok F sc_turns (by rintro _ _ h; first | (obtain ⟨_, rfl, _⟩ := h; rfl) | (obtain ⟨_, _, rfl, _⟩ := h; rfl) | (obtain ⟨_, _, _, rfl, _⟩ := h; rfl) | (obtain ⟨_, _, _, _, rfl, _⟩ := h; rfl) | (obtain ⟨_, _, _, _, _, rfl, _⟩ := h; rfl) | (obtain ⟨_, _, _, _, _, _, rfl, _⟩ := h; rfl)) (fun cdv A outer s₀ H E M W H0 T _ hr => b_turns z h_all_numbers h_check_candles h_check_few h_lit_in_turn h_longest_of f cdv A outer s₀ H E M W H0 T hr) read_turns, m, F.kp, B⟩
theorem ok_planned (z : Zs mg) (h_lit_in_turn : Ok P w K mg base 1 "lit_in_turn" p_lit_in_turn (liftSp K sp_lit_in_turn)) (dn : Dn K mg "planned" p_planned s_planned) : Ok P w K mg base 2 "planned" p_planned (liftSp K sp_planned) := by
  obtain ⟨f, fd, F, m, B⟩ := dn.ex
  exact ⟨f, fd, fn_ok F sc_planned (by rintro _ _ h; first | (obtain ⟨_, rfl, _⟩ := h; rfl) | (obtain ⟨_, _, rfl, _⟩ := h; rfl) | (obtain ⟨_, _, _, rfl, _⟩ := h; rfl) | (obtain ⟨_, _, _, _, rfl, _⟩ := h; rfl) | (obtain ⟨_, _, _, _, _, rfl, _⟩ := h; rfl) | (obtain ⟨_, _, _, _, _, _, rfl, _⟩ := h; rfl)) (fun cdv A outer s₀ H E M W H0 T _ hr => b_planned z h_lit_in_turn f cdv A outer s₀ H E M W H0 T hr) read_planned, m, F.kp, B⟩
theorem ok_longest (z : Zs mg) (h_all_numbers : Ok P w K mg base 1 "all_numbers" p_all_numbers (liftSp K sp_all_numbers)) (h_by_latest_end : Ok P w K mg base 2 "by_latest_end" p_by_latest_end (liftSp K sp_by_latest_end)) (h_check_candles : Ok P w K mg base 4 "check_candles" p_check_candles (liftSp K sp_check_candles)) (h_planned : Ok P w K mg base 2 "planned" p_planned (liftSp K sp_planned)) (dn : Dn K mg "longest" p_longest s_longest) : Ok P w K mg base 5 "longest" p_longest (liftSp K sp_longest) := by
  obtain ⟨f, fd, F, m, B⟩ := dn.ex
  exact ⟨f, fd, fn_ok F sc_longest (by rintro _ _ h; first | (obtain ⟨_, rfl, _⟩ := h; rfl) | (obtain ⟨_, _, rfl, _⟩ := h; rfl) | (obtain ⟨_, _, _, rfl, _⟩ := h; rfl) | (obtain ⟨_, _, _, _, rfl, _⟩ := h; rfl) | (obtain ⟨_, _, _, _, _, rfl, _⟩ := h; rfl) | (obtain ⟨_, _, _, _, _, _, rfl, _⟩ := h; rfl)) (fun cdv A outer s₀ H E M W H0 T _ hr => b_longest z h_all_numbers h_by_latest_end h_check_candles h_planned f cdv A outer s₀ H E M W H0 T hr) read_longest, m, F.kp, B⟩
theorem ok_is_candle_number (z : Zs mg) (h_is_within : Ok P w K mg base 2 "is_within" p_is_within (liftSp K sp_is_within)) (dn : Dn K mg "is_candle_number" p_is_candle_number s_is_candle_number) : Ok P w K mg base 3 "is_candle_number" p_is_candle_number (liftSp K sp_is_candle_number) := by
  obtain ⟨f, fd, F, m, B⟩ := dn.ex
  exact ⟨f, fd, fn_ok F sc_is_candle_number (by rintro _ _ h; first | (obtain ⟨_, rfl, _⟩ := h; rfl) | (obtain ⟨_, _, rfl, _⟩ := h; rfl) | (obtain ⟨_, _, _, rfl, _⟩ := h; rfl) | (obtain ⟨_, _, _, _, rfl, _⟩ := h; rfl) | (obtain ⟨_, _, _, _, _, rfl, _⟩ := h; rfl) | (obtain ⟨_, _, _, _, _, _, rfl, _⟩ := h; rfl)) (fun cdv A outer s₀ H E M W H0 T _ hr => b_is_candle_number z h_is_within f cdv A outer s₀ H E M W H0 T hr) read_is_candle_number, m, F.kp, B⟩
theorem ok_check_turn (z : Zs mg) (h_is_candle_number : Ok P w K mg base 3 "is_candle_number" p_is_candle_number (liftSp K sp_is_candle_number)) (dn : Dn K mg "check_turn" p_check_turn s_check_turn) : Ok P w K mg base 4 "check_turn" p_check_turn (liftSp K sp_check_turn) := by
  obtain ⟨f, fd, F, m, B⟩ := dn.ex
  exact ⟨f, fd, fn_ok F sc_check_turn (by rintro _ _ h; first | (obtain ⟨_, rfl, _⟩ := h; rfl) | (obtain ⟨_, _, rfl, _⟩ := h; rfl) | (obtain ⟨_, _, _, rfl, _⟩ := h; rfl) | (obtain ⟨_, _, _, _, rfl, _⟩ := h; rfl) | (obtain ⟨_, _, _, _, _, rfl, _⟩ := h; rfl) | (obtain ⟨_, _, _, _, _, _, rfl, _⟩ := h; rfl)) (fun cdv A outer s₀ H E M W H0 T _ hr => b_check_turn z h_is_candle_number f cdv A outer s₀ H E M W H0 T hr) read_check_turn, m, F.kp, B⟩
theorem ok_by_turn (z : Zs mg) (h_check_candles : Ok P w K mg base 4 "check_candles" p_check_candles (liftSp K sp_check_candles)) (h_check_turn : Ok P w K mg base 4 "check_turn" p_check_turn (liftSp K sp_check_turn)) (h_planned : Ok P w K mg base 2 "planned" p_planned (liftSp K sp_planned)) (dn : Dn K mg "by_turn" p_by_turn s_by_turn) : Ok P w K mg base 5 "by_turn" p_by_turn (liftSp K sp_by_turn) := by
  obtain ⟨f, fd, F, m, B⟩ := dn.ex
  exact ⟨f, fd, fn_ok F sc_by_turn (by rintro _ _ h; first | (obtain ⟨_, rfl, _⟩ := h; rfl) | (obtain ⟨_, _, rfl, _⟩ := h; rfl) | (obtain ⟨_, _, _, rfl, _⟩ := h; rfl) | (obtain ⟨_, _, _, _, rfl, _⟩ := h; rfl) | (obtain ⟨_, _, _, _, _, rfl, _⟩ := h; rfl) | (obtain ⟨_, _, _, _, _, _, rfl, _⟩ := h; rfl)) (fun cdv A outer s₀ H E M W H0 T _ hr => b_by_turn z h_check_candles h_check_turn h_planned f cdv A outer s₀ H E M W H0 T hr) read_by_turn, m, F.kp, B⟩
theorem ok_l_taken (z : Zs mg)  (dn : Dn K mg "_law_taken" p_l_taken s_l_taken) : Ok P w K mg base 1 "_law_taken" p_l_taken (liftRw K sp_l_taken) := by
  obtain ⟨f, fd, F, m, B⟩ := dn.ex
  exact ⟨f, fd, fn_okR F sc_l_taken (by rintro _ _ _ ⟨_, _, rfl, _⟩; rfl) (fun _ _ _ _ _ _ => trivial) (fun cdv A outer s₀ H E M W H0 T _ hr => b_l_taken z  f cdv A outer s₀ H E M W H0 T hr) read_l_taken, m, F.kp, B⟩
theorem ok_l_candles (z : Zs mg) (h_l_taken : Ok P w K mg base 1 "_law_taken" p_l_taken (liftRw K sp_l_taken)) (dn : Dn K mg "_law_candles" p_l_candles s_l_candles) : Ok P w K mg base 2 "_law_candles" p_l_candles (liftRw K sp_l_candles) := by
  obtain ⟨f, fd, F, m, B⟩ := dn.ex
  exact ⟨f, fd, fn_okR F sc_l_candles (by rintro _ _ _ ⟨_, _, _, rfl, _⟩; rfl) (fun _ _ _ _ _ _ => trivial) (fun cdv A outer s₀ H E M W H0 T _ hr => b_l_candles z h_l_taken f cdv A outer s₀ H E M W H0 T hr) read_l_candles, m, F.kp, B⟩
theorem ok_l_all (z : Zs mg) (dn : Dn K mg "_law_all" p_l_all s_l_all) : ∀ d : Nat, Ok P w K mg base d "_law_all" p_l_all (liftSp K (sp_l_all d))
  | 0 => by
    obtain ⟨f, fd, F, m, B⟩ := dn.ex
    exact ⟨f, fd, ⟨(fun vs H Q E h => by obtain ⟨M, xs, _, r, a, rfl, ha, _⟩ := h; exact ha.elim), fun A outer s H args us vs Q E _ _ _ _ h => by obtain ⟨M, xs, _, r, a, rfl, ha, _⟩ := h; exact ha.elim⟩, m, F.kp, B⟩
  | d + 1 => by
    obtain ⟨f, fd, F, m, B⟩ := dn.ex
    exact ⟨f, fd, fn_ok F sc_l_all (by rintro _ _ ⟨_, rfl, _⟩; rfl) (fun cdv A outer s₀ H E M W H0 T _ hr => b_l_all z (ok_l_all z dn d) f cdv A outer s₀ H E M W H0 T hr) (read_l_all d), m, F.kp, B⟩
theorem ok_law (z : Zs mg) (h_l_all : Ok P w K mg base 6 "_law_all" p_l_all (liftSp K (sp_l_all 6))) (h_l_candles : Ok P w K mg base 2 "_law_candles" p_l_candles (liftRw K sp_l_candles)) (h_by_turn : Ok P w K mg base 5 "by_turn" p_by_turn (liftSp K sp_by_turn)) (h_longest : Ok P w K mg base 5 "longest" p_longest (liftSp K sp_longest)) (h_turns : Ok P w K mg base 5 "turns" p_turns (liftSp K sp_turns)) {f : Addr} {fd : FuncData} (F : Fun K "law" "law" s_law f fd) : FnOk P w K mg base CX0 7 f fd p_law (liftSp K sp_law) :=
  fn_ok F sc_law (by rintro _ _ h; first | (obtain ⟨_, rfl, _⟩ := h; rfl) | (obtain ⟨_, _, rfl, _⟩ := h; rfl) | (obtain ⟨_, _, _, rfl, _⟩ := h; rfl) | (obtain ⟨_, _, _, _, rfl, _⟩ := h; rfl) | (obtain ⟨_, _, _, _, _, rfl, _⟩ := h; rfl) | (obtain ⟨_, _, _, _, _, _, rfl, _⟩ := h; rfl)) (fun cdv A outer s₀ H E M W H0 T _ hr => b_law z h_l_all h_l_candles h_by_turn h_longest h_turns f cdv A outer s₀ H E M W H0 T hr) read_law
theorem all_ok (z : Zs mg) (dn_is_whole : Dn K mg "is_whole" p_is_whole s_is_whole) (dn_is_within : Dn K mg "is_within" p_is_within s_is_within) (dn_is_candle : Dn K mg "is_candle" p_is_candle s_is_candle) (dn_check_candles : Dn K mg "check_candles" p_check_candles s_check_candles) (dn_check_few : Dn K mg "check_few" p_check_few s_check_few) (dn_lit_in_turn : Dn K mg "lit_in_turn" p_lit_in_turn s_lit_in_turn) (dn_latest_end : Dn K mg "latest_end" p_latest_end s_latest_end) (dn_by_latest_end : Dn K mg "by_latest_end" p_by_latest_end s_by_latest_end) (dn_longest_from : Dn K mg "longest_from" p_longest_from s_longest_from) (dn_longest_of : Dn K mg "longest_of" p_longest_of s_longest_of) (dn_all_numbers : Dn K mg "all_numbers" p_all_numbers s_all_numbers) (dn_turns : Dn K mg "turns" p_turns s_turns) (dn_planned : Dn K mg "planned" p_planned s_planned) (dn_longest : Dn K mg "longest" p_longest s_longest) (dn_is_candle_number : Dn K mg "is_candle_number" p_is_candle_number s_is_candle_number) (dn_check_turn : Dn K mg "check_turn" p_check_turn s_check_turn) (dn_by_turn : Dn K mg "by_turn" p_by_turn s_by_turn) (dn_l_taken : Dn K mg "_law_taken" p_l_taken s_l_taken) (dn_l_candles : Dn K mg "_law_candles" p_l_candles s_l_candles) (dn_l_all : Dn K mg "_law_all" p_l_all s_l_all) {f : Addr} {fd : FuncData} (F : Fun K "law" "law" s_law f fd) : FnOk P w K mg base CX0 7 f fd p_law (liftSp K sp_law) := by
  have o_is_whole := ok_is_whole (P := P) (w := w) (base := base) z  dn_is_whole
  have o_is_within := ok_is_within (P := P) (w := w) (base := base) z o_is_whole dn_is_within
  have o_is_candle := ok_is_candle (P := P) (w := w) (base := base) z o_is_within dn_is_candle
  have o_check_candles := ok_check_candles (P := P) (w := w) (base := base) z o_is_candle dn_check_candles
  have o_check_few := ok_check_few (P := P) (w := w) (base := base) z  dn_check_few
  have o_lit_in_turn := ok_lit_in_turn (P := P) (w := w) (base := base) z  dn_lit_in_turn
  have o_latest_end := ok_latest_end (P := P) (w := w) (base := base) z  dn_latest_end
  have o_by_latest_end := ok_by_latest_end (P := P) (w := w) (base := base) z o_latest_end dn_by_latest_end
  have o_longest_from := ok_longest_from (P := P) (w := w) (base := base) z o_by_latest_end o_lit_in_turn dn_longest_from
  have o_longest_of := ok_longest_of (P := P) (w := w) (base := base) z o_longest_from dn_longest_of
  have o_all_numbers := ok_all_numbers (P := P) (w := w) (base := base) z  dn_all_numbers
  have o_turns := ok_turns (P := P) (w := w) (base := base) z o_all_numbers o_check_candles o_check_few o_lit_in_turn o_longest_of dn_turns
  have o_planned := ok_planned (P := P) (w := w) (base := base) z o_lit_in_turn dn_planned
  have o_longest := ok_longest (P := P) (w := w) (base := base) z o_all_numbers o_by_latest_end o_check_candles o_planned dn_longest
  have o_is_candle_number := ok_is_candle_number (P := P) (w := w) (base := base) z o_is_within dn_is_candle_number
  have o_check_turn := ok_check_turn (P := P) (w := w) (base := base) z o_is_candle_number dn_check_turn
  have o_by_turn := ok_by_turn (P := P) (w := w) (base := base) z o_check_candles o_check_turn o_planned dn_by_turn
  have o_l_taken := ok_l_taken (P := P) (w := w) (base := base) z  dn_l_taken
  have o_l_candles := ok_l_candles (P := P) (w := w) (base := base) z o_l_taken dn_l_candles
  exact ok_law (P := P) (w := w) (base := base) z (ok_l_all z dn_l_all 6) o_l_candles o_by_turn o_longest o_turns F
end
theorem all_mk {l : PySem.W.OpenLaw} {w : World} {K : PySem.W.Frag} {h : Heap} {mg : Str → Option Value} {fa f0 f1 f2 f3 f4 f5 f6 f7 f8 f9 f10 f11 f12 f13 f14 f15 f16 f17 f18 f19 f20 : Addr} (X : K.In h) (G : h.Ns mainGlobals mg) (hfa : mg "law" = some (.ref fa))
    {od0 an0 od1 an1 od2 an2 od3 an3 od4 an4 od5 an5 od6 an6 od7 an7 od8 an8 od9 an9 od10 an10 od11 an11 od12 an12 od13 an13 od14 an14 od15 an15 od16 an16 od17 an17 od18 an18 od19 an19 od20 an20 : Option Addr} {sl0 sl1 sl2 sl3 sl4 sl5 sl6 sl7 sl8 sl9 sl10 sl11 sl12 sl13 sl14 sl15 sl16 sl17 sl18 sl19 sl20 : Array (Option Value)} {oc0 kV0 dc0 pm0 cd0 ct0 oc1 kV1 dc1 pm1 cd1 ct1 oc2 kV2 dc2 pm2 cd2 ct2 oc3 kV3 dc3 pm3 cd3 ct3 oc4 kV4 dc4 pm4 cd4 ct4 oc5 kV5 dc5 pm5 cd5 ct5 oc6 kV6 dc6 pm6 cd6 ct6 oc7 kV7 dc7 pm7 cd7 ct7 oc8 kV8 dc8 pm8 cd8 ct8 oc9 kV9 dc9 pm9 cd9 ct9 oc10 kV10 dc10 pm10 cd10 ct10 oc11 kV11 dc11 pm11 cd11 ct11 oc12 kV12 dc12 pm12 cd12 ct12 oc13 kV13 dc13 pm13 cd13 ct13 oc14 kV14 dc14 pm14 cd14 ct14 oc15 kV15 dc15 pm15 cd15 ct15 oc16 kV16 dc16 pm16 cd16 ct16 oc17 kV17 dc17 pm17 cd17 ct17 oc18 kV18 dc18 pm18 cd18 ct18 oc19 kV19 dc19 pm19 cd19 ct19 oc20 kV20 dc20 pm20 cd20 ct20 : Value}
    {tg_MOST_CANDLES tg_LONGEST_LENGTH tg_LATEST_DAMP tg_HIGHEST_PRICE tg_MOST_OF_FEW : _}
    (a0 : PySem.W.nsIn K mainGlobals "is_whole" = some (some (.ref f0))) (l0 : K.lookup f0 = some ⟨oc0, od0, .func (PySem.W.fnOf "is_whole" "is_whole" (defArgs s_is_whole) (defBody s_is_whole) (defScope s_is_whole) .none kV0 dc0 pm0 an0 cd0 ct0), sl0⟩) (c0 : PySem.W.codeIn K cd0 "is_whole" = true) (k0 : PySem.W.keepIn K (.ref f0) = true)
    (a1 : PySem.W.nsIn K mainGlobals "is_within" = some (some (.ref f1))) (l1 : K.lookup f1 = some ⟨oc1, od1, .func (PySem.W.fnOf "is_within" "is_within" (defArgs s_is_within) (defBody s_is_within) (defScope s_is_within) .none kV1 dc1 pm1 an1 cd1 ct1), sl1⟩) (c1 : PySem.W.codeIn K cd1 "is_within" = true) (k1 : PySem.W.keepIn K (.ref f1) = true)
    (a2 : PySem.W.nsIn K mainGlobals "is_candle" = some (some (.ref f2))) (l2 : K.lookup f2 = some ⟨oc2, od2, .func (PySem.W.fnOf "is_candle" "is_candle" (defArgs s_is_candle) (defBody s_is_candle) (defScope s_is_candle) .none kV2 dc2 pm2 an2 cd2 ct2), sl2⟩) (c2 : PySem.W.codeIn K cd2 "is_candle" = true) (k2 : PySem.W.keepIn K (.ref f2) = true)
    (a3 : PySem.W.nsIn K mainGlobals "check_candles" = some (some (.ref f3))) (l3 : K.lookup f3 = some ⟨oc3, od3, .func (PySem.W.fnOf "check_candles" "check_candles" (defArgs s_check_candles) (defBody s_check_candles) (defScope s_check_candles) .none kV3 dc3 pm3 an3 cd3 ct3), sl3⟩) (c3 : PySem.W.codeIn K cd3 "check_candles" = true) (k3 : PySem.W.keepIn K (.ref f3) = true)
    (a4 : PySem.W.nsIn K mainGlobals "check_few" = some (some (.ref f4))) (l4 : K.lookup f4 = some ⟨oc4, od4, .func (PySem.W.fnOf "check_few" "check_few" (defArgs s_check_few) (defBody s_check_few) (defScope s_check_few) .none kV4 dc4 pm4 an4 cd4 ct4), sl4⟩) (c4 : PySem.W.codeIn K cd4 "check_few" = true) (k4 : PySem.W.keepIn K (.ref f4) = true)
    (a5 : PySem.W.nsIn K mainGlobals "lit_in_turn" = some (some (.ref f5))) (l5 : K.lookup f5 = some ⟨oc5, od5, .func (PySem.W.fnOf "lit_in_turn" "lit_in_turn" (defArgs s_lit_in_turn) (defBody s_lit_in_turn) (defScope s_lit_in_turn) .none kV5 dc5 pm5 an5 cd5 ct5), sl5⟩) (c5 : PySem.W.codeIn K cd5 "lit_in_turn" = true) (k5 : PySem.W.keepIn K (.ref f5) = true)
    (a6 : PySem.W.nsIn K mainGlobals "latest_end" = some (some (.ref f6))) (l6 : K.lookup f6 = some ⟨oc6, od6, .func (PySem.W.fnOf "latest_end" "latest_end" (defArgs s_latest_end) (defBody s_latest_end) (defScope s_latest_end) .none kV6 dc6 pm6 an6 cd6 ct6), sl6⟩) (c6 : PySem.W.codeIn K cd6 "latest_end" = true) (k6 : PySem.W.keepIn K (.ref f6) = true)
    (a7 : PySem.W.nsIn K mainGlobals "by_latest_end" = some (some (.ref f7))) (l7 : K.lookup f7 = some ⟨oc7, od7, .func (PySem.W.fnOf "by_latest_end" "by_latest_end" (defArgs s_by_latest_end) (defBody s_by_latest_end) (defScope s_by_latest_end) .none kV7 dc7 pm7 an7 cd7 ct7), sl7⟩) (c7 : PySem.W.codeIn K cd7 "by_latest_end" = true) (k7 : PySem.W.keepIn K (.ref f7) = true)
    (a8 : PySem.W.nsIn K mainGlobals "longest_from" = some (some (.ref f8))) (l8 : K.lookup f8 = some ⟨oc8, od8, .func (PySem.W.fnOf "longest_from" "longest_from" (defArgs s_longest_from) (defBody s_longest_from) (defScope s_longest_from) .none kV8 dc8 pm8 an8 cd8 ct8), sl8⟩) (c8 : PySem.W.codeIn K cd8 "longest_from" = true) (k8 : PySem.W.keepIn K (.ref f8) = true)
    (a9 : PySem.W.nsIn K mainGlobals "longest_of" = some (some (.ref f9))) (l9 : K.lookup f9 = some ⟨oc9, od9, .func (PySem.W.fnOf "longest_of" "longest_of" (defArgs s_longest_of) (defBody s_longest_of) (defScope s_longest_of) .none kV9 dc9 pm9 an9 cd9 ct9), sl9⟩) (c9 : PySem.W.codeIn K cd9 "longest_of" = true) (k9 : PySem.W.keepIn K (.ref f9) = true)
    (a10 : PySem.W.nsIn K mainGlobals "all_numbers" = some (some (.ref f10))) (l10 : K.lookup f10 = some ⟨oc10, od10, .func (PySem.W.fnOf "all_numbers" "all_numbers" (defArgs s_all_numbers) (defBody s_all_numbers) (defScope s_all_numbers) .none kV10 dc10 pm10 an10 cd10 ct10), sl10⟩) (c10 : PySem.W.codeIn K cd10 "all_numbers" = true) (k10 : PySem.W.keepIn K (.ref f10) = true)
    (a11 : PySem.W.nsIn K mainGlobals "turns" = some (some (.ref f11))) (l11 : K.lookup f11 = some ⟨oc11, od11, .func (PySem.W.fnOf "turns" "turns" (defArgs s_turns) (defBody s_turns) (defScope s_turns) .none kV11 dc11 pm11 an11 cd11 ct11), sl11⟩) (c11 : PySem.W.codeIn K cd11 "turns" = true) (k11 : PySem.W.keepIn K (.ref f11) = true)
    (a12 : PySem.W.nsIn K mainGlobals "planned" = some (some (.ref f12))) (l12 : K.lookup f12 = some ⟨oc12, od12, .func (PySem.W.fnOf "planned" "planned" (defArgs s_planned) (defBody s_planned) (defScope s_planned) .none kV12 dc12 pm12 an12 cd12 ct12), sl12⟩) (c12 : PySem.W.codeIn K cd12 "planned" = true) (k12 : PySem.W.keepIn K (.ref f12) = true)
    (a13 : PySem.W.nsIn K mainGlobals "longest" = some (some (.ref f13))) (l13 : K.lookup f13 = some ⟨oc13, od13, .func (PySem.W.fnOf "longest" "longest" (defArgs s_longest) (defBody s_longest) (defScope s_longest) .none kV13 dc13 pm13 an13 cd13 ct13), sl13⟩) (c13 : PySem.W.codeIn K cd13 "longest" = true) (k13 : PySem.W.keepIn K (.ref f13) = true)
    (a14 : PySem.W.nsIn K mainGlobals "is_candle_number" = some (some (.ref f14))) (l14 : K.lookup f14 = some ⟨oc14, od14, .func (PySem.W.fnOf "is_candle_number" "is_candle_number" (defArgs s_is_candle_number) (defBody s_is_candle_number) (defScope s_is_candle_number) .none kV14 dc14 pm14 an14 cd14 ct14), sl14⟩) (c14 : PySem.W.codeIn K cd14 "is_candle_number" = true) (k14 : PySem.W.keepIn K (.ref f14) = true)
    (a15 : PySem.W.nsIn K mainGlobals "check_turn" = some (some (.ref f15))) (l15 : K.lookup f15 = some ⟨oc15, od15, .func (PySem.W.fnOf "check_turn" "check_turn" (defArgs s_check_turn) (defBody s_check_turn) (defScope s_check_turn) .none kV15 dc15 pm15 an15 cd15 ct15), sl15⟩) (c15 : PySem.W.codeIn K cd15 "check_turn" = true) (k15 : PySem.W.keepIn K (.ref f15) = true)
    (a16 : PySem.W.nsIn K mainGlobals "by_turn" = some (some (.ref f16))) (l16 : K.lookup f16 = some ⟨oc16, od16, .func (PySem.W.fnOf "by_turn" "by_turn" (defArgs s_by_turn) (defBody s_by_turn) (defScope s_by_turn) .none kV16 dc16 pm16 an16 cd16 ct16), sl16⟩) (c16 : PySem.W.codeIn K cd16 "by_turn" = true) (k16 : PySem.W.keepIn K (.ref f16) = true)
    (a17 : PySem.W.nsIn K mainGlobals "_law_taken" = some (some (.ref f17))) (l17 : K.lookup f17 = some ⟨oc17, od17, .func (PySem.W.fnOf "_law_taken" "_law_taken" (defArgs s_l_taken) (defBody s_l_taken) (defScope s_l_taken) .none kV17 dc17 pm17 an17 cd17 ct17), sl17⟩) (c17 : PySem.W.codeIn K cd17 "_law_taken" = true) (k17 : PySem.W.keepIn K (.ref f17) = true)
    (a18 : PySem.W.nsIn K mainGlobals "_law_candles" = some (some (.ref f18))) (l18 : K.lookup f18 = some ⟨oc18, od18, .func (PySem.W.fnOf "_law_candles" "_law_candles" (defArgs s_l_candles) (defBody s_l_candles) (defScope s_l_candles) .none kV18 dc18 pm18 an18 cd18 ct18), sl18⟩) (c18 : PySem.W.codeIn K cd18 "_law_candles" = true) (k18 : PySem.W.keepIn K (.ref f18) = true)
    (a19 : PySem.W.nsIn K mainGlobals "_law_all" = some (some (.ref f19))) (l19 : K.lookup f19 = some ⟨oc19, od19, .func (PySem.W.fnOf "_law_all" "_law_all" (defArgs s_l_all) (defBody s_l_all) (defScope s_l_all) .none kV19 dc19 pm19 an19 cd19 ct19), sl19⟩) (c19 : PySem.W.codeIn K cd19 "_law_all" = true) (k19 : PySem.W.keepIn K (.ref f19) = true)
    (a20 : PySem.W.nsIn K mainGlobals "law" = some (some (.ref f20))) (l20 : K.lookup f20 = some ⟨oc20, od20, .func (PySem.W.fnOf "law" "law" (defArgs s_law) (defBody s_law) (defScope s_law) .none kV20 dc20 pm20 an20 cd20 ct20), sl20⟩) (c20 : PySem.W.codeIn K cd20 "law" = true) (k20 : PySem.W.keepIn K (.ref f20) = true)
    (z_len : PySem.W.nsIn K mainGlobals "len" = some none)
    (z_int : PySem.W.nsIn K mainGlobals "int" = some none)
    (z_bool : PySem.W.nsIn K mainGlobals "bool" = some none)
    (z_tuple : PySem.W.nsIn K mainGlobals "tuple" = some none)
    (z_list : PySem.W.nsIn K mainGlobals "list" = some none)
    (z_isinstance : PySem.W.nsIn K mainGlobals "isinstance" = some none)
    (z_enumerate : PySem.W.nsIn K mainGlobals "enumerate" = some none)
    (z_range : PySem.W.nsIn K mainGlobals "range" = some none)
    (z_sum : PySem.W.nsIn K mainGlobals "sum" = some none)
    (z_min : PySem.W.nsIn K mainGlobals "min" = some none)
    (z_max : PySem.W.nsIn K mainGlobals "max" = some none)
    (z_sorted : PySem.W.nsIn K mainGlobals "sorted" = some none)
    (z_MOST_CANDLES : PySem.W.nsIn K mainGlobals "MOST_CANDLES" = some (some (.int 12 tg_MOST_CANDLES)))
    (z_LONGEST_LENGTH : PySem.W.nsIn K mainGlobals "LONGEST_LENGTH" = some (some (.int 99 tg_LONGEST_LENGTH)))
    (z_LATEST_DAMP : PySem.W.nsIn K mainGlobals "LATEST_DAMP" = some (some (.int 999 tg_LATEST_DAMP)))
    (z_HIGHEST_PRICE : PySem.W.nsIn K mainGlobals "HIGHEST_PRICE" = some (some (.int 99 tg_HIGHEST_PRICE)))
    (z_MOST_OF_FEW : PySem.W.nsIn K mainGlobals "MOST_OF_FEW" = some (some (.int 8 tg_MOST_OF_FEW)))
    (z_permutations : PySem.W.nsIn K mainGlobals "permutations" = some (some (.type "itertools.permutations")))
    : ∃ fd : FuncData, (∀ (s : Shared) (v : Value), BindsTo s fd ⟨[v], []⟩ [("_law_script", v)]) ∧ ∀ base : Heap, K.In base → base.Ns mainGlobals mg → FnOk l.prog w K mg base CX0 7 fa fd ["_law_script"] (liftSp K sp_law) := by
  have e := hfa.symm.trans (PySem.W.mg_of X G a20)
  cases e
  have F0 := fun_mk (st := s_is_whole) l0 c0 k0
  have d0 : Dn K mg "is_whole" p_is_whole s_is_whole := ⟨f0, _, F0, PySem.W.mg_of X G a0, F0.binds (ps := p_is_whole) fun _ _ _ _ _ _ us hl => match us, hl with | [_], _ => rfl⟩
  have F1 := fun_mk (st := s_is_within) l1 c1 k1
  have d1 : Dn K mg "is_within" p_is_within s_is_within := ⟨f1, _, F1, PySem.W.mg_of X G a1, F1.binds (ps := p_is_within) fun _ _ _ _ _ _ us hl => match us, hl with | [_, _, _], _ => rfl⟩
  have F2 := fun_mk (st := s_is_candle) l2 c2 k2
  have d2 : Dn K mg "is_candle" p_is_candle s_is_candle := ⟨f2, _, F2, PySem.W.mg_of X G a2, F2.binds (ps := p_is_candle) fun _ _ _ _ _ _ us hl => match us, hl with | [_], _ => rfl⟩
  have F3 := fun_mk (st := s_check_candles) l3 c3 k3
  have d3 : Dn K mg "check_candles" p_check_candles s_check_candles := ⟨f3, _, F3, PySem.W.mg_of X G a3, F3.binds (ps := p_check_candles) fun _ _ _ _ _ _ us hl => match us, hl with | [_], _ => rfl⟩
  have F4 := fun_mk (st := s_check_few) l4 c4 k4
  have d4 : Dn K mg "check_few" p_check_few s_check_few := ⟨f4, _, F4, PySem.W.mg_of X G a4, F4.binds (ps := p_check_few) fun _ _ _ _ _ _ us hl => match us, hl with | [_], _ => rfl⟩
  have F5 := fun_mk (st := s_lit_in_turn) l5 c5 k5
  have d5 : Dn K mg "lit_in_turn" p_lit_in_turn s_lit_in_turn := ⟨f5, _, F5, PySem.W.mg_of X G a5, F5.binds (ps := p_lit_in_turn) fun _ _ _ _ _ _ us hl => match us, hl with | [_, _, _], _ => rfl⟩
  have F6 := fun_mk (st := s_latest_end) l6 c6 k6
  have d6 : Dn K mg "latest_end" p_latest_end s_latest_end := ⟨f6, _, F6, PySem.W.mg_of X G a6, F6.binds (ps := p_latest_end) fun _ _ _ _ _ _ us hl => match us, hl with | [_], _ => rfl⟩
  have F7 := fun_mk (st := s_by_latest_end) l7 c7 k7
  have d7 : Dn K mg "by_latest_end" p_by_latest_end s_by_latest_end := ⟨f7, _, F7, PySem.W.mg_of X G a7, F7.binds (ps := p_by_latest_end) fun _ _ _ _ _ _ us hl => match us, hl with | [_, _], _ => rfl⟩
  have F8 := fun_mk (st := s_longest_from) l8 c8 k8
  have d8 : Dn K mg "longest_from" p_longest_from s_longest_from := ⟨f8, _, F8, PySem.W.mg_of X G a8, F8.binds (ps := p_longest_from) fun _ _ _ _ _ _ us hl => match us, hl with | [_, _, _], _ => rfl⟩
  have F9 := fun_mk (st := s_longest_of) l9 c9 k9
  have d9 : Dn K mg "longest_of" p_longest_of s_longest_of := ⟨f9, _, F9, PySem.W.mg_of X G a9, F9.binds (ps := p_longest_of) fun _ _ _ _ _ _ us hl => match us, hl with | [_, _], _ => rfl⟩
  have F10 := fun_mk (st := s_all_numbers) l10 c10 k10
  have d10 : Dn K mg "all_numbers" p_all_numbers s_all_numbers := ⟨f10, _, F10, PySem.W.mg_of X G a10, F10.binds (ps := p_all_numbers) fun _ _ _ _ _ _ us hl => match us, hl with | [_], _ => rfl⟩
  have F11 := fun_mk (st := s_turns) l11 c11 k11
  have d11 : Dn K mg "turns" p_turns s_turns := ⟨f11, _, F11, PySem.W.mg_of X G a11, F11.binds (ps := p_turns) fun _ _ _ _ _ _ us hl => match us, hl with | [_], _ => rfl⟩
  have F12 := fun_mk (st := s_planned) l12 c12 k12
  have d12 : Dn K mg "planned" p_planned s_planned := ⟨f12, _, F12, PySem.W.mg_of X G a12, F12.binds (ps := p_planned) fun _ _ _ _ _ _ us hl => match us, hl with | [_, _], _ => rfl⟩
  have F13 := fun_mk (st := s_longest) l13 c13 k13
  have d13 : Dn K mg "longest" p_longest s_longest := ⟨f13, _, F13, PySem.W.mg_of X G a13, F13.binds (ps := p_longest) fun _ _ _ _ _ _ us hl => match us, hl with | [_], _ => rfl⟩
  have F14 := fun_mk (st := s_is_candle_number) l14 c14 k14
  have d14 : Dn K mg "is_candle_number" p_is_candle_number s_is_candle_number := ⟨f14, _, F14, PySem.W.mg_of X G a14, F14.binds (ps := p_is_candle_number) fun _ _ _ _ _ _ us hl => match us, hl with | [_, _], _ => rfl⟩
  have F15 := fun_mk (st := s_check_turn) l15 c15 k15
  have d15 : Dn K mg "check_turn" p_check_turn s_check_turn := ⟨f15, _, F15, PySem.W.mg_of X G a15, F15.binds (ps := p_check_turn) fun _ _ _ _ _ _ us hl => match us, hl with | [_, _], _ => rfl⟩
  have F16 := fun_mk (st := s_by_turn) l16 c16 k16
  have d16 : Dn K mg "by_turn" p_by_turn s_by_turn := ⟨f16, _, F16, PySem.W.mg_of X G a16, F16.binds (ps := p_by_turn) fun _ _ _ _ _ _ us hl => match us, hl with | [_, _], _ => rfl⟩
  have F17 := fun_mk (st := s_l_taken) l17 c17 k17
  have d17 : Dn K mg "_law_taken" p_l_taken s_l_taken := ⟨f17, _, F17, PySem.W.mg_of X G a17, F17.binds (ps := p_l_taken) fun _ _ _ _ _ _ us hl => match us, hl with | [_, _], _ => rfl⟩
  have F18 := fun_mk (st := s_l_candles) l18 c18 k18
  have d18 : Dn K mg "_law_candles" p_l_candles s_l_candles := ⟨f18, _, F18, PySem.W.mg_of X G a18, F18.binds (ps := p_l_candles) fun _ _ _ _ _ _ us hl => match us, hl with | [_, _, _], _ => rfl⟩
  have F19 := fun_mk (st := s_l_all) l19 c19 k19
  have d19 : Dn K mg "_law_all" p_l_all s_l_all := ⟨f19, _, F19, PySem.W.mg_of X G a19, F19.binds (ps := p_l_all) fun _ _ _ _ _ _ us hl => match us, hl with | [_], _ => rfl⟩
  have F20 := fun_mk (st := s_law) l20 c20 k20
  have z : Zs mg := ⟨PySem.W.mg_none_of X G z_len, PySem.W.mg_none_of X G z_int, PySem.W.mg_none_of X G z_bool, PySem.W.mg_none_of X G z_tuple, PySem.W.mg_none_of X G z_list, PySem.W.mg_none_of X G z_isinstance, PySem.W.mg_none_of X G z_enumerate, PySem.W.mg_none_of X G z_range, PySem.W.mg_none_of X G z_sum, PySem.W.mg_none_of X G z_min, PySem.W.mg_none_of X G z_max, PySem.W.mg_none_of X G z_sorted, ⟨_, PySem.W.mg_of X G z_MOST_CANDLES⟩, ⟨_, PySem.W.mg_of X G z_LONGEST_LENGTH⟩, ⟨_, PySem.W.mg_of X G z_LATEST_DAMP⟩, ⟨_, PySem.W.mg_of X G z_HIGHEST_PRICE⟩, ⟨_, PySem.W.mg_of X G z_MOST_OF_FEW⟩, PySem.W.mg_of X G z_permutations⟩
  refine ⟨PySem.W.fnOf "law" "law" (defArgs s_law) (defBody s_law) (defScope s_law) .none kV20 dc20 pm20 an20 cd20 ct20, fun s v => .of_eq rfl, fun base _ _ => ?_⟩
  exact all_ok (P := l.prog) (w := w) (base := base) z d0 d1 d2 d3 d4 d5 d6 d7 d8 d9 d10 d11 d12 d13 d14 d15 d16 d17 d18 d19 F20
theorem law_start {K : PySem.W.Frag} {H : Hp} {a : Addr} {ns : List Int} (hS : SqL K H a (ns.map V.int)) : liftSp K sp_law [.ref a] H (fun v _ => v = .bl true) fun _ _ _ => False := by
  refine ⟨fun _ => False, [.scr ns], (fun _ h => h.elim), .cons (.scr ?_) .nil, ns, rfl, fun v H' _ r => by cases r; rfl⟩
  rcases hS with (h | h) | h
  · exact .inl ⟨fun z => z, h⟩
  · exact .inr (.inl h)
  · exact .inr (.inr h)
end FW
set_option Elab.async false
set_option linter.all false
set_option maxRecDepth 100000
open PySem PySem.W PyProof.Rows
set_option maxHeartbeats 0 in
theorem PySem.Challenge.cw_flameward_k21_whole_turns_counted_holds : PySem.Challenge.rw_flameward_k21_whole_turns_counted.Holds := by
  w_on; o_law; k_head; (case hw => w_witness2)
  k_fill
  refine L2.walk_of (l := PySem.Challenge.rw_flameward_k21_whole_turns_counted) (n := 63) (k := 7) (x := "_law_script") (CX := fun _ => L2.CX0) (sp := fun w => AL.liftSp _ FW.sp_law) rfl (by decide) rfl ⟨rfl, by decide, by decide⟩ (fun w h Y => PySem.W.kIn_of Y) ?F (fun _ _ a ns hl _ hS => FW.law_start hS) (fun _ _ _ _ _ h => h)
  case F =>
    intro w mg fa h KX G hmg
    refine' FW.all_mk KX G hmg ?a0 ?l0 ?c0 ?k0 ?a1 ?l1 ?c1 ?k1 ?a2 ?l2 ?c2 ?k2 ?a3 ?l3 ?c3 ?k3 ?a4 ?l4 ?c4 ?k4 ?a5 ?l5 ?c5 ?k5 ?a6 ?l6 ?c6 ?k6 ?a7 ?l7 ?c7 ?k7 ?a8 ?l8 ?c8 ?k8 ?a9 ?l9 ?c9 ?k9 ?a10 ?l10 ?c10 ?k10 ?a11 ?l11 ?c11 ?k11 ?a12 ?l12 ?c12 ?k12 ?a13 ?l13 ?c13 ?k13 ?a14 ?l14 ?c14 ?k14 ?a15 ?l15 ?c15 ?k15 ?a16 ?l16 ?c16 ?k16 ?a17 ?l17 ?c17 ?k17 ?a18 ?l18 ?c18 ?k18 ?a19 ?l19 ?c19 ?k19 ?a20 ?l20 ?c20 ?k20 ?z_len ?z_int ?z_bool ?z_tuple ?z_list ?z_isinstance ?z_enumerate ?z_range ?z_sum ?z_min ?z_max ?z_sorted ?z_MOST_CANDLES ?z_LONGEST_LENGTH ?z_LATEST_DAMP ?z_HIGHEST_PRICE ?z_MOST_OF_FEW ?z_permutations
    (case a0 => k_is)
    (case l0 => k_is)
    (case c0 => k_is)
    (case k0 => k_is)
    (case a1 => k_is)
    (case l1 => k_is)
    (case c1 => k_is)
    (case k1 => k_is)
    (case a2 => k_is)
    (case l2 => k_is)
    (case c2 => k_is)
    (case k2 => k_is)
    (case a3 => k_is)
    (case l3 => k_is)
    (case c3 => k_is)
    (case k3 => k_is)
    (case a4 => k_is)
    (case l4 => k_is)
    (case c4 => k_is)
    (case k4 => k_is)
    (case a5 => k_is)
    (case l5 => k_is)
    (case c5 => k_is)
    (case k5 => k_is)
    (case a6 => k_is)
    (case l6 => k_is)
    (case c6 => k_is)
    (case k6 => k_is)
    (case a7 => k_is)
    (case l7 => k_is)
    (case c7 => k_is)
    (case k7 => k_is)
    (case a8 => k_is)
    (case l8 => k_is)
    (case c8 => k_is)
    (case k8 => k_is)
    (case a9 => k_is)
    (case l9 => k_is)
    (case c9 => k_is)
    (case k9 => k_is)
    (case a10 => k_is)
    (case l10 => k_is)
    (case c10 => k_is)
    (case k10 => k_is)
    (case a11 => k_is)
    (case l11 => k_is)
    (case c11 => k_is)
    (case k11 => k_is)
    (case a12 => k_is)
    (case l12 => k_is)
    (case c12 => k_is)
    (case k12 => k_is)
    (case a13 => k_is)
    (case l13 => k_is)
    (case c13 => k_is)
    (case k13 => k_is)
    (case a14 => k_is)
    (case l14 => k_is)
    (case c14 => k_is)
    (case k14 => k_is)
    (case a15 => k_is)
    (case l15 => k_is)
    (case c15 => k_is)
    (case k15 => k_is)
    (case a16 => k_is)
    (case l16 => k_is)
    (case c16 => k_is)
    (case k16 => k_is)
    (case a17 => k_is)
    (case l17 => k_is)
    (case c17 => k_is)
    (case k17 => k_is)
    (case a18 => k_is)
    (case l18 => k_is)
    (case c18 => k_is)
    (case k18 => k_is)
    (case a19 => k_is)
    (case l19 => k_is)
    (case c19 => k_is)
    (case k19 => k_is)
    (case a20 => k_is)
    (case l20 => k_is)
    (case c20 => k_is)
    (case k20 => k_is)
    (case z_len => k_is)
    (case z_int => k_is)
    (case z_bool => k_is)
    (case z_tuple => k_is)
    (case z_list => k_is)
    (case z_isinstance => k_is)
    (case z_enumerate => k_is)
    (case z_range => k_is)
    (case z_sum => k_is)
    (case z_min => k_is)
    (case z_max => k_is)
    (case z_sorted => k_is)
    (case z_MOST_CANDLES => k_is)
    (case z_LONGEST_LENGTH => k_is)
    (case z_LATEST_DAMP => k_is)
    (case z_HIGHEST_PRICE => k_is)
    (case z_MOST_OF_FEW => k_is)
    (case z_permutations => k_is)

